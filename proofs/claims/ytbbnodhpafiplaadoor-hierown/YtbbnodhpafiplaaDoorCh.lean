import Derived.Test.YtbbnodhpafiplaaDoorCf
namespace Go.Proofs.YtbbnodhpafiplaaDoor
open Go.RowKit
set_option linter.unusedVariables false
set_option linter.unusedSimpArgs false
def flS (d : Dro) (s : Slo) : Slo := if fkF d s = true then sZ else s
def flM (L : List Slo) (d : Dro) (k : Nat) : List Slo := (L.take k).map (flS d) ++ L.drop k
theorem flM_len (L : List Slo) (d : Dro) (k : Nat) (hk : k ≤ L.length) : (flM L d k).length = L.length := by
  simp [flM]; omega
theorem flM_at {L : List Slo} (d : Dro) {k : Nat} (hk : k < L.length) : (flM L d k)[k]? = L[k]? := by
  unfold flM
  rw [List.getElem?_append_right (by simp; omega), List.getElem?_drop]
  simp
  congr 1
  omega
theorem flM_next {L : List Slo} (d : Dro) {k : Nat} {s : Slo} (hs : L[k]? = some s) : flM L d (k + 1) = (flM L d k).set k (flS d s) := by
  have hk := (List.getElem?_eq_some_iff.1 hs).1
  have he := (List.getElem?_eq_some_iff.1 hs).2
  unfold flM
  rw [List.take_add_one, hs, List.set_append_right _ _ (by simp; omega), show k - ((L.take k).map (flS d)).length = 0 by simp; omega]
  simp
  rw [List.drop_eq_getElem_cons hk]
  rfl
theorem flM_same {L : List Slo} (d : Dro) {k : Nat} {s : Slo} (hs : L[k]? = some s) (h : fkF d s = false) : flM L d (k + 1) = flM L d k := by
  have hk := (List.getElem?_eq_some_iff.1 hs).1
  rw [flM_next d hs]
  have h1 : flS d s = s := by simp [flS, h]
  rw [h1]
  have h2 := (flM_at d hk).trans hs
  apply List.ext_getElem?
  intro i
  by_cases hi : i = k
  · subst hi
    rw [List.getElem?_set_self (by rw [flM_len _ _ _ (by omega)]; exact hk), h2]
  · rw [List.getElem?_set_ne (by omega)]
theorem flM_zero (L : List Slo) (d : Dro) : flM L d 0 = L := by simp [flM]
theorem flM_all (L : List Slo) (d : Dro) : flM L d L.length = (flF L d).2 := by
  simp [flM, flF]
  intro a _
  rfl
/-- Flush: what has turned, the TLB, the dropping's box, the tables. -/
structure FX (W wr : World) (p g D : Nat) (L : List Slo) (d : Dro) : Prop where
  trn : Turn (· = g) W wr
  pt : PT 95 wr p g L
  bd : Bl wr D 42 ([.int .i64 d.kind, .int .u32 d.va, .int .i64 d.asid])
  tr : TR wr
section
variable {W wr w' : World} {p g D : Nat} {L : List Slo} {d : Dro}
theorem FX.step (h : FX W wr p g D L d) (hb : Below wr.heap.size wr w') : FX W w' p g D L d := ⟨h.trn.then (Turn.below hb), h.pt.below hb, h.bd.below hb, h.tr.below hb⟩
theorem FX.putZ (h : FX W wr p g D L d) (k : Nat) (hk : k < L.length) : FX W ((((((((((wr.setCell ⟨g, k * 10, none⟩ (.bool false)).setCell ⟨g, k * 10 + 1, none⟩ (.int .i64 0)).setCell ⟨g, k * 10 + 2, none⟩ (.int .i64 0)).setCell ⟨g, k * 10 + 3, none⟩ (.int .u32 0)).setCell ⟨g, k * 10 + 4, none⟩ (.int .u64 0)).setCell ⟨g, k * 10 + 5, none⟩ (.int .i64 0)).setCell ⟨g, k * 10 + 6, none⟩ (.int .i64 0)).setCell ⟨g, k * 10 + 7, none⟩ (.int .u32 0)).setCell ⟨g, k * 10 + 8, none⟩ (.bool false)).setCell ⟨g, k * 10 + 9, none⟩ (.bool false)) p g D (L.set k sZ) d := by
  have hT := turn_putZ (w := wr) (S := (· = g)) rfl k h.pt.row.lt
  have hn : D ≠ g := h.bd.ne h.pt.row (by decide)
  exact ⟨h.trn.then hT, h.pt.putZ k hk, h.bd.turn hT hn, h.pt.tr h.tr hT⟩
end
set_option maxRecDepth 100000 in
set_option maxHeartbeats 8000000 in
theorem flush_1 (W : World) (p g : Nat) (L : List Slo) (d : Dro) (hP : PT 95 W p g L) (ht : TR W) (hd : 0 ≤ d.va ∧ d.va < 4294967296) (hk : ∀ b, pkF d b = true) (hQ : Pkd d (fun _ => .func (.func 64) #[] #[])) :
    Calls Tryd.prog 37 #[.pointer (some ⟨p, 0, none⟩), .agg #[.int .i64 d.kind, .int .u32 d.va, .int .i64 d.asid]] W fun e w' => e = .returned (.int .i64 ((flF L d).1 : Nat)) ∧ PT 95 w' p g (flF L d).2 ∧ Turn (· = g) W w' := by
  have HP : Hid (∀ W, Calls Tryd.prog 50 #[.agg #[.int .i64 d.kind, .int .u32 d.va, .int .i64 d.asid]] W fun e w' => e = .returned ((fun _ => .func (.func 64) #[] #[]) W.heap.size) ∧ Bl w' W.heap.size 42 ([.int .i64 d.kind, .int .u32 d.va, .int .i64 d.asid]) ∧ Below W.heap.size W w') := hQ
  dsimp only at HP
  have HW := hidW (And.intro hP ht)
  have hn := hP.hi
  have HK := hidW hk
  have HB0 := hidW (below_new W (.cells ([.int .i64 d.kind, .int .u32 d.va, .int .i64 d.asid]).toArray 42))
  clear hP ht hQ hk
  generalize hl : L.length = n at *
  have HN : Hid (L.length = n) := hl
  clear hl
  go_enter Tryd.func37, Tryd.ntmps37
  go_wp2_with (fail)
  go_at_call 50
  refine (HP.out _).mono ?_
  rintro e w1 ⟨rfl, hy, hb⟩
  have HX0 : Hid (FX W w1 p g (W.alloc (.cells ([.int .i64 d.kind, .int .u32 d.va, .int .i64 d.asid]).toArray 42)).heap.size (flM L d 0) d) := by
    have h1 := Below.step HB0.out hb
    rw [flM_zero]
    exact hidW ⟨Turn.below h1, HW.out.1.below h1, hy, HW.out.2.below h1⟩
  clear hy hb HB0 HW HP
  generalize (W.alloc (.cells ([.int .i64 d.kind, .int .u32 d.va, .int .i64 d.asid]).toArray 42)).heap.size = D at *
  have c0 := HX0.out.pt.cell
  rw [flM_zero, HN.out] at c0
  go_wp2
  clear c0
  go_loopw [6, 16] (fun c i wr => ∃ k : Nat, k ≤ n ∧ c = .int .i64 (((L.take k).countP (fkF d) : Nat) : Int) ∧ i = .int .i64 k ∧ FX W wr p g D (flM L d k) d) (fun _ i _ => n - (intOf i).toNat)
  case atStart => exact ⟨0, by omega, by simp, rfl, HX0.out⟩
  case round =>
    obtain ⟨k, hk, rfl, rfl, hX⟩ := hrel
    have HX := hidW hX
    clear hX HX0
    have hc : (L.take k).countP (fkF d) ≤ k := by
      have h1 := List.countP_le_length (p := fkF d) (l := L.take k)
      rw [List.length_take] at h1
      omega
    by_cases hlt : k < n
    · have hlL : k < L.length := by rw [HN.out]; exact hlt
      obtain ⟨s, hs, hok, e0, e1, e2, e3, e4, e5, e6, e7, e8, e9⟩ := HX.out.pt.at (k := k) (by rw [flM_len _ _ _ (by omega)]; exact hlL)
      rw [flM_at d hlL] at hs
      have HQ := hidW (countP_take (fkF d) hs)
      have HS := hidW hok
      have HL := hidW hs
      have HAl := fun o => hidW (HX.out.step (below_new _ o))
      have hML : Hid ((flM L d k).length = n) := by rw [flM_len _ _ _ (by omega)]; exact HN
      have HF1 : Hid (fkF d s = false → flM L d (k + 1) = flM L d k) := hidW (fun h => flM_same d hs h)
      have HF2 : Hid (fkF d s = true → flM L d (k + 1) = (flM L d k).set k sZ) := hidW (fun h => by rw [flM_next d hs]; simp [flS, h])
      clear HX hs hok hlL
      generalize (L.take k).countP (fkF d) = C at *
      obtain ⟨fu, sb⟩ := s
      dsimp only at *
      cases fu
      · have hf : fkF d ⟨false, sb⟩ = false := rfl
        have HM := hidW (HF1.out hf)
        have HQ2 : Hid ((L.take (k + 1)).countP (fkF d) = C) := hidW (by have := HQ.out; rw [hf] at this; simpa using this)
        clear HF1 HF2 HQ hf HS HL HK
        go_wp2
        go_roundw
        case rel => exact ⟨k + 1, by omega, by rw [HQ2.out], by go_num, by rw [HM.out]; exact (HAl _).out⟩
        case measure => simp [intOf]; omega
      · have hr : bR sb = true := HS.out.yes rfl
        have HO := hidW HS.out.ok
        have hf : fkF d ⟨true, sb⟩ = pkF d sb := by simp [fkF, tkF, hr]
        rw [hf] at HF1 HF2 HQ
        rw [HK.out] at HF1 HF2 HQ
        clear HS hr hf HK HL
        go_wp2_with (fail)
        go_at_call 64
        refine (pk1_any sb _).mono ?_
        rintro e w2 ⟨rfl, hb⟩
        have HX2 := hidW ((HAl _).out.step hb)
        clear hb HAl e0 e1 e2 e3 e4 e5 e6 e7 e8 e9
        have HM := hidW (HF2.out (by first | rfl | trivial))
        have HQ2 : Hid ((L.take (k + 1)).countP (fkF d) = C + 1) := hidW (by simpa using HQ.out)
        clear HF1 HF2 HQ
        have c0 := HX2.out.pt.cell
        rw [hML.out] at c0
        have f0 := HX2.out.pt.row.frozen
        have l0 := HX2.out.pt.row.lt
        obtain ⟨y, _, _, x0, x1, x2, x3, x4, x5, x6, x7, x8, x9⟩ := HX2.out.pt.at (k := k) (by rw [hML.out]; exact hlt)
        have HX3 := hidW (HX2.out.putZ k (by rw [hML.out]; exact hlt))
        clear HX2
        go_wp2
        go_roundw
        case rel => exact ⟨k + 1, by omega, by rw [HQ2.out]; go_num, by go_num, by rw [HM.out]; exact HX3.out⟩
        case measure => simp [intOf]; omega
    · obtain rfl : k = n := by omega
      have HM : Hid (flM L d k = (flF L d).2) := hidW (by rw [← HN.out]; exact flM_all L d)
      go_wp2
      go_ret
      exact ⟨by rw [← HN.out, List.take_length]; rfl, by rw [← HM.out]; exact HX.out.pt, HX.out.trn⟩
set_option maxRecDepth 100000 in
set_option maxHeartbeats 8000000 in
theorem flush_2 (W : World) (p g : Nat) (L : List Slo) (d : Dro) (hP : PT 95 W p g L) (ht : TR W) (hd : 0 ≤ d.va ∧ d.va < 4294967296) (hk : ∀ b, pkF d b = maF b d.va d.asid) (hQ : Pkd d (fun x => .func (.func 65) #[] #[.pointer (some ⟨x, 0, none⟩)])) :
    Calls Tryd.prog 37 #[.pointer (some ⟨p, 0, none⟩), .agg #[.int .i64 d.kind, .int .u32 d.va, .int .i64 d.asid]] W fun e w' => e = .returned (.int .i64 ((flF L d).1 : Nat)) ∧ PT 95 w' p g (flF L d).2 ∧ Turn (· = g) W w' := by
  have HP : Hid (∀ W, Calls Tryd.prog 50 #[.agg #[.int .i64 d.kind, .int .u32 d.va, .int .i64 d.asid]] W fun e w' => e = .returned ((fun x => .func (.func 65) #[] #[.pointer (some ⟨x, 0, none⟩)]) W.heap.size) ∧ Bl w' W.heap.size 42 ([.int .i64 d.kind, .int .u32 d.va, .int .i64 d.asid]) ∧ Below W.heap.size W w') := hQ
  dsimp only at HP
  have HW := hidW (And.intro hP ht)
  have hn := hP.hi
  have HK := hidW hk
  have HB0 := hidW (below_new W (.cells ([.int .i64 d.kind, .int .u32 d.va, .int .i64 d.asid]).toArray 42))
  clear hP ht hQ hk
  generalize hl : L.length = n at *
  have HN : Hid (L.length = n) := hl
  clear hl
  go_enter Tryd.func37, Tryd.ntmps37
  go_wp2_with (fail)
  go_at_call 50
  refine (HP.out _).mono ?_
  rintro e w1 ⟨rfl, hy, hb⟩
  have HX0 : Hid (FX W w1 p g (W.alloc (.cells ([.int .i64 d.kind, .int .u32 d.va, .int .i64 d.asid]).toArray 42)).heap.size (flM L d 0) d) := by
    have h1 := Below.step HB0.out hb
    rw [flM_zero]
    exact hidW ⟨Turn.below h1, HW.out.1.below h1, hy, HW.out.2.below h1⟩
  clear hy hb HB0 HW HP
  generalize (W.alloc (.cells ([.int .i64 d.kind, .int .u32 d.va, .int .i64 d.asid]).toArray 42)).heap.size = D at *
  have c0 := HX0.out.pt.cell
  rw [flM_zero, HN.out] at c0
  go_wp2
  clear c0
  go_loopw [6, 16] (fun c i wr => ∃ k : Nat, k ≤ n ∧ c = .int .i64 (((L.take k).countP (fkF d) : Nat) : Int) ∧ i = .int .i64 k ∧ FX W wr p g D (flM L d k) d) (fun _ i _ => n - (intOf i).toNat)
  case atStart => exact ⟨0, by omega, by simp, rfl, HX0.out⟩
  case round =>
    obtain ⟨k, hk, rfl, rfl, hX⟩ := hrel
    have HX := hidW hX
    clear hX HX0
    have hc : (L.take k).countP (fkF d) ≤ k := by
      have h1 := List.countP_le_length (p := fkF d) (l := L.take k)
      rw [List.length_take] at h1
      omega
    by_cases hlt : k < n
    · have hlL : k < L.length := by rw [HN.out]; exact hlt
      obtain ⟨s, hs, hok, e0, e1, e2, e3, e4, e5, e6, e7, e8, e9⟩ := HX.out.pt.at (k := k) (by rw [flM_len _ _ _ (by omega)]; exact hlL)
      rw [flM_at d hlL] at hs
      have HQ := hidW (countP_take (fkF d) hs)
      have HS := hidW hok
      have HL := hidW hs
      have HAl := fun o => hidW (HX.out.step (below_new _ o))
      have hML : Hid ((flM L d k).length = n) := by rw [flM_len _ _ _ (by omega)]; exact HN
      have HF1 : Hid (fkF d s = false → flM L d (k + 1) = flM L d k) := hidW (fun h => flM_same d hs h)
      have HF2 : Hid (fkF d s = true → flM L d (k + 1) = (flM L d k).set k sZ) := hidW (fun h => by rw [flM_next d hs]; simp [flS, h])
      clear HX hs hok hlL
      generalize (L.take k).countP (fkF d) = C at *
      obtain ⟨fu, sb⟩ := s
      dsimp only at *
      cases fu
      · have hf : fkF d ⟨false, sb⟩ = false := rfl
        have HM := hidW (HF1.out hf)
        have HQ2 : Hid ((L.take (k + 1)).countP (fkF d) = C) := hidW (by have := HQ.out; rw [hf] at this; simpa using this)
        clear HF1 HF2 HQ hf HS HL HK
        go_wp2
        go_roundw
        case rel => exact ⟨k + 1, by omega, by rw [HQ2.out], by go_num, by rw [HM.out]; exact (HAl _).out⟩
        case measure => simp [intOf]; omega
      · have hr : bR sb = true := HS.out.yes rfl
        have HO := hidW HS.out.ok
        have hf : fkF d ⟨true, sb⟩ = pkF d sb := by simp [fkF, tkF, hr]
        rw [hf] at HF1 HF2 HQ
        rw [HK.out] at HF1 HF2 HQ
        clear HS hr hf HK HL
        generalize hZ : (maF sb d.va d.asid) = Z at *
        have HZ : Hid ((maF sb d.va d.asid) = Z) := hZ
        clear hZ
        go_wp2_with (fail)
        go_at_call 65
        refine (pk2_any sb d _ _ (HAl _).out.bd (HAl _).out.tr.tb HO.out hd).mono ?_
        rintro e w2 ⟨rfl, hb⟩
        have HX2 := hidW ((HAl _).out.step hb)
        clear hb HAl e0 e1 e2 e3 e4 e5 e6 e7 e8 e9
        rw [HZ.out]
        clear HZ
        cases Z
        · have HM := hidW (HF1.out (by first | rfl | trivial))
          have HQ2 : Hid ((L.take (k + 1)).countP (fkF d) = C) := hidW (by simpa using HQ.out)
          clear HF1 HF2 HQ
          go_wp2
          go_roundw
          case rel => exact ⟨k + 1, by omega, by rw [HQ2.out], by go_num, by rw [HM.out]; exact HX2.out⟩
          case measure => simp [intOf]; omega
        · have HM := hidW (HF2.out (by first | rfl | trivial))
          have HQ2 : Hid ((L.take (k + 1)).countP (fkF d) = C + 1) := hidW (by simpa using HQ.out)
          clear HF1 HF2 HQ
          have c0 := HX2.out.pt.cell
          rw [hML.out] at c0
          have f0 := HX2.out.pt.row.frozen
          have l0 := HX2.out.pt.row.lt
          obtain ⟨y, _, _, x0, x1, x2, x3, x4, x5, x6, x7, x8, x9⟩ := HX2.out.pt.at (k := k) (by rw [hML.out]; exact hlt)
          have HX3 := hidW (HX2.out.putZ k (by rw [hML.out]; exact hlt))
          clear HX2
          go_wp2
          go_roundw
          case rel => exact ⟨k + 1, by omega, by rw [HQ2.out]; go_num, by go_num, by rw [HM.out]; exact HX3.out⟩
          case measure => simp [intOf]; omega
    · obtain rfl : k = n := by omega
      have HM : Hid (flM L d k = (flF L d).2) := hidW (by rw [← HN.out]; exact flM_all L d)
      go_wp2
      go_ret
      exact ⟨by rw [← HN.out, List.take_length]; rfl, by rw [← HM.out]; exact HX.out.pt, HX.out.trn⟩
set_option maxRecDepth 100000 in
set_option maxHeartbeats 8000000 in
theorem flush_3 (W : World) (p g : Nat) (L : List Slo) (d : Dro) (hP : PT 95 W p g L) (ht : TR W) (hd : 0 ≤ d.va ∧ d.va < 4294967296) (hk : ∀ b, pkF d b = (b.asid == d.asid)) (hQ : Pkd d (fun x => .func (.func 66) #[] #[.pointer (some ⟨x, 0, none⟩)])) :
    Calls Tryd.prog 37 #[.pointer (some ⟨p, 0, none⟩), .agg #[.int .i64 d.kind, .int .u32 d.va, .int .i64 d.asid]] W fun e w' => e = .returned (.int .i64 ((flF L d).1 : Nat)) ∧ PT 95 w' p g (flF L d).2 ∧ Turn (· = g) W w' := by
  have HP : Hid (∀ W, Calls Tryd.prog 50 #[.agg #[.int .i64 d.kind, .int .u32 d.va, .int .i64 d.asid]] W fun e w' => e = .returned ((fun x => .func (.func 66) #[] #[.pointer (some ⟨x, 0, none⟩)]) W.heap.size) ∧ Bl w' W.heap.size 42 ([.int .i64 d.kind, .int .u32 d.va, .int .i64 d.asid]) ∧ Below W.heap.size W w') := hQ
  dsimp only at HP
  have HW := hidW (And.intro hP ht)
  have hn := hP.hi
  have HK := hidW hk
  have HB0 := hidW (below_new W (.cells ([.int .i64 d.kind, .int .u32 d.va, .int .i64 d.asid]).toArray 42))
  clear hP ht hQ hk
  generalize hl : L.length = n at *
  have HN : Hid (L.length = n) := hl
  clear hl
  go_enter Tryd.func37, Tryd.ntmps37
  go_wp2_with (fail)
  go_at_call 50
  refine (HP.out _).mono ?_
  rintro e w1 ⟨rfl, hy, hb⟩
  have HX0 : Hid (FX W w1 p g (W.alloc (.cells ([.int .i64 d.kind, .int .u32 d.va, .int .i64 d.asid]).toArray 42)).heap.size (flM L d 0) d) := by
    have h1 := Below.step HB0.out hb
    rw [flM_zero]
    exact hidW ⟨Turn.below h1, HW.out.1.below h1, hy, HW.out.2.below h1⟩
  clear hy hb HB0 HW HP
  generalize (W.alloc (.cells ([.int .i64 d.kind, .int .u32 d.va, .int .i64 d.asid]).toArray 42)).heap.size = D at *
  have c0 := HX0.out.pt.cell
  rw [flM_zero, HN.out] at c0
  go_wp2
  clear c0
  go_loopw [6, 16] (fun c i wr => ∃ k : Nat, k ≤ n ∧ c = .int .i64 (((L.take k).countP (fkF d) : Nat) : Int) ∧ i = .int .i64 k ∧ FX W wr p g D (flM L d k) d) (fun _ i _ => n - (intOf i).toNat)
  case atStart => exact ⟨0, by omega, by simp, rfl, HX0.out⟩
  case round =>
    obtain ⟨k, hk, rfl, rfl, hX⟩ := hrel
    have HX := hidW hX
    clear hX HX0
    have hc : (L.take k).countP (fkF d) ≤ k := by
      have h1 := List.countP_le_length (p := fkF d) (l := L.take k)
      rw [List.length_take] at h1
      omega
    by_cases hlt : k < n
    · have hlL : k < L.length := by rw [HN.out]; exact hlt
      obtain ⟨s, hs, hok, e0, e1, e2, e3, e4, e5, e6, e7, e8, e9⟩ := HX.out.pt.at (k := k) (by rw [flM_len _ _ _ (by omega)]; exact hlL)
      rw [flM_at d hlL] at hs
      have HQ := hidW (countP_take (fkF d) hs)
      have HS := hidW hok
      have HL := hidW hs
      have HAl := fun o => hidW (HX.out.step (below_new _ o))
      have hML : Hid ((flM L d k).length = n) := by rw [flM_len _ _ _ (by omega)]; exact HN
      have HF1 : Hid (fkF d s = false → flM L d (k + 1) = flM L d k) := hidW (fun h => flM_same d hs h)
      have HF2 : Hid (fkF d s = true → flM L d (k + 1) = (flM L d k).set k sZ) := hidW (fun h => by rw [flM_next d hs]; simp [flS, h])
      clear HX hs hok hlL
      generalize (L.take k).countP (fkF d) = C at *
      obtain ⟨fu, sb⟩ := s
      dsimp only at *
      cases fu
      · have hf : fkF d ⟨false, sb⟩ = false := rfl
        have HM := hidW (HF1.out hf)
        have HQ2 : Hid ((L.take (k + 1)).countP (fkF d) = C) := hidW (by have := HQ.out; rw [hf] at this; simpa using this)
        clear HF1 HF2 HQ hf HS HL HK
        go_wp2
        go_roundw
        case rel => exact ⟨k + 1, by omega, by rw [HQ2.out], by go_num, by rw [HM.out]; exact (HAl _).out⟩
        case measure => simp [intOf]; omega
      · have hr : bR sb = true := HS.out.yes rfl
        have HO := hidW HS.out.ok
        have hf : fkF d ⟨true, sb⟩ = pkF d sb := by simp [fkF, tkF, hr]
        rw [hf] at HF1 HF2 HQ
        rw [HK.out] at HF1 HF2 HQ
        clear HS hr hf HK HL
        generalize hZ : ((sb.asid == d.asid)) = Z at *
        have HZ : Hid (((sb.asid == d.asid)) = Z) := hZ
        clear hZ
        go_wp2_with (fail)
        go_at_call 66
        refine (pk3_any sb d _ _ (HAl _).out.bd).mono ?_
        rintro e w2 ⟨rfl, hb⟩
        have HX2 := hidW ((HAl _).out.step hb)
        clear hb HAl e0 e1 e2 e3 e4 e5 e6 e7 e8 e9
        rw [HZ.out]
        clear HZ
        cases Z
        · have HM := hidW (HF1.out (by first | rfl | trivial))
          have HQ2 : Hid ((L.take (k + 1)).countP (fkF d) = C) := hidW (by simpa using HQ.out)
          clear HF1 HF2 HQ
          go_wp2
          go_roundw
          case rel => exact ⟨k + 1, by omega, by rw [HQ2.out], by go_num, by rw [HM.out]; exact HX2.out⟩
          case measure => simp [intOf]; omega
        · have HM := hidW (HF2.out (by first | rfl | trivial))
          have HQ2 : Hid ((L.take (k + 1)).countP (fkF d) = C + 1) := hidW (by simpa using HQ.out)
          clear HF1 HF2 HQ
          have c0 := HX2.out.pt.cell
          rw [hML.out] at c0
          have f0 := HX2.out.pt.row.frozen
          have l0 := HX2.out.pt.row.lt
          obtain ⟨y, _, _, x0, x1, x2, x3, x4, x5, x6, x7, x8, x9⟩ := HX2.out.pt.at (k := k) (by rw [hML.out]; exact hlt)
          have HX3 := hidW (HX2.out.putZ k (by rw [hML.out]; exact hlt))
          clear HX2
          go_wp2
          go_roundw
          case rel => exact ⟨k + 1, by omega, by rw [HQ2.out]; go_num, by go_num, by rw [HM.out]; exact HX3.out⟩
          case measure => simp [intOf]; omega
    · obtain rfl : k = n := by omega
      have HM : Hid (flM L d k = (flF L d).2) := hidW (by rw [← HN.out]; exact flM_all L d)
      go_wp2
      go_ret
      exact ⟨by rw [← HN.out, List.take_length]; rfl, by rw [← HM.out]; exact HX.out.pt, HX.out.trn⟩
set_option maxRecDepth 100000 in
set_option maxHeartbeats 8000000 in
theorem flush_4 (W : World) (p g : Nat) (L : List Slo) (d : Dro) (hP : PT 95 W p g L) (ht : TR W) (hd : 0 ≤ d.va ∧ d.va < 4294967296) (hk : ∀ b, pkF d b = liF b d.va) (hQ : Pkd d (fun x => .func (.func 67) #[] #[.pointer (some ⟨x, 0, none⟩)])) :
    Calls Tryd.prog 37 #[.pointer (some ⟨p, 0, none⟩), .agg #[.int .i64 d.kind, .int .u32 d.va, .int .i64 d.asid]] W fun e w' => e = .returned (.int .i64 ((flF L d).1 : Nat)) ∧ PT 95 w' p g (flF L d).2 ∧ Turn (· = g) W w' := by
  have HP : Hid (∀ W, Calls Tryd.prog 50 #[.agg #[.int .i64 d.kind, .int .u32 d.va, .int .i64 d.asid]] W fun e w' => e = .returned ((fun x => .func (.func 67) #[] #[.pointer (some ⟨x, 0, none⟩)]) W.heap.size) ∧ Bl w' W.heap.size 42 ([.int .i64 d.kind, .int .u32 d.va, .int .i64 d.asid]) ∧ Below W.heap.size W w') := hQ
  dsimp only at HP
  have HW := hidW (And.intro hP ht)
  have hn := hP.hi
  have HK := hidW hk
  have HB0 := hidW (below_new W (.cells ([.int .i64 d.kind, .int .u32 d.va, .int .i64 d.asid]).toArray 42))
  clear hP ht hQ hk
  generalize hl : L.length = n at *
  have HN : Hid (L.length = n) := hl
  clear hl
  go_enter Tryd.func37, Tryd.ntmps37
  go_wp2_with (fail)
  go_at_call 50
  refine (HP.out _).mono ?_
  rintro e w1 ⟨rfl, hy, hb⟩
  have HX0 : Hid (FX W w1 p g (W.alloc (.cells ([.int .i64 d.kind, .int .u32 d.va, .int .i64 d.asid]).toArray 42)).heap.size (flM L d 0) d) := by
    have h1 := Below.step HB0.out hb
    rw [flM_zero]
    exact hidW ⟨Turn.below h1, HW.out.1.below h1, hy, HW.out.2.below h1⟩
  clear hy hb HB0 HW HP
  generalize (W.alloc (.cells ([.int .i64 d.kind, .int .u32 d.va, .int .i64 d.asid]).toArray 42)).heap.size = D at *
  have c0 := HX0.out.pt.cell
  rw [flM_zero, HN.out] at c0
  go_wp2
  clear c0
  go_loopw [6, 16] (fun c i wr => ∃ k : Nat, k ≤ n ∧ c = .int .i64 (((L.take k).countP (fkF d) : Nat) : Int) ∧ i = .int .i64 k ∧ FX W wr p g D (flM L d k) d) (fun _ i _ => n - (intOf i).toNat)
  case atStart => exact ⟨0, by omega, by simp, rfl, HX0.out⟩
  case round =>
    obtain ⟨k, hk, rfl, rfl, hX⟩ := hrel
    have HX := hidW hX
    clear hX HX0
    have hc : (L.take k).countP (fkF d) ≤ k := by
      have h1 := List.countP_le_length (p := fkF d) (l := L.take k)
      rw [List.length_take] at h1
      omega
    by_cases hlt : k < n
    · have hlL : k < L.length := by rw [HN.out]; exact hlt
      obtain ⟨s, hs, hok, e0, e1, e2, e3, e4, e5, e6, e7, e8, e9⟩ := HX.out.pt.at (k := k) (by rw [flM_len _ _ _ (by omega)]; exact hlL)
      rw [flM_at d hlL] at hs
      have HQ := hidW (countP_take (fkF d) hs)
      have HS := hidW hok
      have HL := hidW hs
      have HAl := fun o => hidW (HX.out.step (below_new _ o))
      have hML : Hid ((flM L d k).length = n) := by rw [flM_len _ _ _ (by omega)]; exact HN
      have HF1 : Hid (fkF d s = false → flM L d (k + 1) = flM L d k) := hidW (fun h => flM_same d hs h)
      have HF2 : Hid (fkF d s = true → flM L d (k + 1) = (flM L d k).set k sZ) := hidW (fun h => by rw [flM_next d hs]; simp [flS, h])
      clear HX hs hok hlL
      generalize (L.take k).countP (fkF d) = C at *
      obtain ⟨fu, sb⟩ := s
      dsimp only at *
      cases fu
      · have hf : fkF d ⟨false, sb⟩ = false := rfl
        have HM := hidW (HF1.out hf)
        have HQ2 : Hid ((L.take (k + 1)).countP (fkF d) = C) := hidW (by have := HQ.out; rw [hf] at this; simpa using this)
        clear HF1 HF2 HQ hf HS HL HK
        go_wp2
        go_roundw
        case rel => exact ⟨k + 1, by omega, by rw [HQ2.out], by go_num, by rw [HM.out]; exact (HAl _).out⟩
        case measure => simp [intOf]; omega
      · have hr : bR sb = true := HS.out.yes rfl
        have HO := hidW HS.out.ok
        have hf : fkF d ⟨true, sb⟩ = pkF d sb := by simp [fkF, tkF, hr]
        rw [hf] at HF1 HF2 HQ
        rw [HK.out] at HF1 HF2 HQ
        clear HS hr hf HK HL
        generalize hZ : (liF sb d.va) = Z at *
        have HZ : Hid ((liF sb d.va) = Z) := hZ
        clear hZ
        go_wp2_with (fail)
        go_at_call 67
        refine (pk4_any sb d _ _ (HAl _).out.bd (HAl _).out.tr.tb HO.out hd).mono ?_
        rintro e w2 ⟨rfl, hb⟩
        have HX2 := hidW ((HAl _).out.step hb)
        clear hb HAl e0 e1 e2 e3 e4 e5 e6 e7 e8 e9
        rw [HZ.out]
        clear HZ
        cases Z
        · have HM := hidW (HF1.out (by first | rfl | trivial))
          have HQ2 : Hid ((L.take (k + 1)).countP (fkF d) = C) := hidW (by simpa using HQ.out)
          clear HF1 HF2 HQ
          go_wp2
          go_roundw
          case rel => exact ⟨k + 1, by omega, by rw [HQ2.out], by go_num, by rw [HM.out]; exact HX2.out⟩
          case measure => simp [intOf]; omega
        · have HM := hidW (HF2.out (by first | rfl | trivial))
          have HQ2 : Hid ((L.take (k + 1)).countP (fkF d) = C + 1) := hidW (by simpa using HQ.out)
          clear HF1 HF2 HQ
          have c0 := HX2.out.pt.cell
          rw [hML.out] at c0
          have f0 := HX2.out.pt.row.frozen
          have l0 := HX2.out.pt.row.lt
          obtain ⟨y, _, _, x0, x1, x2, x3, x4, x5, x6, x7, x8, x9⟩ := HX2.out.pt.at (k := k) (by rw [hML.out]; exact hlt)
          have HX3 := hidW (HX2.out.putZ k (by rw [hML.out]; exact hlt))
          clear HX2
          go_wp2
          go_roundw
          case rel => exact ⟨k + 1, by omega, by rw [HQ2.out]; go_num, by go_num, by rw [HM.out]; exact HX3.out⟩
          case measure => simp [intOf]; omega
    · obtain rfl : k = n := by omega
      have HM : Hid (flM L d k = (flF L d).2) := hidW (by rw [← HN.out]; exact flM_all L d)
      go_wp2
      go_ret
      exact ⟨by rw [← HN.out, List.take_length]; rfl, by rw [← HM.out]; exact HX.out.pt, HX.out.trn⟩
set_option maxRecDepth 100000 in
set_option maxHeartbeats 8000000 in
theorem flush_5 (W : World) (p g : Nat) (L : List Slo) (d : Dro) (hP : PT 95 W p g L) (ht : TR W) (hd : 0 ≤ d.va ∧ d.va < 4294967296) (hk : ∀ b, pkF d b = false) (hQ : Pkd d (fun _ => .func (.func 68) #[] #[])) :
    Calls Tryd.prog 37 #[.pointer (some ⟨p, 0, none⟩), .agg #[.int .i64 d.kind, .int .u32 d.va, .int .i64 d.asid]] W fun e w' => e = .returned (.int .i64 ((flF L d).1 : Nat)) ∧ PT 95 w' p g (flF L d).2 ∧ Turn (· = g) W w' := by
  have HP : Hid (∀ W, Calls Tryd.prog 50 #[.agg #[.int .i64 d.kind, .int .u32 d.va, .int .i64 d.asid]] W fun e w' => e = .returned ((fun _ => .func (.func 68) #[] #[]) W.heap.size) ∧ Bl w' W.heap.size 42 ([.int .i64 d.kind, .int .u32 d.va, .int .i64 d.asid]) ∧ Below W.heap.size W w') := hQ
  dsimp only at HP
  have HW := hidW (And.intro hP ht)
  have hn := hP.hi
  have HK := hidW hk
  have HB0 := hidW (below_new W (.cells ([.int .i64 d.kind, .int .u32 d.va, .int .i64 d.asid]).toArray 42))
  clear hP ht hQ hk
  generalize hl : L.length = n at *
  have HN : Hid (L.length = n) := hl
  clear hl
  go_enter Tryd.func37, Tryd.ntmps37
  go_wp2_with (fail)
  go_at_call 50
  refine (HP.out _).mono ?_
  rintro e w1 ⟨rfl, hy, hb⟩
  have HX0 : Hid (FX W w1 p g (W.alloc (.cells ([.int .i64 d.kind, .int .u32 d.va, .int .i64 d.asid]).toArray 42)).heap.size (flM L d 0) d) := by
    have h1 := Below.step HB0.out hb
    rw [flM_zero]
    exact hidW ⟨Turn.below h1, HW.out.1.below h1, hy, HW.out.2.below h1⟩
  clear hy hb HB0 HW HP
  generalize (W.alloc (.cells ([.int .i64 d.kind, .int .u32 d.va, .int .i64 d.asid]).toArray 42)).heap.size = D at *
  have c0 := HX0.out.pt.cell
  rw [flM_zero, HN.out] at c0
  go_wp2
  clear c0
  go_loopw [6, 16] (fun c i wr => ∃ k : Nat, k ≤ n ∧ c = .int .i64 (((L.take k).countP (fkF d) : Nat) : Int) ∧ i = .int .i64 k ∧ FX W wr p g D (flM L d k) d) (fun _ i _ => n - (intOf i).toNat)
  case atStart => exact ⟨0, by omega, by simp, rfl, HX0.out⟩
  case round =>
    obtain ⟨k, hk, rfl, rfl, hX⟩ := hrel
    have HX := hidW hX
    clear hX HX0
    have hc : (L.take k).countP (fkF d) ≤ k := by
      have h1 := List.countP_le_length (p := fkF d) (l := L.take k)
      rw [List.length_take] at h1
      omega
    by_cases hlt : k < n
    · have hlL : k < L.length := by rw [HN.out]; exact hlt
      obtain ⟨s, hs, hok, e0, e1, e2, e3, e4, e5, e6, e7, e8, e9⟩ := HX.out.pt.at (k := k) (by rw [flM_len _ _ _ (by omega)]; exact hlL)
      rw [flM_at d hlL] at hs
      have HQ := hidW (countP_take (fkF d) hs)
      have HS := hidW hok
      have HL := hidW hs
      have HAl := fun o => hidW (HX.out.step (below_new _ o))
      have hML : Hid ((flM L d k).length = n) := by rw [flM_len _ _ _ (by omega)]; exact HN
      have HF1 : Hid (fkF d s = false → flM L d (k + 1) = flM L d k) := hidW (fun h => flM_same d hs h)
      have HF2 : Hid (fkF d s = true → flM L d (k + 1) = (flM L d k).set k sZ) := hidW (fun h => by rw [flM_next d hs]; simp [flS, h])
      clear HX hs hok hlL
      generalize (L.take k).countP (fkF d) = C at *
      obtain ⟨fu, sb⟩ := s
      dsimp only at *
      cases fu
      · have hf : fkF d ⟨false, sb⟩ = false := rfl
        have HM := hidW (HF1.out hf)
        have HQ2 : Hid ((L.take (k + 1)).countP (fkF d) = C) := hidW (by have := HQ.out; rw [hf] at this; simpa using this)
        clear HF1 HF2 HQ hf HS HL HK
        go_wp2
        go_roundw
        case rel => exact ⟨k + 1, by omega, by rw [HQ2.out], by go_num, by rw [HM.out]; exact (HAl _).out⟩
        case measure => simp [intOf]; omega
      · have hr : bR sb = true := HS.out.yes rfl
        have HO := hidW HS.out.ok
        have hf : fkF d ⟨true, sb⟩ = pkF d sb := by simp [fkF, tkF, hr]
        rw [hf] at HF1 HF2 HQ
        rw [HK.out] at HF1 HF2 HQ
        clear HS hr hf HK HL
        go_wp2_with (fail)
        go_at_call 68
        refine (pk5_any sb _).mono ?_
        rintro e w2 ⟨rfl, hb⟩
        have HX2 := hidW ((HAl _).out.step hb)
        clear hb HAl e0 e1 e2 e3 e4 e5 e6 e7 e8 e9
        have HM := hidW (HF1.out (by first | rfl | trivial))
        have HQ2 : Hid ((L.take (k + 1)).countP (fkF d) = C) := hidW (by simpa using HQ.out)
        clear HF1 HF2 HQ
        go_wp2
        go_roundw
        case rel => exact ⟨k + 1, by omega, by rw [HQ2.out], by go_num, by rw [HM.out]; exact HX2.out⟩
        case measure => simp [intOf]; omega
    · obtain rfl : k = n := by omega
      have HM : Hid (flM L d k = (flF L d).2) := hidW (by rw [← HN.out]; exact flM_all L d)
      go_wp2
      go_ret
      exact ⟨by rw [← HN.out, List.take_length]; rfl, by rw [← HM.out]; exact HX.out.pt, HX.out.trn⟩
theorem flush_any (W : World) (p g : Nat) (L : List Slo) (d : Dro) (hP : PT 95 W p g L) (ht : TR W) (hd : 0 ≤ d.va ∧ d.va < 4294967296) :
    Calls Tryd.prog 37 #[.pointer (some ⟨p, 0, none⟩), .agg #[.int .i64 d.kind, .int .u32 d.va, .int .i64 d.asid]] W fun e w' => e = .returned (.int .i64 ((flF L d).1 : Nat)) ∧ PT 95 w' p g (flF L d).2 ∧ Turn (· = g) W w' := by
  rcases picked_any d with ⟨h1, h2⟩ | ⟨h1, h2⟩ | ⟨h1, h2⟩ | ⟨h1, h2⟩ | ⟨h1, h2⟩
  · exact flush_1 W p g L d hP ht hd h1 h2
  · exact flush_2 W p g L d hP ht hd h1 h2
  · exact flush_3 W p g L d hP ht hd h1 h2
  · exact flush_4 W p g L d hP ht hd h1 h2
  · exact flush_5 W p g L d hP ht hd h1 h2
end Go.Proofs.YtbbnodhpafiplaaDoor

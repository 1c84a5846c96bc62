import Derived.Test.YtliiblaodhcjhaaForm
namespace Go.Proofs.Ytliiblaodhcjhaa
open Go.RowKit
set_option linter.unusedVariables false

/-- A call of a script. -/
structure Op4 where
  kind : Int
  lo : Int
  hi : Int
  val : Int

/-- A script as it lies in memory. -/
structure Script (W : World) (a : Option Addr) (ops : List Op4) : Prop where
  lies : ∀ i o, ops[i]? = some o → ∃ b off, a = some ⟨b, off, none⟩ ∧ b < W.heap.size ∧ W.cell? ⟨b, off + i * 4, none⟩ = some (.int .i64 o.kind) ∧ W.cell? ⟨b, off + i * 4 + 1, none⟩ = some (.int .u64 o.lo) ∧ W.cell? ⟨b, off + i * 4 + 2, none⟩ = some (.int .u64 o.hi) ∧ W.cell? ⟨b, off + i * 4 + 3, none⟩ = some (.int .i64 o.val)
  rng : ∀ o ∈ ops, (0 ≤ o.lo ∧ o.lo ≤ 18446744073709551615) ∧ (0 ≤ o.hi ∧ o.hi ≤ 18446744073709551615) ∧ (-9223372036854775808 ≤ o.kind ∧ o.kind ≤ 9223372036854775807) ∧ (-9223372036854775808 ≤ o.val ∧ o.val ≤ 9223372036854775807)

theorem Turn.cell {W W' : World} {p : Nat} {v : Value} (t : Turn W W' p v) {b o : Nat} (hb : b < W.heap.size) (h1 : b ≠ p) (h2 : some b ≠ v.ownBlock) : W'.cell? ⟨b, o, none⟩ = W.cell? ⟨b, o, none⟩ :=
  World.cell?_of_block (w := W) (t.block b hb h1 h2)

theorem setR_len {L : List (Sp Int)} (h : Good 0 none L) {a b : Int} (ha : 0 ≤ a) (hb : b ≤ 18446744073709551615) (x : Int) : (setR L a b x).length ≤ L.length + 2 := by
  rw [setR]
  split
  · exact setL_len h ha (by assumption) hb x
  · omega
theorem clearR_len {L : List (Sp Int)} (h : Good 0 none L) {a b : Int} : (clearR L a b).length ≤ L.length + 2 := by
  rw [clearR]
  split
  · have := clearL_len h (lo := a) (hi := b) (by assumption); omega
  · omega

theorem quiet_len (W : World) (lo p : Nat) (v : Value) (L : List (Sp Int)) (h : MapAt W lo p v L) :
    Calls Try.prog 16 #[.pointer (some ⟨p, 0, none⟩)] W fun e W' => e = .returned (.int .i64 L.length) ∧ W' = W := (len_any W lo p v L h).mono (fun e w ⟨a, b⟩ => ⟨a, b.symm⟩)
theorem quiet_no (a : Int) (w : World) : Calls Try.prog 14 #[.int .i64 a] w fun e w' => e = .returned (.int .i64 a) ∧ w' = w := (no_any a w).mono (fun e w ⟨a, b⟩ => ⟨a, b.symm⟩)

theorem MapAt.drewN {W : World} {lo p : Nat} {v : Value} {L : List (Sp Int)} (h : MapAt W lo p v L) (n : Nat) : MapAt (W.drewN n) lo p v L := h.keep (grown_below (grownBy_drewN W none n))

set_option maxHeartbeats 4000000 in
set_option maxRecDepth 100000 in
theorem law_form (W : World) (a : Option Addr) (cap : Nat) (ops : List Op4) (S : Script W a ops) (hs : ops.length ≤ 1048576) :
    Calls Try.prog 3 #[.slice a ops.length cap] W fun e W' => e = .returned (.bool true) ∧ Below W.heap.size W W' := by
  have hB := Below.refl W.heap.size W
  have hM0 := MapAt.new W W.heap.size (Nat.le_refl _)
  have hB0 := below_alloc hB (.cells #[.slice none 0 0] 84)
  have HS : Hid (Script W a ops) := S
  clear S
  generalize hn : ops.length = n at *
  have HN : Hid (ops.length = n) := hn
  clear hn
  go_enter Try.func3, Try.ntmps3
  go_wp2_with (go_at_call 9; refine (new_any _).mono ?_; rintro e w' ⟨rfl, rfl⟩)
  refine (live_any _).mono ?_
  rintro e w1 ⟨rfl, hb1⟩
  have hM1 := hM0.keep hb1
  have hB1 := below_go hB0 hb1
  clear hM0 hB0 hb1
  go_wp2_with (fail)
  go_loopw [4, 5] (fun c i wr => ∃ (k : Nat) (v : Value) (L : List (Sp Int)), k ≤ n ∧ i = .int .i64 k ∧ c = .int .i64 L.length ∧ Hid (L.length ≤ 2 * k ∧ MapAt wr W.heap.size W.heap.size v L) ∧ Hid (Below W.heap.size W wr)) (fun _ i _ => n - (intOf i).toNat)
  case atStart => exact ⟨0, _, [], Nat.zero_le _, rfl, rfl, ⟨Nat.zero_le _, hM1⟩, hB1⟩
  case round =>
    obtain ⟨k, v, L, hk, rfl, rfl, HL, HB⟩ := hrel
    clear hM1 hB1
    by_cases hlt : k < n
    · obtain ⟨o, ho⟩ : ∃ o, ops[k]? = some o := ⟨_, List.getElem?_eq_getElem (by rw [HN.out]; exact hlt)⟩
      obtain ⟨b, off, rfl, hbl, e0, e1, e2, e3⟩ := HS.out.lies k o ho
      obtain ⟨⟨r1, r2⟩, ⟨r3, r4⟩, ⟨r5, r6⟩, ⟨r7, r8⟩⟩ := HS.out.rng o (List.mem_of_getElem? ho)
      obtain ⟨hcc, _⟩ := bcell HB.out
      rw [← hcc b _ hbl] at e0 e1 e2 e3
      clear hcc ho
      have hltz : (k : Int) < (n : Int) := by omega
      have hk0 : (0 : Int) ≤ (k : Int) := by omega
      have HL1 := HL.out.1
      have hpl := HL.out.2.lt
      have hne1 : wr.heap.size ≠ W.heap.size := by omega
      have hne2 : some wr.heap.size ≠ v.ownBlock := fun e => by have := (HL.out.2.own.lt _ e.symm).2; omega
      have hszL : (L.length + 4) * 24 ≤ 140737488355328 := by omega
      have hg0 := HL.out.2.good
      by_cases hk1 : o.kind = 1
      · rw [hk1] at e0
        have hM1 := HL.out.2.keep ((Below.refl wr.heap.size wr).alloc (Nat.le_refl _) (.cells #[.int .i64 1, .int .u64 o.lo, .int .u64 o.hi, .int .i64 o.val] 28))
        go_wp2_with (fail)
        refine (set_any _ _ _ v L o.lo o.hi o.val hM1 hszL r1 r4).mono ?_
        rintro e w1 ⟨rfl, v1, hM2, hT, _⟩
        have hB2 := turn_below (below_alloc HB.out _) hM1 (Nat.le_refl _) hT
        have hsz1 := hT.size
        rw [World.size_alloc] at hsz1
        have d1 : w1.cell? ⟨wr.heap.size, 1, none⟩ = some (.int .u64 o.lo) := by rw [hT.cell (by rw [World.size_alloc]; exact Nat.lt_succ_self _) hne1 hne2]; simp [go_sem]
        have d2 : w1.cell? ⟨wr.heap.size, 2, none⟩ = some (.int .u64 o.hi) := by rw [hT.cell (by rw [World.size_alloc]; exact Nat.lt_succ_self _) hne1 hne2]; simp [go_sem]
        have hg2 := hM2.good
        have hl2 := setR_len hg0 r1 r4 o.val
        generalize hLe : setR L o.lo o.hi o.val = L' at *
        have hl3 : L'.length ≤ 2 * (k + 1) := by omega
        have hby2 : L'.length * 24 ≤ 140737488355328 := by omega
        have hsm2 : L'.length < 4611686018427387904 := by omega
        have hgt : decide ((L.length : Int) + 2 < (L'.length : Int)) = false := by simp; omega
        have herr : (errC o.lo o.hi == 20) = decide (o.hi < o.lo) := by rw [errC]; split <;> simp <;> omega
        clear hT hLe hM1
        go_wp2_with (fail)
        refine (spans_any w1 _ _ v1 L' hM2 hby2).mono ?_
        rintro e w2 ⟨vs, rfl, hls, hb2⟩
        obtain ⟨va, vc, rfl⟩ := slice_form hls
        obtain ⟨hcc2, _⟩ := bcell hb2
        have f1 : w2.cell? ⟨wr.heap.size, 1, none⟩ = some (.int .u64 o.lo) := by rw [hcc2 _ _ hsz1]; exact d1
        have f2 : w2.cell? ⟨wr.heap.size, 2, none⟩ = some (.int .u64 o.hi) := by rw [hcc2 _ _ hsz1]; exact d2
        have hM3 := hM2.keep hb2
        have hB3 := below_go hB2 hb2
        have hcf : ∀ q, Calls Try.prog 15 #[.slice va L'.length vc] (w2.drewN q) fun e W' => e = .returned (.bool true) ∧ ∃ q', W' = (w2.drewN q).drewN q' := fun q => formed_any (w2.drewN q) _ _ L' (hls.keep (grown_below (grownBy_drewN w2 none q)) (fun g hg => (hls.lt g hg).2)) hg2 hsm2
        have hcl : ∀ q, Calls Try.prog 16 #[.pointer (some ⟨W.heap.size, 0, none⟩)] (w2.drewN q) fun e W' => e = .returned (.int .i64 L'.length) ∧ W' = w2.drewN q := fun q => quiet_len _ _ _ _ _ (hM3.drewN q)
        clear d1 d2 hcc2 hls
        go_wp2_with (fail)
        go_quiet ((first | (go_at_call 14; exact Calls.quiet_of_same (quiet_no _ _)) | (go_at_call 15; exact Calls.quiet_of (hcf _)) | (go_at_call 16; exact Calls.quiet_of_same (hcl _))))
        go_wp2
        go_roundw
        case rel => exact ⟨k + 1, v1, L', by omega, by go_num, rfl, ⟨hl3, hM3.drewN _⟩, below_go hB3 (grown_below (grownBy_drewN w2 none _))⟩
        case measure => simp [intOf]; omega
      · have hk2 : (o.kind == 1) = false := by simp [hk1]
        have hM1 := HL.out.2.keep ((Below.refl wr.heap.size wr).alloc (Nat.le_refl _) (.cells #[.int .i64 o.kind, .int .u64 o.lo, .int .u64 o.hi, .int .i64 o.val] 28))
        go_wp2_with (fail)
        refine (clear_any _ _ _ v L o.lo o.hi hM1 hszL r1 r4).mono ?_
        rintro e w1 ⟨rfl, v1, hM2, hT, _⟩
        have hB2 := turn_below (below_alloc HB.out _) hM1 (Nat.le_refl _) hT
        have hsz1 := hT.size
        rw [World.size_alloc] at hsz1
        have d1 : w1.cell? ⟨wr.heap.size, 1, none⟩ = some (.int .u64 o.lo) := by rw [hT.cell (by rw [World.size_alloc]; exact Nat.lt_succ_self _) hne1 hne2]; simp [go_sem]
        have d2 : w1.cell? ⟨wr.heap.size, 2, none⟩ = some (.int .u64 o.hi) := by rw [hT.cell (by rw [World.size_alloc]; exact Nat.lt_succ_self _) hne1 hne2]; simp [go_sem]
        have hg2 := hM2.good
        have hl2 := clearR_len hg0 (a := o.lo) (b := o.hi)
        generalize hLe : clearR L o.lo o.hi = L' at *
        have hl3 : L'.length ≤ 2 * (k + 1) := by omega
        have hby2 : L'.length * 24 ≤ 140737488355328 := by omega
        have hsm2 : L'.length < 4611686018427387904 := by omega
        have hgt : decide ((L.length : Int) + 2 < (L'.length : Int)) = false := by simp; omega
        have herr : (errC o.lo o.hi == 20) = decide (o.hi < o.lo) := by rw [errC]; split <;> simp <;> omega
        clear hT hLe hM1
        go_wp2_with (fail)
        refine (spans_any w1 _ _ v1 L' hM2 hby2).mono ?_
        rintro e w2 ⟨vs, rfl, hls, hb2⟩
        obtain ⟨va, vc, rfl⟩ := slice_form hls
        obtain ⟨hcc2, _⟩ := bcell hb2
        have f1 : w2.cell? ⟨wr.heap.size, 1, none⟩ = some (.int .u64 o.lo) := by rw [hcc2 _ _ hsz1]; exact d1
        have f2 : w2.cell? ⟨wr.heap.size, 2, none⟩ = some (.int .u64 o.hi) := by rw [hcc2 _ _ hsz1]; exact d2
        have hM3 := hM2.keep hb2
        have hB3 := below_go hB2 hb2
        have hcf : ∀ q, Calls Try.prog 15 #[.slice va L'.length vc] (w2.drewN q) fun e W' => e = .returned (.bool true) ∧ ∃ q', W' = (w2.drewN q).drewN q' := fun q => formed_any (w2.drewN q) _ _ L' (hls.keep (grown_below (grownBy_drewN w2 none q)) (fun g hg => (hls.lt g hg).2)) hg2 hsm2
        have hcl : ∀ q, Calls Try.prog 16 #[.pointer (some ⟨W.heap.size, 0, none⟩)] (w2.drewN q) fun e W' => e = .returned (.int .i64 L'.length) ∧ W' = w2.drewN q := fun q => quiet_len _ _ _ _ _ (hM3.drewN q)
        clear d1 d2 hcc2 hls
        go_wp2_with (fail)
        go_quiet ((first | (go_at_call 14; exact Calls.quiet_of_same (quiet_no _ _)) | (go_at_call 15; exact Calls.quiet_of (hcf _)) | (go_at_call 16; exact Calls.quiet_of_same (hcl _))))
        go_wp2
        go_roundw
        case rel => exact ⟨k + 1, v1, L', by omega, by go_num, rfl, ⟨hl3, hM3.drewN _⟩, below_go hB3 (grown_below (grownBy_drewN w2 none _))⟩
        case measure => simp [intOf]; omega
    · go_wp2
      go_ret
      exact ⟨rfl, HB.out⟩
end Go.Proofs.Ytliiblaodhcjhaa

import Derived.Test.YtbbnodhpafiplaaDoorHb
namespace Go.Proofs.YtbbnodhpafiplaaDoor
open Go.RowKit
set_option linter.unusedVariables false
set_option linter.unusedSimpArgs false
set_option maxRecDepth 100000 in
set_option maxHeartbeats 8000000 in
theorem sfind_any (W : World) (s gs m gm : Nat) (Ls Lm : List Slo) (va asid pick : Int) (hs : PT 95 W s gs Ls) (hm : PT 95 W m gm Lm) (hn : gs ≠ gm) (ht : TR W) (hv : 0 ≤ va ∧ va < 4294967296) :
    Calls Tryd.prog 31 #[.agg #[.pointer (some ⟨s, 0, none⟩)], .agg #[.pointer (some ⟨m, 0, none⟩)], .int .u32 va, .int .i64 asid, .int .i64 pick] W fun e w' => e = .returned (.tuple #[.agg #[.int .i64 ((sfF Ls Lm va asid pick).1.1).asid, .int .i64 ((sfF Ls Lm va asid pick).1.1).t.size, .int .u32 ((sfF Ls Lm va asid pick).1.1).t.va, .int .u64 ((sfF Ls Lm va asid pick).1.1).t.pa, .int .i64 ((sfF Ls Lm va asid pick).1.1).t.dom, .int .i64 ((sfF Ls Lm va asid pick).1.1).t.ap, .int .u32 ((sfF Ls Lm va asid pick).1.1).t.bits, .bool ((sfF Ls Lm va asid pick).1.1).t.ng, .bool ((sfF Ls Lm va asid pick).1.1).t.xn], .int .i64 ((sfF Ls Lm va asid pick).1.2 : Nat)]) ∧ PT 95 w' s gs (sfF Ls Lm va asid pick).2 ∧ Turn (· = gs) W w' := by
  have HT : Hid (∀ w, Turn (· = gs) W w → TR w) := hidW (fun w h => hs.tr ht h)
  have HK : Hid (∀ w, PT 95 w s gs Ls → TR w → Calls Tryd.prog 45 #[.pointer (some ⟨s, 0, none⟩), .int .u32 va, .int .i64 asid] w fun e w' => e = .returned (.tuple #[.agg #[.int .i64 ((lkF Ls va asid).1).asid, .int .i64 ((lkF Ls va asid).1).t.size, .int .u32 ((lkF Ls va asid).1).t.va, .int .u64 ((lkF Ls va asid).1).t.pa, .int .i64 ((lkF Ls va asid).1).t.dom, .int .i64 ((lkF Ls va asid).1).t.ap, .int .u32 ((lkF Ls va asid).1).t.bits, .bool ((lkF Ls va asid).1).t.ng, .bool ((lkF Ls va asid).1).t.xn], .int .i64 ((lkF Ls va asid).2 : Nat)]) ∧ Below w.heap.size w w') := fun w h1 h2 => look_any w s gs Ls va asid h1 h2.tb hv
  have HL : Hid (∀ w, PT 95 w m gm Lm → TR w → Calls Tryd.prog 45 #[.pointer (some ⟨m, 0, none⟩), .int .u32 va, .int .i64 asid] w fun e w' => e = .returned (.tuple #[.agg #[.int .i64 ((lkF Lm va asid).1).asid, .int .i64 ((lkF Lm va asid).1).t.size, .int .u32 ((lkF Lm va asid).1).t.va, .int .u64 ((lkF Lm va asid).1).t.pa, .int .i64 ((lkF Lm va asid).1).t.dom, .int .i64 ((lkF Lm va asid).1).t.ap, .int .u32 ((lkF Lm va asid).1).t.bits, .bool ((lkF Lm va asid).1).t.ng, .bool ((lkF Lm va asid).1).t.xn], .int .i64 ((lkF Lm va asid).2 : Nat)]) ∧ Below w.heap.size w w') := fun w h1 h2 => look_any w m gm Lm va asid h1 h2.tb hv
  have hbo := lkF_ok hm.ok va asid
  have HU : Hid (∀ w, PT 95 w s gs Ls → TR w → Calls Tryd.prog 46 #[.pointer (some ⟨s, 0, none⟩), .agg #[.int .i64 ((lkF Lm va asid).1).asid, .int .i64 ((lkF Lm va asid).1).t.size, .int .u32 ((lkF Lm va asid).1).t.va, .int .u64 ((lkF Lm va asid).1).t.pa, .int .i64 ((lkF Lm va asid).1).t.dom, .int .i64 ((lkF Lm va asid).1).t.ap, .int .u32 ((lkF Lm va asid).1).t.bits, .bool ((lkF Lm va asid).1).t.ng, .bool ((lkF Lm va asid).1).t.xn], .int .i64 pick] w fun e w' => e = .returned (.tuple #[.int .i64 ((puF Ls (lkF Lm va asid).1 pick).1.1 : Nat), .int .i64 (puF Ls (lkF Lm va asid).1 pick).1.2]) ∧ PT 95 w' s gs (puF Ls (lkF Lm va asid).1 pick).2 ∧ Turn (· = gs) w w') := fun w h1 h2 => put_any w s gs Ls _ pick h1 h2 hbo
  have HX := hidW (SfA.startS hs hm hn)
  unfold sfF
  generalize (puF Ls (lkF Lm va asid).1 pick) = Q at *
  generalize (lkF Ls va asid) = R at *
  generalize (lkF Lm va asid) = R2 at *
  obtain ⟨⟨qi, qe⟩, ql⟩ := Q
  obtain ⟨ab, an⟩ := R
  obtain ⟨kb, kn⟩ := R2
  clear hs hm ht hbo hn
  dsimp only at *
  by_cases h0 : 0 < an
  · rw [if_pos h0]
    dsimp only
    have q : decide ((0 : Int) < (an : Int)) = true := decide_eq_true (by omega)
    go_enter Tryd.func31, Tryd.ntmps31
    go_wp2_with (fail)
    go_at_call 45
    generalize World.alloc _ _ = w0 at *
    generalize hA : W.heap.size = A at HX ⊢
    generalize A + 1 = B at *
    generalize B + 1 = C at *
    clear hA
    refine (HK.out _ HX.out.ps (HT.out _ HX.out.trn)).mono ?_
    rintro e w1 ⟨rfl, hb⟩
    replace HX := hidW ((HX.out.step hb).with ab)
    clear hb HK HL HU
    have r1 := HX.out.f1.br.cell
    have r2 := HX.out.f1.br.frozen
    have r3 := HX.out.f1.br.lt
    go_wp2
    refine bodyPost_ret (v := .tuple #[.agg #[.int .i64 ab.asid, .int .i64 ab.t.size, .int .u32 ab.t.va, .int .u64 ab.t.pa, .int .i64 ab.t.dom, .int .i64 ab.t.ap, .int .u32 ab.t.bits, .bool ab.t.ng, .bool ab.t.xn], .int .i64 an]) (by simp [results, Tryd.results31, go_sem, r1, r2, r3]) rfl ⟨rfl, ?_⟩
    exact HX.out.f1.ends ab
  · obtain rfl : an = 0 := by omega
    rw [if_neg h0]
    dsimp only
    clear h0
    by_cases h1 : kn = 1
    · subst h1
      rw [if_pos rfl]
      go_enter Tryd.func31, Tryd.ntmps31
      go_wp2_with (fail)
      go_at_call 45
      generalize World.alloc _ _ = w0 at *
      generalize hA : W.heap.size = A at HX ⊢
      generalize A + 1 = B at *
      generalize B + 1 = C at *
      clear hA
      refine (HK.out _ HX.out.ps (HT.out _ HX.out.trn)).mono ?_
      rintro e w1 ⟨rfl, hb⟩
      replace HX := hidW ((HX.out.step hb).with ab)
      clear hb HK
      have c0 := HX.out.f1.bm.cell
      go_wp2_with (fail)
      go_at_call 45
      generalize World.alloc _ _ = w2 at *
      generalize w1.heap.size = D at *
      refine (HL.out _ HX.out.f1.pm (HT.out _ HX.out.f1.trn)).mono ?_
      rintro e w3 ⟨rfl, hb⟩
      replace HX := hidW (HX.out.step hb)
      clear hb HL c0
      have c1 := HX.out.bn.cell
      have f1 := HX.out.bn.frozen
      have l1 := HX.out.bn.lt
      replace HX := hidW (HX.out.put kb)
      have c0 := HX.out.f1.bs.cell 0
      go_wp2_with (fail)
      go_at_call 46
      generalize World.setCell _ _ _ = w4 at *
      refine (HU.out _ HX.out.f1.ps (HT.out _ HX.out.f1.trn)).mono ?_
      rintro e w5 ⟨rfl, hp, hT⟩
      replace HX := hidW (HX.out.turnS hp hT)
      clear hp hT HU c0 c1 f1 l1
      have r1 := HX.out.f1.br.cell
      have r2 := HX.out.f1.br.frozen
      have r3 := HX.out.f1.br.lt
      have c1 := HX.out.bn.cell
      go_wp2
      refine bodyPost_ret (v := .tuple #[.agg #[.int .i64 kb.asid, .int .i64 kb.t.size, .int .u32 kb.t.va, .int .u64 kb.t.pa, .int .i64 kb.t.dom, .int .i64 kb.t.ap, .int .u32 kb.t.bits, .bool kb.t.ng, .bool kb.t.xn], .int .i64 1]) (by simp [results, Tryd.results31, go_sem, r1, r2, r3]) rfl ⟨rfl, ?_⟩
      exact HX.out.f1.ends kb
    · have h2 : ¬ (kn : Int) = 1 := by omega
      rw [if_neg h1]
      go_enter Tryd.func31, Tryd.ntmps31
      go_wp2_with (fail)
      go_at_call 45
      generalize World.alloc _ _ = w0 at *
      generalize hA : W.heap.size = A at HX ⊢
      generalize A + 1 = B at *
      generalize B + 1 = C at *
      clear hA
      refine (HK.out _ HX.out.ps (HT.out _ HX.out.trn)).mono ?_
      rintro e w1 ⟨rfl, hb⟩
      replace HX := hidW ((HX.out.step hb).with ab)
      clear hb HK
      have c0 := HX.out.f1.bm.cell
      go_wp2_with (fail)
      go_at_call 45
      generalize World.alloc _ _ = w2 at *
      generalize w1.heap.size = D at *
      refine (HL.out _ HX.out.f1.pm (HT.out _ HX.out.f1.trn)).mono ?_
      rintro e w3 ⟨rfl, hb⟩
      replace HX := hidW (HX.out.step hb)
      clear hb HL c0
      have c1 := HX.out.bn.cell
      have f1 := HX.out.bn.frozen
      have l1 := HX.out.bn.lt
      have r1 := HX.out.f1.br.cell
      have r2 := HX.out.f1.br.frozen
      have r3 := HX.out.f1.br.lt
      have hn3 : ¬ C = D := HX.out.n3
      replace HX := hidW (HX.out.put kb)
      go_wp2
      generalize hw4 : World.setCell _ ⟨D, 8, none⟩ _ = w4 at *
      clear hw4
      refine bodyPost_ret (v := .tuple #[.agg #[.int .i64 kb.asid, .int .i64 kb.t.size, .int .u32 kb.t.va, .int .u64 kb.t.pa, .int .i64 kb.t.dom, .int .i64 kb.t.ap, .int .u32 kb.t.bits, .bool kb.t.ng, .bool kb.t.xn], .int .i64 kn]) (by have r1 := HX.out.f1.br.cell; have r2 := HX.out.f1.br.frozen; have r3 := HX.out.f1.br.lt; simp [results, Tryd.results31, go_sem, r1, r2, r3]) rfl ⟨rfl, ?_⟩
      exact HX.out.f1.ends kb
set_option maxRecDepth 100000 in
set_option maxHeartbeats 8000000 in
theorem lfind_any (W : World) (s gs m gm : Nat) (Ls Lm : List Slo) (va asid pick : Int) (hs : PT 95 W s gs Ls) (hm : PT 95 W m gm Lm) (hn : gs ≠ gm) (ht : TR W) (hv : 0 ≤ va ∧ va < 4294967296) :
    Calls Tryd.prog 30 #[.agg #[.pointer (some ⟨m, 0, none⟩)], .agg #[.pointer (some ⟨s, 0, none⟩)], .int .u32 va, .int .i64 asid, .int .i64 pick] W fun e w' => e = .returned (.tuple #[.agg #[.int .i64 ((lfF Ls Lm va asid pick).1.1).asid, .int .i64 ((lfF Ls Lm va asid pick).1.1).t.size, .int .u32 ((lfF Ls Lm va asid pick).1.1).t.va, .int .u64 ((lfF Ls Lm va asid pick).1.1).t.pa, .int .i64 ((lfF Ls Lm va asid pick).1.1).t.dom, .int .i64 ((lfF Ls Lm va asid pick).1.1).t.ap, .int .u32 ((lfF Ls Lm va asid pick).1.1).t.bits, .bool ((lfF Ls Lm va asid pick).1.1).t.ng, .bool ((lfF Ls Lm va asid pick).1.1).t.xn], .int .i64 ((lfF Ls Lm va asid pick).1.2 : Nat)]) ∧ PT 95 w' s gs (lfF Ls Lm va asid pick).2 ∧ Turn (· = gs) W w' := by
  have HT : Hid (∀ w, Turn (· = gs) W w → TR w) := hidW (fun w h => hs.tr ht h)
  have HK : Hid (∀ w, PT 95 w s gs Ls → TR w → Calls Tryd.prog 45 #[.pointer (some ⟨s, 0, none⟩), .int .u32 va, .int .i64 asid] w fun e w' => e = .returned (.tuple #[.agg #[.int .i64 ((lkF Ls va asid).1).asid, .int .i64 ((lkF Ls va asid).1).t.size, .int .u32 ((lkF Ls va asid).1).t.va, .int .u64 ((lkF Ls va asid).1).t.pa, .int .i64 ((lkF Ls va asid).1).t.dom, .int .i64 ((lkF Ls va asid).1).t.ap, .int .u32 ((lkF Ls va asid).1).t.bits, .bool ((lkF Ls va asid).1).t.ng, .bool ((lkF Ls va asid).1).t.xn], .int .i64 ((lkF Ls va asid).2 : Nat)]) ∧ Below w.heap.size w w') := fun w h1 h2 => look_any w s gs Ls va asid h1 h2.tb hv
  have HL : Hid (∀ w, PT 95 w m gm Lm → TR w → Calls Tryd.prog 45 #[.pointer (some ⟨m, 0, none⟩), .int .u32 va, .int .i64 asid] w fun e w' => e = .returned (.tuple #[.agg #[.int .i64 ((lkF Lm va asid).1).asid, .int .i64 ((lkF Lm va asid).1).t.size, .int .u32 ((lkF Lm va asid).1).t.va, .int .u64 ((lkF Lm va asid).1).t.pa, .int .i64 ((lkF Lm va asid).1).t.dom, .int .i64 ((lkF Lm va asid).1).t.ap, .int .u32 ((lkF Lm va asid).1).t.bits, .bool ((lkF Lm va asid).1).t.ng, .bool ((lkF Lm va asid).1).t.xn], .int .i64 ((lkF Lm va asid).2 : Nat)]) ∧ Below w.heap.size w w') := fun w h1 h2 => look_any w m gm Lm va asid h1 h2.tb hv
  have hbo := lkF_ok hm.ok va asid
  have HU : Hid (∀ w, PT 95 w s gs Ls → TR w → Calls Tryd.prog 28 #[.pointer (some ⟨s, 0, none⟩), .agg #[.int .i64 ((lkF Lm va asid).1).asid, .int .i64 ((lkF Lm va asid).1).t.size, .int .u32 ((lkF Lm va asid).1).t.va, .int .u64 ((lkF Lm va asid).1).t.pa, .int .i64 ((lkF Lm va asid).1).t.dom, .int .i64 ((lkF Lm va asid).1).t.ap, .int .u32 ((lkF Lm va asid).1).t.bits, .bool ((lkF Lm va asid).1).t.ng, .bool ((lkF Lm va asid).1).t.xn], .int .u32 va, .int .i64 asid, .int .i64 pick] w fun e w' => e = .returned (.tuple #[]) ∧ PT 95 w' s gs (filF Ls (lkF Lm va asid).1 va asid pick) ∧ Turn (· = gs) w w') := fun w h1 h2 => fill_any w s gs Ls _ va asid pick h1 h2 hbo hv
  have HX := hidW (SfA.startL hs hm hn)
  unfold lfF
  generalize (filF Ls (lkF Lm va asid).1 va asid pick) = Q at *
  generalize (lkF Ls va asid) = R at *
  generalize (lkF Lm va asid) = R2 at *
  obtain ⟨ab, an⟩ := R
  obtain ⟨kb, kn⟩ := R2
  clear hs hm ht hbo hn
  dsimp only at *
  by_cases h0 : kn = 0
  · subst h0
    rw [if_pos rfl]
    dsimp only
    go_enter Tryd.func30, Tryd.ntmps30
    go_wp2_with (fail)
    go_at_call 45
    generalize World.alloc _ _ = w0 at *
    generalize hA : W.heap.size = A at HX ⊢
    generalize A + 1 = B at *
    generalize B + 1 = C at *
    clear hA
    refine (HL.out _ HX.out.pm (HT.out _ HX.out.trn)).mono ?_
    rintro e w1 ⟨rfl, hb⟩
    replace HX := hidW ((HX.out.step hb).with kb)
    clear hb HL
    have c0 := HX.out.f1.bs.cell 0
    go_wp2_with (fail)
    go_at_call 45
    generalize World.alloc _ _ = w2 at *
    generalize w1.heap.size = D at *
    refine (HK.out _ HX.out.f1.ps (HT.out _ HX.out.f1.trn)).mono ?_
    rintro e w3 ⟨rfl, hb⟩
    replace HX := hidW (HX.out.step hb)
    clear hb HK c0 HU
    have r1 := HX.out.f1.br.cell
    have r2 := HX.out.f1.br.frozen
    have r3 := HX.out.f1.br.lt
    go_wp2
    refine bodyPost_ret (v := .tuple #[.agg #[.int .i64 ab.asid, .int .i64 ab.t.size, .int .u32 ab.t.va, .int .u64 ab.t.pa, .int .i64 ab.t.dom, .int .i64 ab.t.ap, .int .u32 ab.t.bits, .bool ab.t.ng, .bool ab.t.xn], .int .i64 an]) (by simp [results, Tryd.results30, go_sem, r1, r2, r3]) rfl ⟨rfl, ?_⟩
    exact HX.out.f1.ends ab
  · have h1 : ¬ (kn : Int) = 0 := by omega
    rw [if_neg h0]
    dsimp only
    by_cases h2 : kn = 1
    · subst h2
      rw [if_pos rfl]
      go_enter Tryd.func30, Tryd.ntmps30
      go_wp2_with (fail)
      go_at_call 45
      generalize World.alloc _ _ = w0 at *
      generalize hA : W.heap.size = A at HX ⊢
      generalize A + 1 = B at *
      generalize B + 1 = C at *
      clear hA
      refine (HL.out _ HX.out.pm (HT.out _ HX.out.trn)).mono ?_
      rintro e w1 ⟨rfl, hb⟩
      replace HX := hidW ((HX.out.step hb).with kb)
      clear hb HL
      have c0 := HX.out.f1.bs.cell 0
      have c2 := HX.out.bn.cell
      go_wp2_with (fail)
      go_at_call 28
      generalize World.alloc _ _ = w2 at *
      generalize w1.heap.size = D at *
      refine (HU.out _ HX.out.f1.ps (HT.out _ HX.out.f1.trn)).mono ?_
      rintro e w3 ⟨rfl, hp, hT⟩
      replace HX := hidW (HX.out.turnS hp hT)
      clear hp hT HU c0 c2
      have r1 := HX.out.f1.br.cell
      have r2 := HX.out.f1.br.frozen
      have r3 := HX.out.f1.br.lt
      have c1 := HX.out.bn.cell
      go_wp2
      refine bodyPost_ret (v := .tuple #[.agg #[.int .i64 kb.asid, .int .i64 kb.t.size, .int .u32 kb.t.va, .int .u64 kb.t.pa, .int .i64 kb.t.dom, .int .i64 kb.t.ap, .int .u32 kb.t.bits, .bool kb.t.ng, .bool kb.t.xn], .int .i64 1]) (by simp [results, Tryd.results30, go_sem, r1, r2, r3]) rfl ⟨rfl, ?_⟩
      exact HX.out.f1.ends kb
    · have h3 : ¬ (kn : Int) = 1 := by omega
      rw [if_neg h2]
      go_enter Tryd.func30, Tryd.ntmps30
      go_wp2_with (fail)
      go_at_call 45
      generalize World.alloc _ _ = w0 at *
      generalize hA : W.heap.size = A at HX ⊢
      generalize A + 1 = B at *
      generalize B + 1 = C at *
      clear hA
      refine (HL.out _ HX.out.pm (HT.out _ HX.out.trn)).mono ?_
      rintro e w1 ⟨rfl, hb⟩
      replace HX := hidW ((HX.out.step hb).with kb)
      clear hb HL
      have r1 := HX.out.f1.br.cell
      have r2 := HX.out.f1.br.frozen
      have r3 := HX.out.f1.br.lt
      go_wp2
      refine bodyPost_ret (v := .tuple #[.agg #[.int .i64 kb.asid, .int .i64 kb.t.size, .int .u32 kb.t.va, .int .u64 kb.t.pa, .int .i64 kb.t.dom, .int .i64 kb.t.ap, .int .u32 kb.t.bits, .bool kb.t.ng, .bool kb.t.xn], .int .i64 kn]) (by simp [results, Tryd.results30, go_sem, r1, r2, r3]) rfl ⟨rfl, ?_⟩
      exact HX.out.f1.ends kb
end Go.Proofs.YtbbnodhpafiplaaDoor

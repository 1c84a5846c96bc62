import Derived.Test.YtmodcbdgnmjkoaaDoorVf
import Derived.Test.YtmodcbdgnmjkoaaDoorWj
import Derived.Test.YtmodcbdgnmjkoaaDoorMR
namespace Go.Proofs.YtmodcbdgnmjkoaaDoor
open Go.RowKit
open Mm (Turn gr PM RM valV errV Byts)
set_option linter.unusedVariables false
set_option linter.unusedSimpArgs false
theorem wk_fault {M : Mo} {c : Ctx} {va : Int} (h : (wk M c va).2.same fZ = false) : (wk M c va).1 = tZ := by
  unfold wk at *
  split at h
  · rename_i ho
    rw [if_pos ho]
    split at h
    · rename_i h1
      rw [if_pos h1]
      split at h
      · rename_i h2
        rw [if_pos h2]
        unfold w2 at *
        split at h
        · rename_i h3
          rw [if_pos h3]
          split at h
          · rename_i h4
            rw [if_pos h4]
          · rename_i h4
            rw [Fa.same_self] at h; cases h
        · rename_i h3
          rw [if_neg h3]
      · rw [Fa.same_self] at h; cases h
    · rename_i h1
      rw [if_neg h1]
  · rw [Fa.same_self] at h; cases h
set_option maxRecDepth 100000 in
theorem eqF9 (a b : Fa) (w : World) : (Op.equalIn 10000 37 (.agg #[.int .i64 a.k, .int .i64 a.l, .int .i64 a.d]) (.agg #[.int .i64 b.k, .int .i64 b.l, .int .i64 b.d])).run Tryd.prog w = .ok (a.same b) w := by
  obtain ⟨a1, a2, a3⟩ := a
  obtain ⟨b1, b2, b3⟩ := b
  go_simp
  simp only [Fa.same]
  repeat' split
  all_goals simp_all
theorem tZ_no {t : Tra} (h : riF t = true) : tZ.same t = false := by
  cases hs : tZ.same t
  · rfl
  · have := (Tra.same_iff tZ t).1 hs
    subst this
    have := ri_size h
    simp [tZ] at this
set_option maxRecDepth 100000 in
set_option maxHeartbeats 4000000 in
theorem sameR_no (c : Ctx) (t : Tra) (w : World) (rv : Value) (h : c.on = false ∨ riF t = false) (hf : Fz t) :
    Calls Tryd.prog 28 #[rv, .agg #[.bool c.on, .bool c.tre, .bool c.afe, .int .i64 c.n, .bool c.pd0, .bool c.pd1, .int .u64 c.b0, .int .u64 c.b1, .int .u32 c.dacr, .int .u32 c.prrr, .int .u32 c.nmrr, .int .i64 c.asid], .agg #[.int .i64 t.size, .int .u32 t.va, .int .u64 t.pa, .int .i64 t.dom, .int .i64 t.ap, .int .u32 t.bits, .bool t.ng, .bool t.xn]] w fun e w' => e = .returned (.bool false) ∧ Below w.heap.size w w' := by
  have HB := hidW (Below.step (below_new w (.cells #[.bool c.on, .bool c.tre, .bool c.afe, .int .i64 c.n, .bool c.pd0, .bool c.pd1, .int .u64 c.b0, .int .u64 c.b1, .int .u32 c.dacr, .int .u32 c.prrr, .int .u32 c.nmrr, .int .i64 c.asid] 26)) (below_new _ (.cells #[.int .i64 t.size, .int .u32 t.va, .int .u64 t.pa, .int .i64 t.dom, .int .i64 t.ap, .int .u32 t.bits, .bool t.ng, .bool t.xn] 35)))
  cases hon : c.on
  · clear h
    rw [hon] at HB
    go_enter Tryd.func28, Tryd.ntmps28
    go_wp2
    go_ret
    exact ⟨rfl, HB.out⟩
  · have hr : riF t = false := by rcases h with h | h; exact absurd h (by rw [hon]; simp); exact h
    have HR := hidW (fun ww => rright_any t ww hf.va ⟨hf.pa, hf.bt⟩)
    rw [hr] at HR
    rw [hon] at HB
    clear h
    go_enter Tryd.func28, Tryd.ntmps28
    go_wp2_with fail
    go_at_call 47
    refine (HR.out _).mono ?_
    rintro e w1 ⟨rfl, hb⟩
    have HE := hidW (Below.step HB.out hb)
    clear hb HB HR
    go_wp2
    go_ret
    exact ⟨rfl, HE.out⟩
set_option maxRecDepth 100000 in
set_option maxHeartbeats 8000000 in
theorem sameR_yes (c : Ctx) (t : Tra) (w : World) {S : Nat → Prop} {rv : Value} {M : Mo} (hm : MemR w S rv M) (hon : c.on = true) (hri : riF t = true) (hf : Fz t) (ht : TW w) (hc : c.Ok) :
    Calls Tryd.prog 28 #[rv, .agg #[.bool c.on, .bool c.tre, .bool c.afe, .int .i64 c.n, .bool c.pd0, .bool c.pd1, .int .u64 c.b0, .int .u64 c.b1, .int .u32 c.dacr, .int .u32 c.prrr, .int .u32 c.nmrr, .int .i64 c.asid], .agg #[.int .i64 t.size, .int .u32 t.va, .int .u64 t.pa, .int .i64 t.dom, .int .i64 t.ap, .int .u32 t.bits, .bool t.ng, .bool t.xn]] w fun e w' => e = .returned (.bool (allOk M c t (reN t.size).toNat)) ∧ Below w.heap.size w w' := by
  have hp := reN_pos hri
  have htz := tZ_no hri
  have hvr := hidW (fun i hi => va_rng hf hri (i := i) hi)
  have HR := hidW (fun ww => rright_any t ww hf.va ⟨hf.pa, hf.bt⟩)
  rw [hri] at HR
  have HX := hidW (KS.new w c t)
  have HY := hidW (fun ww => refBytes_any t.size ww)
  have HM := hidW (fun ww (hb : Below w.heap.size w ww) va hv => vwalk_any c va ww (hm.below hb) (ht.below hb) hc hv)
  have HA := hidW (fun n => allOk_step M c t n)
  have HZ := hidW (fun k n (hk : k < n) h => allOk_no (M := M) (c := c) (t := t) hk h)
  have hsz := ri_size hri
  have hst2 : stp t.size = if 3 ≤ t.size then 1048576 else 4096 := by rcases hsz with h | h | h | h <;> simp [h, stp]
  rw [hon] at HX HM ⊢
  obtain ⟨n, hn⟩ : ∃ n : Nat, reN t.size = (n : Int) := ⟨(reN t.size).toNat, by omega⟩
  rw [hn] at hp hvr ⊢
  rw [Int.toNat_natCast] at hvr ⊢
  have h16 : (n : Int) ≤ 16 := by omega
  have hst : 0 < stp t.size := by omega
  have hstm : stp t.size ≤ 1048576 := by unfold stp; split <;> omega
  have hby : byN t.size = (n : Int) * stp t.size := hp.2.2.2.1
  rw [hby] at HY
  clear hp hn hby
  obtain ⟨q, hq⟩ : ∃ q, decide (3 ≤ t.size) = q := ⟨_, rfl⟩
  have hsq : (if q then (1048576 : Int) else 4096) = stp t.size := by rw [hst2, ← hq]; by_cases h : 3 ≤ t.size <;> simp [h]
  have HO : Hid (∀ k : Nat, okAt M c t k = (wk M c (t.va + (k : Int) * stp t.size)).1.same t) := fun k => rfl
  have HF := hidW (fun va => wk_fault (M := M) (c := c) (va := va))
  clear hst2 hsz
  go_enter Tryd.func28, Tryd.ntmps28
  go_wp2_with fail
  go_at_call 47
  refine (HR.out _).mono ?_
  rintro e wa ⟨rfl, hb⟩
  have HX1 := hidW (HX.out.below hb)
  clear hb HX HR
  generalize w.heap.size + 1 = y at *
  have c1 := HX1.out.T.cell
  cases q
  all_goals
    simp only [if_true, if_false, Bool.false_eq_true] at hsq
    generalize stp t.size = st at *
    subst hsq
    go_wp2
  · clear c1
    go_loopw [8] (fun i wr => ∃ k : Nat, k ≤ n ∧ i = .int .u64 ((k : Int) * 4096) ∧ allOk M c t k = true ∧ Hid (KS w wr c t w.heap.size y)) (fun i _ => n - ((intOf i) / 4096).toNat)
    case atStart => exact ⟨0, Nat.zero_le _, by simp, rfl, HX1.out⟩
    case round =>
      obtain ⟨k, hk, rfl, hall, HK⟩ := hrel
      clear HX1
      have c1 := HK.out.T.cell
      by_cases hlt : k < n
      · have hkz : (k : Int) * 4096 < (n : Int) * 4096 := by omega
        have hv := hvr.out k hlt
        have w3 : IntKind.u32.wrap ((k : Int) * 4096) = (k : Int) * 4096 := by rw [IntKind.wrap_u32]; omega
        have w4 : IntKind.u32.wrap (t.va + (k : Int) * 4096) = t.va + (k : Int) * 4096 := by rw [IntKind.wrap_u32]; omega
        have w5 : IntKind.u64.wrap ((k : Int) * 4096 + 4096) = ((k + 1 : Nat) : Int) * 4096 := by rw [IntKind.wrap_u64]; omega
        have HC := hidW (HM.out wr HK.out.bel (t.va + (k : Int) * 4096) ⟨hv.1, hv.2.1⟩)
        have ho := HO.out k
        have hfl := HF.out (t.va + (k : Int) * 4096)
        have hs := HA.out k
        have hno := hidW (HZ.out k n hlt)
        have c2 := HK.out.C.cell
        rw [hon] at c2
        have eq := eqT (wk M c (t.va + (k : Int) * 4096)).1 t
        have eqf : ∀ w, (Op.equalIn 10000 37 (.agg #[.int .i64 ((wk M c (t.va + (k : Int) * 4096)).2).k, .int .i64 ((wk M c (t.va + (k : Int) * 4096)).2).l, .int .i64 ((wk M c (t.va + (k : Int) * 4096)).2).d]) (.agg #[.int .i64 0, .int .i64 0, .int .i64 0])).run Tryd.prog w = .ok ((wk M c (t.va + (k : Int) * 4096)).2.same fZ) w := eqF9 _ fZ
        rw [ho] at hs hno
        generalize (wk M c (t.va + (k : Int) * 4096)).1 = U at *
        generalize (wk M c (t.va + (k : Int) * 4096)).2 = F at *
        have hfl2 : F.same fZ = false → U.same t = false := fun h => by rw [hfl h]; exact htz
        generalize hsb : U.same t = sb at *
        generalize hsf : F.same fZ = sf at *
        rw [hall] at hs
        clear ho hvr hsb hsf hfl
        go_wp2_with fail
        go_at_call 48
        refine (HY.out _).mono ?_
        rintro e wq ⟨rfl, rfl⟩
        go_wp2_with fail
        go_at_call 23
        refine HC.out.mono ?_
        rintro e wb ⟨rfl, hb⟩
        have HK2 := hidW ((HK.out.below hb).below (Below.step (below_new wb (.cells #[.int .i64 U.size, .int .u32 U.va, .int .u64 U.pa, .int .i64 U.dom, .int .i64 U.ap, .int .u32 U.bits, .bool U.ng, .bool U.xn] 35)) (below_new _ (.cells #[.int .i64 F.k, .int .i64 F.l, .int .i64 F.d] 37))))
        have cT := HK2.out.T.cell
        have hyl : y < wb.heap.size := Nat.lt_of_lt_of_le HK.out.T.lt hb.size
        have n1 : ¬ y = wb.heap.size := by omega
        have n2 : ¬ y = wb.heap.size + 1 := by omega
        clear hb c1 c2 HC HK hyl
        cases sf
        · have hf := hidW (hno.out (hfl2 rfl))
          clear hs hno hfl2
          go_wp2
          go_ret
          rw [hf.out]
          exact ⟨rfl, HK2.out.bel⟩
        · clear hfl2
          cases sb
          · have hf := hidW (hno.out rfl)
            clear hs hno
            go_wp2
            go_ret
            rw [hf.out]
            exact ⟨rfl, HK2.out.bel⟩
          · simp at hs
            clear hno
            go_wp2
            go_roundw
            case rel => exact ⟨k + 1, by omega, rfl, hs, HK2.out⟩
            case measure => simp [intOf]; omega
      · obtain rfl : k = n := by omega
        have HL := hidW hall
        clear hall
        go_wp2_with fail
        go_at_call 48
        refine (HY.out _).mono ?_
        rintro e wq ⟨rfl, rfl⟩
        go_wp2
        go_ret
        rw [HL.out]
        exact ⟨rfl, HK.out.bel⟩
  · clear c1
    go_loopw [8] (fun i wr => ∃ k : Nat, k ≤ n ∧ i = .int .u64 ((k : Int) * 1048576) ∧ allOk M c t k = true ∧ Hid (KS w wr c t w.heap.size y)) (fun i _ => n - ((intOf i) / 1048576).toNat)
    case atStart => exact ⟨0, Nat.zero_le _, by simp, rfl, HX1.out⟩
    case round =>
      obtain ⟨k, hk, rfl, hall, HK⟩ := hrel
      clear HX1
      have c1 := HK.out.T.cell
      by_cases hlt : k < n
      · have hkz : (k : Int) * 1048576 < (n : Int) * 1048576 := by omega
        have hv := hvr.out k hlt
        have w3 : IntKind.u32.wrap ((k : Int) * 1048576) = (k : Int) * 1048576 := by rw [IntKind.wrap_u32]; omega
        have w4 : IntKind.u32.wrap (t.va + (k : Int) * 1048576) = t.va + (k : Int) * 1048576 := by rw [IntKind.wrap_u32]; omega
        have w5 : IntKind.u64.wrap ((k : Int) * 1048576 + 1048576) = ((k + 1 : Nat) : Int) * 1048576 := by rw [IntKind.wrap_u64]; omega
        have HC := hidW (HM.out wr HK.out.bel (t.va + (k : Int) * 1048576) ⟨hv.1, hv.2.1⟩)
        have ho := HO.out k
        have hfl := HF.out (t.va + (k : Int) * 1048576)
        have hs := HA.out k
        have hno := hidW (HZ.out k n hlt)
        have c2 := HK.out.C.cell
        rw [hon] at c2
        have eq := eqT (wk M c (t.va + (k : Int) * 1048576)).1 t
        have eqf : ∀ w, (Op.equalIn 10000 37 (.agg #[.int .i64 ((wk M c (t.va + (k : Int) * 1048576)).2).k, .int .i64 ((wk M c (t.va + (k : Int) * 1048576)).2).l, .int .i64 ((wk M c (t.va + (k : Int) * 1048576)).2).d]) (.agg #[.int .i64 0, .int .i64 0, .int .i64 0])).run Tryd.prog w = .ok ((wk M c (t.va + (k : Int) * 1048576)).2.same fZ) w := eqF9 _ fZ
        rw [ho] at hs hno
        generalize (wk M c (t.va + (k : Int) * 1048576)).1 = U at *
        generalize (wk M c (t.va + (k : Int) * 1048576)).2 = F at *
        have hfl2 : F.same fZ = false → U.same t = false := fun h => by rw [hfl h]; exact htz
        generalize hsb : U.same t = sb at *
        generalize hsf : F.same fZ = sf at *
        rw [hall] at hs
        clear ho hvr hsb hsf hfl
        go_wp2_with fail
        go_at_call 48
        refine (HY.out _).mono ?_
        rintro e wq ⟨rfl, rfl⟩
        go_wp2_with fail
        go_at_call 23
        refine HC.out.mono ?_
        rintro e wb ⟨rfl, hb⟩
        have HK2 := hidW ((HK.out.below hb).below (Below.step (below_new wb (.cells #[.int .i64 U.size, .int .u32 U.va, .int .u64 U.pa, .int .i64 U.dom, .int .i64 U.ap, .int .u32 U.bits, .bool U.ng, .bool U.xn] 35)) (below_new _ (.cells #[.int .i64 F.k, .int .i64 F.l, .int .i64 F.d] 37))))
        have cT := HK2.out.T.cell
        have hyl : y < wb.heap.size := Nat.lt_of_lt_of_le HK.out.T.lt hb.size
        have n1 : ¬ y = wb.heap.size := by omega
        have n2 : ¬ y = wb.heap.size + 1 := by omega
        clear hb c1 c2 HC HK hyl
        cases sf
        · have hf := hidW (hno.out (hfl2 rfl))
          clear hs hno hfl2
          go_wp2
          go_ret
          rw [hf.out]
          exact ⟨rfl, HK2.out.bel⟩
        · clear hfl2
          cases sb
          · have hf := hidW (hno.out rfl)
            clear hs hno
            go_wp2
            go_ret
            rw [hf.out]
            exact ⟨rfl, HK2.out.bel⟩
          · simp at hs
            clear hno
            go_wp2
            go_roundw
            case rel => exact ⟨k + 1, by omega, rfl, hs, HK2.out⟩
            case measure => simp [intOf]; omega
      · obtain rfl : k = n := by omega
        have HL := hidW hall
        clear hall
        go_wp2_with fail
        go_at_call 48
        refine (HY.out _).mono ?_
        rintro e wq ⟨rfl, rfl⟩
        go_wp2
        go_ret
        rw [HL.out]
        exact ⟨rfl, HK.out.bel⟩
theorem sameR_any (c : Ctx) (t : Tra) (w : World) {S : Nat → Prop} {rv : Value} {M : Mo} (hm : MemR w S rv M) (ht : TW w) (hf : Fz t) (hc : c.Ok) :
    Calls Tryd.prog 28 #[rv, .agg #[.bool c.on, .bool c.tre, .bool c.afe, .int .i64 c.n, .bool c.pd0, .bool c.pd1, .int .u64 c.b0, .int .u64 c.b1, .int .u32 c.dacr, .int .u32 c.prrr, .int .u32 c.nmrr, .int .i64 c.asid], .agg #[.int .i64 t.size, .int .u32 t.va, .int .u64 t.pa, .int .i64 t.dom, .int .i64 t.ap, .int .u32 t.bits, .bool t.ng, .bool t.xn]] w fun e w' => e = .returned (.bool (smF M c t)) ∧ Below w.heap.size w w' := by
  unfold smF
  cases hon : c.on
  · have h := sameR_no c t w rv (.inl hon) hf
    rw [hon] at h
    exact h
  · cases hri : riF t
    · have h := sameR_no c t w rv (.inr hri) hf
      rw [hon] at h
      exact h
    · have h := sameR_yes c t w hm hon hri hf ht hc
      rw [hon] at h
      exact h
end Go.Proofs.YtmodcbdgnmjkoaaDoor

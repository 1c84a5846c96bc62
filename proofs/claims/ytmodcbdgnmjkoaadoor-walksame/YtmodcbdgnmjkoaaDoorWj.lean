import Derived.Test.YtmodcbdgnmjkoaaDoorWg
import Derived.Test.YtmodcbdgnmjkoaaDoorMS
import Derived.Test.YtmodcbdgnmjkoaaDoorRi
namespace Go.Proofs.YtmodcbdgnmjkoaaDoor
open Go.RowKit
open Mm (Turn gr PM valV errV Byts)
set_option linter.unusedVariables false
set_option linter.unusedSimpArgs false
/-- The tables that Same reads. -/
structure TS (w : World) : Prop where
  r : TR w
  z : TZ w
theorem TZ.below {w w' : World} (h : TZ w) (hb : Below w.heap.size w w') : TZ w' := ⟨h.base.below hb, h.kind.below hb, h.rep.below hb⟩
theorem TS.below {w w' : World} (h : TS w) (hb : Below w.heap.size w w') : TS w' := ⟨h.r.below hb, h.z.below hb⟩
theorem TS.tw {w : World} (h : TS w) : TW w := ⟨h.r.toTT⟩
/-- How far the descriptors of a block stand apart. -/
def stp (s : Int) : Int := if s = 1 ∨ s = 2 then 4096 else 1048576
def okAt (M : Mo) (c : Ctx) (t : Tra) (i : Nat) : Bool := (wk M c (t.va + i * stp t.size)).1.same t
def allOk (M : Mo) (c : Ctx) (t : Tra) (n : Nat) : Bool := (List.range n).all (okAt M c t)
def smF (M : Mo) (c : Ctx) (t : Tra) : Bool := c.on && (riF t && allOk M c t (reN t.size).toNat)
theorem allOk_step (M : Mo) (c : Ctx) (t : Tra) (n : Nat) : allOk M c t (n + 1) = (allOk M c t n && okAt M c t n) := by
  unfold allOk
  rw [List.range_succ, List.all_append]
  simp
theorem allOk_no {M : Mo} {c : Ctx} {t : Tra} {k n : Nat} (hk : k < n) (h : okAt M c t k = false) : allOk M c t n = false := by
  unfold allOk
  rw [List.all_eq_false]
  exact ⟨k, List.mem_range.2 hk, by rw [h]; simp⟩
/-- What a right translation's numbers are. -/
theorem ri_size {t : Tra} (h : riF t = true) : t.size = 1 ∨ t.size = 2 ∨ t.size = 3 ∨ t.size = 4 := by
  unfold riF at h
  simp at h
  omega
structure Fz (t : Tra) : Prop where
  va : 0 ≤ t.va ∧ t.va < 4294967296
  pa : 0 ≤ t.pa ∧ t.pa < 18446744073709551616
  bt : 0 ≤ t.bits ∧ t.bits < 4294967296
theorem ri_rr {t : Tra} (hf : Fz t) (h : riF t = true) : RR t := (ri_iff t ⟨hf.pa, hf.bt⟩ (by have := ri_size h; omega)).1 h
theorem va_rng {t : Tra} (hf : Fz t) (h : riF t = true) {i : Nat} (hi : i < (reN t.size).toNat) : 0 ≤ t.va + i * stp t.size ∧ t.va + i * stp t.size < 4294967296 ∧ (i : Int) * stp t.size < 4294967296 := by
  have hr := (ri_rr hf h).1
  have hv := hf.va
  unfold stp reN byN at *
  rcases ri_size h with h1 | h1 | h1 | h1 <;> simp [h1] at hr hi ⊢ <;> omega
theorem reN_pos {t : Tra} (h : riF t = true) : 1 ≤ reN t.size ∧ reN t.size ≤ 16 ∧ byN t.size / reN t.size = stp t.size ∧ byN t.size = reN t.size * stp t.size ∧ 0 < stp t.size ∧ byN t.size < 4294967296 ∧ 0 ≤ byN t.size := by
  rcases ri_size h with h1 | h1 | h1 | h1 <;> simp [h1, reN, byN, stp]
set_option maxRecDepth 100000 in
set_option maxHeartbeats 4000000 in
theorem sameP_no (c : Ctx) (t : Tra) (w : World) (iv : Value) (h : c.on = false ∨ riF t = false) (hf : Fz t) (ht : TS w) :
    Calls Tryd.prog 27 #[iv, .agg #[.bool c.on, .bool c.tre, .bool c.afe, .int .i64 c.n, .bool c.pd0, .bool c.pd1, .int .u64 c.b0, .int .u64 c.b1, .int .u32 c.dacr, .int .u32 c.prrr, .int .u32 c.nmrr, .int .i64 c.asid], .agg #[.int .i64 t.size, .int .u32 t.va, .int .u64 t.pa, .int .i64 t.dom, .int .i64 t.ap, .int .u32 t.bits, .bool t.ng, .bool t.xn]] w fun e w' => e = .returned (.bool false) ∧ Below w.heap.size w w' := by
  have HB := hidW (Below.step (below_new w (.cells #[.bool c.on, .bool c.tre, .bool c.afe, .int .i64 c.n, .bool c.pd0, .bool c.pd1, .int .u64 c.b0, .int .u64 c.b1, .int .u32 c.dacr, .int .u32 c.prrr, .int .u32 c.nmrr, .int .i64 c.asid] 26)) (below_new _ (.cells #[.int .i64 t.size, .int .u32 t.va, .int .u64 t.pa, .int .i64 t.dom, .int .i64 t.ap, .int .u32 t.bits, .bool t.ng, .bool t.xn] 35)))
  cases hon : c.on
  · clear h
    rw [hon] at HB
    go_enter Tryd.func27, Tryd.ntmps27
    go_wp2
    go_ret
    exact ⟨rfl, HB.out⟩
  · have hr : riF t = false := by rcases h with h | h; exact absurd h (by rw [hon]; simp); exact h
    have HR := hidW (fun ww hw => right_any t ww hw hf.va ⟨hf.pa, hf.bt⟩)
    rw [hr] at HR
    rw [hon] at HB
    have HT := hidW ht
    clear h ht
    go_enter Tryd.func27, Tryd.ntmps27
    go_wp2_with fail
    go_at_call 16
    refine (HR.out _ (HT.out.below HB.out).r).mono ?_
    rintro e w1 ⟨rfl, hb⟩
    have HE := hidW (Below.step HB.out hb)
    clear hb HB HR HT
    go_wp2
    go_ret
    exact ⟨rfl, HE.out⟩
/-- Both boxes. -/
structure KS (w wr : World) (c : Ctx) (t : Tra) (x y : Nat) : Prop where
  bel : Below w.heap.size w wr
  C : Bl wr x 26 [.bool c.on, .bool c.tre, .bool c.afe, .int .i64 c.n, .bool c.pd0, .bool c.pd1, .int .u64 c.b0, .int .u64 c.b1, .int .u32 c.dacr, .int .u32 c.prrr, .int .u32 c.nmrr, .int .i64 c.asid]
  T : Bl wr y 35 [.int .i64 t.size, .int .u32 t.va, .int .u64 t.pa, .int .i64 t.dom, .int .i64 t.ap, .int .u32 t.bits, .bool t.ng, .bool t.xn]
theorem KS.below {w wr wn : World} {c : Ctx} {t : Tra} {x y : Nat} (h : KS w wr c t x y) (hb : Below wr.heap.size wr wn) : KS w wn c t x y := ⟨Below.step h.bel hb, h.C.below hb, h.T.below hb⟩
theorem KS.new (w : World) (c : Ctx) (t : Tra) : KS w ((w.alloc (.cells #[.bool c.on, .bool c.tre, .bool c.afe, .int .i64 c.n, .bool c.pd0, .bool c.pd1, .int .u64 c.b0, .int .u64 c.b1, .int .u32 c.dacr, .int .u32 c.prrr, .int .u32 c.nmrr, .int .i64 c.asid] 26)).alloc (.cells #[.int .i64 t.size, .int .u32 t.va, .int .u64 t.pa, .int .i64 t.dom, .int .i64 t.ap, .int .u32 t.bits, .bool t.ng, .bool t.xn] 35)) c t w.heap.size (w.heap.size + 1) := by
  have h := Bl.new (w.alloc (.cells #[.bool c.on, .bool c.tre, .bool c.afe, .int .i64 c.n, .bool c.pd0, .bool c.pd1, .int .u64 c.b0, .int .u64 c.b1, .int .u32 c.dacr, .int .u32 c.prrr, .int .u32 c.nmrr, .int .i64 c.asid] 26)) 35 [.int .i64 t.size, .int .u32 t.va, .int .u64 t.pa, .int .i64 t.dom, .int .i64 t.ap, .int .u32 t.bits, .bool t.ng, .bool t.xn]
  rw [show (w.alloc (.cells #[.bool c.on, .bool c.tre, .bool c.afe, .int .i64 c.n, .bool c.pd0, .bool c.pd1, .int .u64 c.b0, .int .u64 c.b1, .int .u32 c.dacr, .int .u32 c.prrr, .int .u32 c.nmrr, .int .i64 c.asid] 26)).heap.size = w.heap.size + 1 by simp] at h
  exact ⟨Below.step (below_new _ _) (below_new _ _), (Bl.new w 26 [.bool c.on, .bool c.tre, .bool c.afe, .int .i64 c.n, .bool c.pd0, .bool c.pd1, .int .u64 c.b0, .int .u64 c.b1, .int .u32 c.dacr, .int .u32 c.prrr, .int .u32 c.nmrr, .int .i64 c.asid]).below (below_new _ _), h⟩
set_option maxRecDepth 100000 in
set_option maxHeartbeats 8000000 in
theorem sameP_yes (c : Ctx) (t : Tra) (w : World) {S : Nat → Prop} {iv : Value} {M : Mo} (hm : MemP w S iv M) (hon : c.on = true) (hri : riF t = true) (hf : Fz t) (ht : TS w) (hc : c.Ok) :
    Calls Tryd.prog 27 #[iv, .agg #[.bool c.on, .bool c.tre, .bool c.afe, .int .i64 c.n, .bool c.pd0, .bool c.pd1, .int .u64 c.b0, .int .u64 c.b1, .int .u32 c.dacr, .int .u32 c.prrr, .int .u32 c.nmrr, .int .i64 c.asid], .agg #[.int .i64 t.size, .int .u32 t.va, .int .u64 t.pa, .int .i64 t.dom, .int .i64 t.ap, .int .u32 t.bits, .bool t.ng, .bool t.xn]] w fun e w' => e = .returned (.bool (allOk M c t (reN t.size).toNat)) ∧ Below w.heap.size w w' := by
  have hp := reN_pos hri
  have hvr := hidW (fun i hi => va_rng hf hri (i := i) hi)
  have HR := hidW (fun ww hw => right_any t ww hw hf.va ⟨hf.pa, hf.bt⟩)
  rw [hri] at HR
  have HX := hidW (KS.new w c t)
  have HN := hidW (fun ww (hw : TZ ww) => repeats_any t.size ww hw)
  have HY := hidW (fun ww (hw : TB ww) => bytes_any t.size ww hw)
  have HT := hidW ht
  have HM := hidW (fun ww (hb : Below w.heap.size w ww) va hv => walk_pure c va ww (hm.below hb) ((ht.below hb).tw) hc hv)
  have HA := hidW (fun n => allOk_step M c t n)
  have HZ := hidW (fun k n (hk : k < n) h => allOk_no (M := M) (c := c) (t := t) hk h)
  rw [hon] at HX HM ⊢
  obtain ⟨n, hn⟩ : ∃ n : Nat, reN t.size = (n : Int) := ⟨(reN t.size).toNat, by omega⟩
  rw [hn] at HN hp hvr ⊢
  have w1 : IntKind.u32.wrap (n : Int) = (n : Int) := by rw [IntKind.wrap_u32]; omega
  have w2 : IntKind.u32.wrap (byN t.size) = byN t.size := by rw [IntKind.wrap_u32]; omega
  have td : (byN t.size).tdiv (n : Int) = stp t.size := by rw [Int.tdiv_eq_ediv_of_nonneg (by omega)]; exact hp.2.2.1
  have hz : ¬ (n : Int) = 0 := by omega
  have h16 : (n : Int) ≤ 16 := by omega
  have hst : 0 < stp t.size := by omega
  have hby0 : 0 ≤ byN t.size := by omega
  have hby1 : byN t.size < 4294967296 := by omega
  have hdv : byN t.size / (n : Int) = stp t.size := hp.2.2.1
  have w0 : IntKind.u32.wrap (stp t.size) = stp t.size := by rw [IntKind.wrap_u32]; have : stp t.size ≤ 1048576 := (by unfold stp; split <;> omega); omega
  have hzb : ((n : Int) == 0) = false := by simp; omega
  rw [Int.toNat_natCast] at hvr ⊢
  clear hp hn
  go_enter Tryd.func27, Tryd.ntmps27
  go_wp2_with fail
  go_at_call 16
  refine (HR.out _ (HT.out.below HX.out.bel).r).mono ?_
  rintro e wa ⟨rfl, hb⟩
  have HX1 := hidW (HX.out.below hb)
  clear hb HX HR
  generalize w.heap.size + 1 = y at *
  have c1 := HX1.out.T.cell
  go_wp2_with fail
  go_at_call 46
  refine (HN.out _ (HT.out.below HX1.out.bel).z).mono ?_
  rintro e wb ⟨rfl, rfl⟩
  go_wp2_with fail
  go_at_call 15
  refine (HY.out _ ⟨(HT.out.below HX1.out.bel).z.base, (HT.out.below HX1.out.bel).z.kind⟩).mono ?_
  rintro e wb ⟨rfl, rfl⟩
  clear c1 HN HY
  go_wp2
  go_loopw [31] (fun i wr => ∃ k : Nat, k ≤ n ∧ i = .int .u32 k ∧ allOk M c t k = true ∧ Hid (KS w wr c t w.heap.size y)) (fun i _ => n - (intOf i).toNat)
  case atStart => exact ⟨0, Nat.zero_le _, rfl, rfl, HX1.out⟩
  case round =>
    obtain ⟨k, hk, rfl, hall, HK⟩ := hrel
    clear HX1
    by_cases hlt : k < n
    · have hkz : (k : Int) < (n : Int) := by omega
      have hv := hvr.out k hlt
      have w3 : IntKind.u32.wrap ((k : Int) * stp t.size) = (k : Int) * stp t.size := by rw [IntKind.wrap_u32]; have := Int.mul_nonneg (Int.natCast_nonneg k) (Int.le_of_lt hst); omega
      have w4 : IntKind.u32.wrap (t.va + (k : Int) * stp t.size) = t.va + (k : Int) * stp t.size := by rw [IntKind.wrap_u32]; omega
      have w5 : IntKind.u32.wrap ((k : Int) + 1) = (k : Int) + 1 := by rw [IntKind.wrap_u32]; omega
      have HC := hidW (HM.out wr HK.out.bel (t.va + (k : Int) * stp t.size) ⟨hv.1, hv.2.1⟩)
      have ho : okAt M c t k = (wk M c (t.va + (k : Int) * stp t.size)).1.same t := rfl
      have hs := HA.out k
      have hno := hidW (HZ.out k n hlt)
      have c1 := HK.out.T.cell
      have c2 := HK.out.C.cell
      rw [hon] at c2
      have eq := eqT (wk M c (t.va + (k : Int) * stp t.size)).1 t
      rw [ho] at hs hno
      generalize (wk M c (t.va + (k : Int) * stp t.size)).1 = U at *
      generalize (wk M c (t.va + (k : Int) * stp t.size)).2 = F at *
      generalize hsb : U.same t = sb at *
      rw [hall] at hs
      clear ho hvr hsb
      go_wp2_with fail
      go_at_call 11
      refine HC.out.mono ?_
      rintro e wb ⟨rfl, hb⟩
      have HK2 := hidW ((HK.out.below hb).below (Below.step (below_new wb (.cells #[.int .i64 U.size, .int .u32 U.va, .int .u64 U.pa, .int .i64 U.dom, .int .i64 U.ap, .int .u32 U.bits, .bool U.ng, .bool U.xn] 35)) (below_new _ (.cells #[.int .i64 F.k, .int .i64 F.l, .int .i64 F.d] 37))))
      have cT := HK2.out.T.cell
      have hyl : y < wb.heap.size := Nat.lt_of_lt_of_le HK.out.T.lt hb.size
      have n1 : ¬ y = wb.heap.size := by omega
      have n2 : ¬ y = wb.heap.size + 1 := by omega
      clear hb c1 c2 HC HK hyl
      cases sb
      · have hf := hidW (hno.out rfl)
        clear hs hno
        go_wp2
        go_ret
        rw [hf.out]
        exact ⟨rfl, HK2.out.bel⟩
      · simp at hs
        clear hno
        go_wp2
        go_roundw
        case rel => exact ⟨k + 1, by omega, by go_num, hs, HK2.out⟩
        case measure => simp [intOf]; omega
    · obtain rfl : k = n := by omega
      have HL := hidW hall
      clear hall
      go_wp2
      go_ret
      rw [HL.out]
      exact ⟨rfl, HK.out.bel⟩
theorem sameP_any (c : Ctx) (t : Tra) (w : World) {S : Nat → Prop} {iv : Value} {M : Mo} (hm : MemP w S iv M) (hf : Fz t) (ht : TS w) (hc : c.Ok) :
    Calls Tryd.prog 27 #[iv, .agg #[.bool c.on, .bool c.tre, .bool c.afe, .int .i64 c.n, .bool c.pd0, .bool c.pd1, .int .u64 c.b0, .int .u64 c.b1, .int .u32 c.dacr, .int .u32 c.prrr, .int .u32 c.nmrr, .int .i64 c.asid], .agg #[.int .i64 t.size, .int .u32 t.va, .int .u64 t.pa, .int .i64 t.dom, .int .i64 t.ap, .int .u32 t.bits, .bool t.ng, .bool t.xn]] w fun e w' => e = .returned (.bool (smF M c t)) ∧ Below w.heap.size w w' := by
  unfold smF
  cases hon : c.on
  · have h := sameP_no c t w iv (.inl hon) hf ht
    rw [hon] at h
    exact h
  · cases hri : riF t
    · have h := sameP_no c t w iv (.inr hri) hf ht
      rw [hon] at h
      exact h
    · have h := sameP_yes c t w hm hon hri hf ht hc
      rw [hon] at h
      exact h
end Go.Proofs.YtmodcbdgnmjkoaaDoor

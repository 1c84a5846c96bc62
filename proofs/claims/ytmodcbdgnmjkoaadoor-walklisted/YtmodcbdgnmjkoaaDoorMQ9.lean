import Derived.Test.YtmodcbdgnmjkoaaDoorWg
import Derived.Test.YtmodcbdgnmjkoaaDoorMS
import Derived.Test.YtmodcbdgnmjkoaaDoorRi
import Derived.Test.YtmodcbdgnmjkoaaDoorMQ7
import Derived.Test.YtmodcbdgnmjkoaaDoorMQ0
import Derived.Test.YtmodcbdgnmjkoaaDoorWi
import Derived.Test.YtmodcbdgnmjkoaaDoorEb
import Derived.Test.YtmodcbdgnmjkoaaDoorMG
import Derived.Test.YtmodcbdgnmjkoaaDoorRows
import Derived.ChangeSame
import Derived.WalkKit
import Derived.ProofKit
import Derived.OpenShut
import Derived.Lib.LaidTab
import Derived.Lib.SmallJoins
import Derived.Deep.DeepHandedRow
namespace Go.Proofs.YtmodcbdgnmjkoaaDoor
open Go.RowKit
open Mm (Turn gr PM valV errV Byts)
set_option linter.unusedVariables false
set_option linter.unusedSimpArgs false
/-- The tables that Same reads. -/
structure TS (w : World) : Prop where
  r : TR w
  z : TZ w
theorem TZ.below {w w' : World} (h : TZ w) (hb : Below w.heap.size w w') : TZ w' := ⟨h.base.below hb, h.kind.below hb, h.rep.below hb⟩
theorem TS.below {w w' : World} (h : TS w) (hb : Below w.heap.size w w') : TS w' := ⟨h.r.below hb, h.z.below hb⟩
theorem TS.tw {w : World} (h : TS w) : TW w := ⟨h.r.toTT⟩
/-- How far the descriptors of a block stand apart. -/
def stp (s : Int) : Int := if s = 1 ∨ s = 2 then 4096 else 1048576
def okAt (M : Mo) (c : Ctx) (t : Tra) (i : Nat) : Bool := (wk M c (t.va + i * stp t.size)).1.same t
def allOk (M : Mo) (c : Ctx) (t : Tra) (n : Nat) : Bool := (List.range n).all (okAt M c t)
def smF (M : Mo) (c : Ctx) (t : Tra) : Bool := c.on && (riF t && allOk M c t (reN t.size).toNat)
theorem allOk_step (M : Mo) (c : Ctx) (t : Tra) (n : Nat) : allOk M c t (n + 1) = (allOk M c t n && okAt M c t n) := by
  unfold allOk
  rw [List.range_succ, List.all_append]
  simp
theorem allOk_no {M : Mo} {c : Ctx} {t : Tra} {k n : Nat} (hk : k < n) (h : okAt M c t k = false) : allOk M c t n = false := by
  unfold allOk
  rw [List.all_eq_false]
  exact ⟨k, List.mem_range.2 hk, by rw [h]; simp⟩
/-- What a right translation's numbers are. -/
theorem ri_size {t : Tra} (h : riF t = true) : t.size = 1 ∨ t.size = 2 ∨ t.size = 3 ∨ t.size = 4 := by
  unfold riF at h
  simp at h
  omega
structure Fz (t : Tra) : Prop where
  va : 0 ≤ t.va ∧ t.va < 4294967296
  pa : 0 ≤ t.pa ∧ t.pa < 18446744073709551616
  bt : 0 ≤ t.bits ∧ t.bits < 4294967296
theorem ri_rr {t : Tra} (hf : Fz t) (h : riF t = true) : RR t := (ri_iff t ⟨hf.pa, hf.bt⟩ (by have := ri_size h; omega)).1 h
theorem va_rng {t : Tra} (hf : Fz t) (h : riF t = true) {i : Nat} (hi : i < (reN t.size).toNat) : 0 ≤ t.va + i * stp t.size ∧ t.va + i * stp t.size < 4294967296 ∧ (i : Int) * stp t.size < 4294967296 := by
  have hr := (ri_rr hf h).1
  have hv := hf.va
  unfold stp reN byN at *
  rcases ri_size h with h1 | h1 | h1 | h1 <;> simp [h1] at hr hi ⊢ <;> omega
theorem reN_pos {t : Tra} (h : riF t = true) : 1 ≤ reN t.size ∧ reN t.size ≤ 16 ∧ byN t.size / reN t.size = stp t.size ∧ byN t.size = reN t.size * stp t.size ∧ 0 < stp t.size ∧ byN t.size < 4294967296 ∧ 0 ≤ byN t.size := by
  rcases ri_size h with h1 | h1 | h1 | h1 <;> simp [h1, reN, byN, stp]
set_option maxRecDepth 100000 in
set_option maxHeartbeats 4000000 in
theorem sameP_no (c : Ctx) (t : Tra) (w : World) (iv : Value) (h : c.on = false ∨ riF t = false) (hf : Fz t) (ht : TS w) :
    Calls Tryd.prog 27 #[iv, .agg #[.bool c.on, .bool c.tre, .bool c.afe, .int .i64 c.n, .bool c.pd0, .bool c.pd1, .int .u64 c.b0, .int .u64 c.b1, .int .u32 c.dacr, .int .u32 c.prrr, .int .u32 c.nmrr, .int .i64 c.asid], .agg #[.int .i64 t.size, .int .u32 t.va, .int .u64 t.pa, .int .i64 t.dom, .int .i64 t.ap, .int .u32 t.bits, .bool t.ng, .bool t.xn]] w fun e w' => e = .returned (.bool false) ∧ Below w.heap.size w w' := by
  have HB := hidW (Below.step (below_new w (.cells #[.bool c.on, .bool c.tre, .bool c.afe, .int .i64 c.n, .bool c.pd0, .bool c.pd1, .int .u64 c.b0, .int .u64 c.b1, .int .u32 c.dacr, .int .u32 c.prrr, .int .u32 c.nmrr, .int .i64 c.asid] 26)) (below_new _ (.cells #[.int .i64 t.size, .int .u32 t.va, .int .u64 t.pa, .int .i64 t.dom, .int .i64 t.ap, .int .u32 t.bits, .bool t.ng, .bool t.xn] 35)))
  cases hon : c.on
  · clear h
    rw [hon] at HB
    go_enter Tryd.func27, Tryd.ntmps27
    go_wp2
    go_ret
    exact ⟨rfl, HB.out⟩
  · have hr : riF t = false := by rcases h with h | h; exact absurd h (by rw [hon]; simp); exact h
    have HR := hidW (fun ww hw => right_any t ww hw hf.va ⟨hf.pa, hf.bt⟩)
    rw [hr] at HR
    rw [hon] at HB
    have HT := hidW ht
    clear h ht
    go_enter Tryd.func27, Tryd.ntmps27
    go_wp2_with fail
    go_at_call 16
    refine (HR.out _ (HT.out.below HB.out).r).mono ?_
    rintro e w1 ⟨rfl, hb⟩
    have HE := hidW (Below.step HB.out hb)
    clear hb HB HR HT
    go_wp2
    go_ret
    exact ⟨rfl, HE.out⟩
/-- Both boxes. -/
structure KS (w wr : World) (c : Ctx) (t : Tra) (x y : Nat) : Prop where
  bel : Below w.heap.size w wr
  C : Bl wr x 26 [.bool c.on, .bool c.tre, .bool c.afe, .int .i64 c.n, .bool c.pd0, .bool c.pd1, .int .u64 c.b0, .int .u64 c.b1, .int .u32 c.dacr, .int .u32 c.prrr, .int .u32 c.nmrr, .int .i64 c.asid]
  T : Bl wr y 35 [.int .i64 t.size, .int .u32 t.va, .int .u64 t.pa, .int .i64 t.dom, .int .i64 t.ap, .int .u32 t.bits, .bool t.ng, .bool t.xn]
theorem KS.below {w wr wn : World} {c : Ctx} {t : Tra} {x y : Nat} (h : KS w wr c t x y) (hb : Below wr.heap.size wr wn) : KS w wn c t x y := ⟨Below.step h.bel hb, h.C.below hb, h.T.below hb⟩
theorem KS.new (w : World) (c : Ctx) (t : Tra) : KS w ((w.alloc (.cells #[.bool c.on, .bool c.tre, .bool c.afe, .int .i64 c.n, .bool c.pd0, .bool c.pd1, .int .u64 c.b0, .int .u64 c.b1, .int .u32 c.dacr, .int .u32 c.prrr, .int .u32 c.nmrr, .int .i64 c.asid] 26)).alloc (.cells #[.int .i64 t.size, .int .u32 t.va, .int .u64 t.pa, .int .i64 t.dom, .int .i64 t.ap, .int .u32 t.bits, .bool t.ng, .bool t.xn] 35)) c t w.heap.size (w.heap.size + 1) := by
  have h := Bl.new (w.alloc (.cells #[.bool c.on, .bool c.tre, .bool c.afe, .int .i64 c.n, .bool c.pd0, .bool c.pd1, .int .u64 c.b0, .int .u64 c.b1, .int .u32 c.dacr, .int .u32 c.prrr, .int .u32 c.nmrr, .int .i64 c.asid] 26)) 35 [.int .i64 t.size, .int .u32 t.va, .int .u64 t.pa, .int .i64 t.dom, .int .i64 t.ap, .int .u32 t.bits, .bool t.ng, .bool t.xn]
  rw [show (w.alloc (.cells #[.bool c.on, .bool c.tre, .bool c.afe, .int .i64 c.n, .bool c.pd0, .bool c.pd1, .int .u64 c.b0, .int .u64 c.b1, .int .u32 c.dacr, .int .u32 c.prrr, .int .u32 c.nmrr, .int .i64 c.asid] 26)).heap.size = w.heap.size + 1 by simp] at h
  exact ⟨Below.step (below_new _ _) (below_new _ _), (Bl.new w 26 [.bool c.on, .bool c.tre, .bool c.afe, .int .i64 c.n, .bool c.pd0, .bool c.pd1, .int .u64 c.b0, .int .u64 c.b1, .int .u32 c.dacr, .int .u32 c.prrr, .int .u32 c.nmrr, .int .i64 c.asid]).below (below_new _ _), h⟩
set_option maxRecDepth 100000 in
set_option maxHeartbeats 8000000 in
theorem sameP_yes (c : Ctx) (t : Tra) (w : World) {S : Nat → Prop} {iv : Value} {M : Mo} (hm : MemP w S iv M) (hon : c.on = true) (hri : riF t = true) (hf : Fz t) (ht : TS w) (hc : c.Ok) :
    Calls Tryd.prog 27 #[iv, .agg #[.bool c.on, .bool c.tre, .bool c.afe, .int .i64 c.n, .bool c.pd0, .bool c.pd1, .int .u64 c.b0, .int .u64 c.b1, .int .u32 c.dacr, .int .u32 c.prrr, .int .u32 c.nmrr, .int .i64 c.asid], .agg #[.int .i64 t.size, .int .u32 t.va, .int .u64 t.pa, .int .i64 t.dom, .int .i64 t.ap, .int .u32 t.bits, .bool t.ng, .bool t.xn]] w fun e w' => e = .returned (.bool (allOk M c t (reN t.size).toNat)) ∧ Below w.heap.size w w' := by
  have hp := reN_pos hri
  have hvr := hidW (fun i hi => va_rng hf hri (i := i) hi)
  have HR := hidW (fun ww hw => right_any t ww hw hf.va ⟨hf.pa, hf.bt⟩)
  rw [hri] at HR
  have HX := hidW (KS.new w c t)
  have HN := hidW (fun ww (hw : TZ ww) => repeats_any t.size ww hw)
  have HY := hidW (fun ww (hw : TB ww) => bytes_any t.size ww hw)
  have HT := hidW ht
  have HM := hidW (fun ww (hb : Below w.heap.size w ww) va hv => walk_pure c va ww (hm.below hb) ((ht.below hb).tw) hc hv)
  have HA := hidW (fun n => allOk_step M c t n)
  have HZ := hidW (fun k n (hk : k < n) h => allOk_no (M := M) (c := c) (t := t) hk h)
  rw [hon] at HX HM ⊢
  obtain ⟨n, hn⟩ : ∃ n : Nat, reN t.size = (n : Int) := ⟨(reN t.size).toNat, by omega⟩
  rw [hn] at HN hp hvr ⊢
  have w1 : IntKind.u32.wrap (n : Int) = (n : Int) := by rw [IntKind.wrap_u32]; omega
  have w2 : IntKind.u32.wrap (byN t.size) = byN t.size := by rw [IntKind.wrap_u32]; omega
  have td : (byN t.size).tdiv (n : Int) = stp t.size := by rw [Int.tdiv_eq_ediv_of_nonneg (by omega)]; exact hp.2.2.1
  have hz : ¬ (n : Int) = 0 := by omega
  have h16 : (n : Int) ≤ 16 := by omega
  have hst : 0 < stp t.size := by omega
  have hby0 : 0 ≤ byN t.size := by omega
  have hby1 : byN t.size < 4294967296 := by omega
  have hdv : byN t.size / (n : Int) = stp t.size := hp.2.2.1
  have w0 : IntKind.u32.wrap (stp t.size) = stp t.size := by rw [IntKind.wrap_u32]; have : stp t.size ≤ 1048576 := (by unfold stp; split <;> omega); omega
  have hzb : ((n : Int) == 0) = false := by simp; omega
  rw [Int.toNat_natCast] at hvr ⊢
  clear hp hn
  go_enter Tryd.func27, Tryd.ntmps27
  go_wp2_with fail
  go_at_call 16
  refine (HR.out _ (HT.out.below HX.out.bel).r).mono ?_
  rintro e wa ⟨rfl, hb⟩
  have HX1 := hidW (HX.out.below hb)
  clear hb HX HR
  generalize w.heap.size + 1 = y at *
  have c1 := HX1.out.T.cell
  go_wp2_with fail
  go_at_call 46
  refine (HN.out _ (HT.out.below HX1.out.bel).z).mono ?_
  rintro e wb ⟨rfl, rfl⟩
  go_wp2_with fail
  go_at_call 15
  refine (HY.out _ ⟨(HT.out.below HX1.out.bel).z.base, (HT.out.below HX1.out.bel).z.kind⟩).mono ?_
  rintro e wb ⟨rfl, rfl⟩
  clear c1 HN HY
  go_wp2
  go_loopw [31] (fun i wr => ∃ k : Nat, k ≤ n ∧ i = .int .u32 k ∧ allOk M c t k = true ∧ Hid (KS w wr c t w.heap.size y)) (fun i _ => n - (intOf i).toNat)
  case atStart => exact ⟨0, Nat.zero_le _, rfl, rfl, HX1.out⟩
  case round =>
    obtain ⟨k, hk, rfl, hall, HK⟩ := hrel
    clear HX1
    by_cases hlt : k < n
    · have hkz : (k : Int) < (n : Int) := by omega
      have hv := hvr.out k hlt
      have w3 : IntKind.u32.wrap ((k : Int) * stp t.size) = (k : Int) * stp t.size := by rw [IntKind.wrap_u32]; have := Int.mul_nonneg (Int.natCast_nonneg k) (Int.le_of_lt hst); omega
      have w4 : IntKind.u32.wrap (t.va + (k : Int) * stp t.size) = t.va + (k : Int) * stp t.size := by rw [IntKind.wrap_u32]; omega
      have w5 : IntKind.u32.wrap ((k : Int) + 1) = (k : Int) + 1 := by rw [IntKind.wrap_u32]; omega
      have HC := hidW (HM.out wr HK.out.bel (t.va + (k : Int) * stp t.size) ⟨hv.1, hv.2.1⟩)
      have ho : okAt M c t k = (wk M c (t.va + (k : Int) * stp t.size)).1.same t := rfl
      have hs := HA.out k
      have hno := hidW (HZ.out k n hlt)
      have c1 := HK.out.T.cell
      have c2 := HK.out.C.cell
      rw [hon] at c2
      have eq := eqT (wk M c (t.va + (k : Int) * stp t.size)).1 t
      rw [ho] at hs hno
      generalize (wk M c (t.va + (k : Int) * stp t.size)).1 = U at *
      generalize (wk M c (t.va + (k : Int) * stp t.size)).2 = F at *
      generalize hsb : U.same t = sb at *
      rw [hall] at hs
      clear ho hvr hsb
      go_wp2_with fail
      go_at_call 11
      refine HC.out.mono ?_
      rintro e wb ⟨rfl, hb⟩
      have HK2 := hidW ((HK.out.below hb).below (Below.step (below_new wb (.cells #[.int .i64 U.size, .int .u32 U.va, .int .u64 U.pa, .int .i64 U.dom, .int .i64 U.ap, .int .u32 U.bits, .bool U.ng, .bool U.xn] 35)) (below_new _ (.cells #[.int .i64 F.k, .int .i64 F.l, .int .i64 F.d] 37))))
      have cT := HK2.out.T.cell
      have hyl : y < wb.heap.size := Nat.lt_of_lt_of_le HK.out.T.lt hb.size
      have n1 : ¬ y = wb.heap.size := by omega
      have n2 : ¬ y = wb.heap.size + 1 := by omega
      clear hb c1 c2 HC HK hyl
      cases sb
      · have hf := hidW (hno.out rfl)
        clear hs hno
        go_wp2
        go_ret
        rw [hf.out]
        exact ⟨rfl, HK2.out.bel⟩
      · simp at hs
        clear hno
        go_wp2
        go_roundw
        case rel => exact ⟨k + 1, by omega, by go_num, hs, HK2.out⟩
        case measure => simp [intOf]; omega
    · obtain rfl : k = n := by omega
      have HL := hidW hall
      clear hall
      go_wp2
      go_ret
      rw [HL.out]
      exact ⟨rfl, HK.out.bel⟩
theorem sameP_any (c : Ctx) (t : Tra) (w : World) {S : Nat → Prop} {iv : Value} {M : Mo} (hm : MemP w S iv M) (hf : Fz t) (ht : TS w) (hc : c.Ok) :
    Calls Tryd.prog 27 #[iv, .agg #[.bool c.on, .bool c.tre, .bool c.afe, .int .i64 c.n, .bool c.pd0, .bool c.pd1, .int .u64 c.b0, .int .u64 c.b1, .int .u32 c.dacr, .int .u32 c.prrr, .int .u32 c.nmrr, .int .i64 c.asid], .agg #[.int .i64 t.size, .int .u32 t.va, .int .u64 t.pa, .int .i64 t.dom, .int .i64 t.ap, .int .u32 t.bits, .bool t.ng, .bool t.xn]] w fun e w' => e = .returned (.bool (smF M c t)) ∧ Below w.heap.size w w' := by
  unfold smF
  cases hon : c.on
  · have h := sameP_no c t w iv (.inl hon) hf ht
    rw [hon] at h
    exact h
  · cases hri : riF t
    · have h := sameP_no c t w iv (.inr hri) hf ht
      rw [hon] at h
      exact h
    · have h := sameP_yes c t w hm hon hri hf ht hc
      rw [hon] at h
      exact h
end Go.Proofs.YtmodcbdgnmjkoaaDoor
namespace Go.Proofs.YtmodcbdgnmjkoaaDoor
open Go.RowKit
set_option linter.unusedVariables false
set_option linter.unusedSimpArgs false
/-- All addresses of a MiB have that walk, where its first level says it. -/
theorem wk_mib {M : Mo} {c : Ctx} {va vb : Int} {U : Tra} {F : Fa} (hM : M.Ok) (hc : c.Ok) (hv : 0 ≤ va ∧ va < 4294967296) (hw : wk M c va = (U, F)) (hk : F.k = 0) (h3 : 3 ≤ U.size) (h : va / 1048576 = vb / 1048576) : wk M c vb = (U, F) := by
  obtain ⟨e1, e2, e3⟩ := w1_sec (M := M) (c := c) (va := va) (vb := vb) h
  obtain ⟨hF, hf, hh⟩ := found hM hc hv hw hk
  rcases hh with ⟨_, hU, _⟩ | ⟨hon, hr, he, hu, hs⟩ | ⟨_, s, _, _, _, _, hs⟩
  · rw [hU] at h3; have h3 : (3 : Int) ≤ 1 := h3; omega
  · unfold wk at hw ⊢
    rw [if_pos hon] at hw ⊢
    rw [← e1]
    split at hw
    · rename_i h1
      rw [if_pos h1]
      split at hw
      · rename_i h2
        exfalso
        have : rdL M c va = r1 c va ++ [sA (w1 M c va).1 va] := by unfold rdL; rw [if_pos hon, if_pos ⟨h1, h2⟩]
        rw [hr] at this
        have hl := congrArg List.length this
        obtain ⟨hO, _⟩ := w1_kind h1
        simp [r1, hO] at hl
      · rename_i h2
        rw [if_neg h2, ← hw, tr_mib (w1_not1 h1 h2) h]
    · rename_i h1
      exfalso
      rw [← (Prod.mk.inj hw).2] at hk
      exact h1 hk
  · omega
theorem riF_ne {x : Tra} (h : riF x = true) : x ≠ tZ := by
  rintro rfl
  have := ri_size h
  simp [tZ] at this
theorem same_found {M : Mo} {c : Ctx} {va : Int} {x : Tra} (hM : M.Ok) (hc : c.Ok) (hv : 0 ≤ va ∧ va < 4294967296) (hr : riF x = true) (h : ((wk M c va).1.same x) = true) : wk M c va = (x, fZ) := by
  have h := (Tra.same_iff _ _).1 h
  obtain ⟨U, F, hq⟩ : ∃ U F, wk M c va = (U, F) := ⟨_, _, rfl⟩
  rw [hq] at h ⊢
  have h : U = x := h
  subst h
  rcases Classical.em (F.k = 0) with hk | hk
  · rw [(found hM hc hv hq hk).1]
  · exact absurd (missed hq hk).1 (riF_ne hr)
/-- A block that is found, of a page or of a section: found everywhere. -/
theorem sm_one {M : Mo} {c : Ctx} {va : Int} {x : Tra} (hM : M.Ok) (hc : c.Ok) (hv : 0 ≤ va ∧ va < 4294967296) (hon : c.on = true) (hw : wk M c va = (x, fZ)) (hs : x.size = 1 ∨ x.size = 3) : smF M c x = true := by
  have hf := (found hM hc hv hw rfl).2.1
  have hx := hf.va
  unfold smF
  rw [hon, hf.right]
  have hn : (reN x.size).toNat = 1 := by rcases hs with h | h <;> rw [h] <;> rfl
  rw [hn]
  have h0 : okAt M c x 0 = true := by
    unfold okAt
    have e : wk M c (x.va + ((0 : Nat) : Int) * stp x.size) = (x, fZ) := by
      rw [show x.va + ((0 : Nat) : Int) * stp x.size = x.va by simp]
      rcases hs with h | h
      · rw [h] at hx
        have hx : x.va = va / 4096 * 4096 := hx
        rw [wk_page (va := x.va) (vb := va) (by omega)]
        exact hw
      · rw [h] at hx
        have hx : x.va = va / 1048576 * 1048576 := hx
        exact wk_mib hM hc hv hw rfl (by omega) (by omega)
    rw [e]
    exact Tra.same_self _
  simp [allOk, h0, List.range_succ]
/-- A block that is the same everywhere is found at each of its addresses. -/
theorem sm_at {M : Mo} {c : Ctx} {x : Tra} {k : Int} (hM : M.Ok) (hc : c.Ok) (hf : Fz x) (h : smF M c x = true) (hk : 0 ≤ k ∧ k < byN x.size) : wk M c (x.va + k) = (x, fZ) := by
  unfold smF at h
  simp only [Bool.and_eq_true] at h
  obtain ⟨hon, hri, hall⟩ := h
  have hr := (ri_rr hf hri).1
  have hv := hf.va
  have ho : ∀ i, i < (reN x.size).toNat → wk M c (x.va + (i : Int) * stp x.size) = (x, fZ) := by
    intro i hi
    have h1 := List.all_eq_true.1 hall i (List.mem_range.2 hi)
    have h2 := va_rng hf hri hi
    exact same_found hM hc ⟨h2.1, h2.2.1⟩ hri h1
  rcases ri_size hri with hs | hs | hs | hs
  · rw [hs] at hk hr
    have hk : 0 ≤ k ∧ k < 4096 := hk
    have hr : x.va % 4096 = 0 := hr
    have h0 := ho 0 (by rw [hs]; decide)
    rw [show x.va + ((0 : Nat) : Int) * stp x.size = x.va by simp] at h0
    rw [wk_page (va := x.va + k) (vb := x.va) (by omega)]
    exact h0
  · rw [hs] at hk hr
    have hk : 0 ≤ k ∧ k < 65536 := hk
    have hr : x.va % 65536 = 0 := hr
    have h0 := ho (k / 4096).toNat (by rw [hs]; show (k / 4096).toNat < 16; omega)
    rw [hs] at h0
    have e : x.va + (((k / 4096).toNat : Nat) : Int) * stp 2 = x.va + (k / 4096) * 4096 := by
      rw [show stp 2 = 4096 from rfl, Int.toNat_of_nonneg (by omega)]
    rw [e] at h0
    rw [wk_page (va := x.va + k) (vb := x.va + k / 4096 * 4096) (by omega)]
    exact h0
  · rw [hs] at hk hr
    have hk : 0 ≤ k ∧ k < 1048576 := hk
    have hr : x.va % 1048576 = 0 := hr
    have h0 := ho 0 (by rw [hs]; decide)
    rw [show x.va + ((0 : Nat) : Int) * stp x.size = x.va by simp] at h0
    exact wk_mib hM hc hv h0 rfl (by omega) (by omega)
  · rw [hs] at hk hr
    have hk : 0 ≤ k ∧ k < 16777216 := hk
    have hr : x.va % 16777216 = 0 := hr
    have h0 := ho (k / 1048576).toNat (by rw [hs]; show (k / 1048576).toNat < 16; omega)
    rw [hs] at h0
    have e : x.va + (((k / 1048576).toNat : Nat) : Int) * stp 4 = x.va + (k / 1048576) * 1048576 := by
      rw [show stp 4 = 1048576 from rfl, Int.toNat_of_nonneg (by omega)]
    rw [e] at h0
    exact wk_mib hM hc (by omega) h0 rfl (by omega) (by omega)
end Go.Proofs.YtmodcbdgnmjkoaaDoor
namespace Go.Proofs.YtmodcbdgnmjkoaaDoor
open Go.RowKit
open Mm (Turn gr PM RM valV errV Byts setV)
set_option linter.unusedVariables false
set_option linter.unusedSimpArgs false
/-- One memory of the program's. -/
structure One (W wr : World) (p N : Nat) (m : Nat → Int) : Prop where
  mem : ∃ S1, PM wr S1 p N m ∧ (∀ b, S1 b → W.heap.size ≤ b)
  bel : Below W.heap.size W wr
theorem One.below {W wr wn : World} {p N : Nat} {m : Nat → Int} (h : One W wr p N m) (hb : Below wr.heap.size wr wn) : One W wn p N m := by
  obtain ⟨⟨S1, h1, h4⟩, h6⟩ := h
  exact ⟨⟨S1, h1.keep (S' := fun _ => False) (Turn.below hb) (fun _ _ h => h), h4⟩, Below.step h6 hb⟩
theorem One.new {W w1 : World} {p N : Nat} (h1 : PM w1 (gr (fun _ => False) W w1) p N (fun _ => 0)) (T1 : Turn (fun _ => False) W w1) : One W w1 p N (fun _ => 0) := by
  refine ⟨⟨_, h1, ?_⟩, T1.to (fun _ h => h.elim) (Nat.le_refl _)⟩
  rintro b (h | ⟨h, _⟩)
  · exact h.elim
  · exact h
theorem One.put {W wr : World} {p N : Nat} {m : Nat → Int} (h : One W wr p N m) (pa : Nat) (v : Int) (hp : pa < 18446744073709551616) (hv0 : 0 ≤ v) (hv1 : v < 4294967296) :
    Calls Tryd.prog 13 #[.pointer (some ⟨p, 0, none⟩), .int .u64 pa, .int .u32 v] wr fun e w1 => e = .returned (.int .i64 (errV N pa 4)) ∧ One W w1 p N (setV N m pa 4 v) ∧ Turn (fun b => W.heap.size ≤ b ∧ b < wr.heap.size) wr w1 := by
  obtain ⟨⟨S1, h1, h4⟩, h6⟩ := h
  refine (Mm.setWord_any wr S1 p N m pa v h1 hp hv0 hv1).mono ?_
  rintro e w1 ⟨rfl, g1, T1⟩
  refine ⟨rfl, ⟨⟨_, g1, ?_⟩, h6.trans (T1.to h4 h6.size)⟩, T1.mono (fun x hx hS => ⟨h4 x hS, hx⟩)⟩
  rintro b (hb | ⟨hb, _⟩)
  · exact h4 b hb
  · have := h6.size; omega
set_option maxRecDepth 100000 in
theorem made_bad (W : World) (f : Int) (s : Value) (h : f < 1 ∨ 65536 < f) :
    Calls Tryd.prog 10 #[.int .i64 f, s] W fun e W' => e = .returned (.pointer none) ∧ W = W' := by
  have HP := hidW (Mm.pnew_bad W f h)
  clear h
  go_enter Tryd.func10, Tryd.ntmps10
  go_wp2_with (first
    | (go_at_call 29; refine HP.out.mono ?_; rintro e w1 ⟨rfl, rfl⟩))
  go_ret
  exact ⟨rfl, rfl⟩
set_option maxRecDepth 100000 in
set_option maxHeartbeats 8000000 in
theorem made_ok (W : World) (N : Nat) (h1 : 1 ≤ N) (h2 : N ≤ 65536) (a : Option Addr) (cap : Nat) (ps : List Pt) (hp : PutsAt W a ps) (hl : ps.length ≤ 9223372036854775807) :
    Calls Tryd.prog 10 #[.int .i64 N, .slice a ps.length cap] W fun e W' => ∃ p, e = .returned (.pointer (some ⟨p, 0, none⟩)) ∧ One W W' p N (pm N ps ps.length) := by
  have HS := hidW hp
  clear hp
  generalize hn : ps.length = n at *
  have HN := hidW hn
  clear hn
  go_enter Tryd.func10, Tryd.ntmps10
  go_wp2_with fail
  go_at_call 29
  refine (Mm.pnew_any W N h1 h2).mono ?_
  rintro e w1 ⟨rfl, g1, T1⟩
  have HT := hidW (One.new g1 T1)
  clear g1 T1
  generalize W.heap.size + 1 = p at *
  go_wp2
  go_loopw [7] (fun i wr => ∃ k : Nat, k ≤ n ∧ i = .int .i64 k ∧ Hid (One W wr p N (pm N ps k))) (fun i _ => n - (intOf i).toNat)
  case atStart => exact ⟨0, Nat.zero_le _, rfl, HT.out⟩
  case round =>
    obtain ⟨k, hk, rfl, HK⟩ := hrel
    clear HT
    by_cases hlt : k < n
    · obtain ⟨q, hq⟩ : ∃ q, ps[k]? = some q := ⟨_, List.getElem?_eq_getElem (by rw [HN.out]; omega)⟩
      obtain ⟨b, off, rfl, hb, e0, e1⟩ := HS.out.lies k q hq
      have hok := HS.out.oks q (List.mem_of_getElem? hq)
      have hstep := hidW (pm_step (N := N) hq)
      have hkz : (k : Int) < (n : Int) := by omega
      have hpa : ((q.pa.toNat : Nat) : Int) = q.pa := Int.toNat_of_nonneg hok.1.1
      have HD := hidW (HK.out.below (below_drew (Below.refl _ wr)))
      have HC := hidW (HD.out.put q.pa.toNat q.w (by omega) hok.2.1 hok.2.2)
      rw [hpa] at HC
      have HE := hidW (And.intro e0 e1)
      have HB1 := hidW HD.out.bel
      clear hq e0 e1 HK
      go_wp2
      go_region_held3 (fun w' => w'.cell? ⟨b, off + k * 2, none⟩ = some (.int .u64 q.pa) ∧ w'.cell? ⟨b, off + k * 2 + 1, none⟩ = some (.int .u32 q.w)) (exact ⟨(HB1.out.cell hb).trans HE.out.1, (HB1.out.cell hb).trans HE.out.2⟩) (first
        | (go_at_call 13; refine HC.out.mono ?_; rintro e wa ⟨rfl, ht2, _⟩; have HB1 := hidW ht2.bel; have HT2 := hidW ht2; clear ht2))
      have HT3 : Hid (One W wa p N (pm N ps (k + 1))) := by rw [hstep.out]; exact HT2.out
      clear HT2 HC HD hstep HB1
      go_wp2
      go_roundw
      case rel => exact ⟨k + 1, by omega, by go_num, HT3.out⟩
      case measure => simp [intOf]; omega
    · obtain rfl : k = n := by omega
      go_wp2
      go_ret
      exact ⟨p, rfl, HK.out⟩
end Go.Proofs.YtmodcbdgnmjkoaaDoor
namespace Go.Proofs.YtmodcbdgnmjkoaaDoor
open Go.RowKit
open Mm (Turn gr PM valV errV Byts RowAt)
set_option linter.unusedVariables false
set_option linter.unusedSimpArgs false
/-- A list of addresses that lies in new memory. -/
def Usl (lo : Nat) (w : World) (v : Value) (l : List Int) : Prop := ∃ a cap, v = .slice a l.length cap ∧ ∀ i x, l[i]? = some x → ∃ g o, a = some ⟨g, o, none⟩ ∧ lo ≤ g ∧ w.cell? ⟨g, o + i, none⟩ = some (.int .u64 x)
theorem Usl.below {lo : Nat} {w w' : World} {v : Value} {l : List Int} (h : Usl lo w v l) (hb : Below w.heap.size w w') : Usl lo w' v l := by
  obtain ⟨a, cap, rfl, h⟩ := h
  refine ⟨a, cap, rfl, fun i x hx => ?_⟩
  obtain ⟨g, o, rfl, hg, hc⟩ := h i x hx
  exact ⟨g, o, rfl, hg, (hb.cell (cell_lt hc)).trans hc⟩
theorem Usl.turn {lo : Nat} {w w' : World} {v : Value} {l : List Int} {S : Nat → Prop} (h : Usl lo w v l) (T : Turn S w w') (hS : ∀ b, S b → b < lo) : Usl lo w' v l := by
  obtain ⟨a, cap, rfl, h⟩ := h
  refine ⟨a, cap, rfl, fun i x hx => ?_⟩
  obtain ⟨g, o, rfl, hg, hc⟩ := h i x hx
  exact ⟨g, o, rfl, hg, (T.cell (cell_lt hc) (fun hs => by have := hS g hs; omega) _).trans hc⟩
theorem Usl.nil (lo : Nat) (w : World) : Usl lo w (.slice none 0 0) [] := ⟨none, 0, rfl, fun i x hx => by simp at hx⟩
theorem Usl.own {lo lo' : Nat} {w : World} {v : Value} {l : List Int} (h : w.ownsRow lo' 23 1 v l.length (encU l)) (hl : lo ≤ lo') : Usl lo w v l := by
  have ho := h
  rcases Mm.row_of_own h with ⟨rfl, h1, h2⟩ | ⟨g, cap, cur, rfl, a, b, c, d, e, f⟩
  · rw [List.eq_nil_of_length_eq_zero h1]
    exact Usl.nil lo w
  · refine ⟨_, _, rfl, fun i x hx => ⟨g, 0, rfl, by omega, ?_⟩⟩
    have hlt : i < l.length := (List.getElem?_eq_some_iff.1 hx).1
    rw [Nat.zero_add]
    have := World.ownsRow.cellAt ho i (by omega)
    rw [this, encU, List.getElem?_map, hx]
    rfl
set_option maxRecDepth 100000 in
set_option maxHeartbeats 2000000 in
theorem reads_own (c : Ctx) (va : Int) (w : World) {S : Nat → Prop} {iv : Value} {M : Mo} (hm : MemP w S iv M) (ht : TW w) (hc : c.Ok) (hv : 0 ≤ va ∧ va < 4294967296) :
    Calls Tryd.prog 12 #[iv, .agg #[.bool c.on, .bool c.tre, .bool c.afe, .int .i64 c.n, .bool c.pd0, .bool c.pd1, .int .u64 c.b0, .int .u64 c.b1, .int .u32 c.dacr, .int .u32 c.prrr, .int .u32 c.nmrr, .int .i64 c.asid], .int .u32 va] w fun e w' => ∃ v, e = .returned v ∧ Usl w.heap.size w' v (rdL M c va) ∧ Below w.heap.size w w' := by
  have b0 : Below w.heap.size w (w.alloc (.cells #[.bool c.on, .bool c.tre, .bool c.afe, .int .i64 c.n, .bool c.pd0, .bool c.pd1, .int .u64 c.b0, .int .u64 c.b1, .int .u32 c.dacr, .int .u32 c.prrr, .int .u32 c.nmrr, .int .i64 c.asid] 26)) := below_new w _
  have b1 : Below w.heap.size w ((w.alloc (.cells #[.bool c.on, .bool c.tre, .bool c.afe, .int .i64 c.n, .bool c.pd0, .bool c.pd1, .int .u64 c.b0, .int .u64 c.b1, .int .u32 c.dacr, .int .u32 c.prrr, .int .u32 c.nmrr, .int .i64 c.asid] 26)).alloc (.cells #[iv, .slice none 0 0] 85)) := Below.step b0 (below_new _ _)
  have hsz : (w.alloc (.cells #[.bool c.on, .bool c.tre, .bool c.afe, .int .i64 c.n, .bool c.pd0, .bool c.pd1, .int .u64 c.b0, .int .u64 c.b1, .int .u32 c.dacr, .int .u32 c.prrr, .int .u32 c.nmrr, .int .i64 c.asid] 26)).heap.size = w.heap.size + 1 := by simp
  have hN := Bl.new (w.alloc (.cells #[.bool c.on, .bool c.tre, .bool c.afe, .int .i64 c.n, .bool c.pd0, .bool c.pd1, .int .u64 c.b0, .int .u64 c.b1, .int .u32 c.dacr, .int .u32 c.prrr, .int .u32 c.nmrr, .int .i64 c.asid] 26)) 85 [iv, .slice none 0 0]
  rw [hsz] at hN
  have hsz2 : ((w.alloc (.cells #[.bool c.on, .bool c.tre, .bool c.afe, .int .i64 c.n, .bool c.pd0, .bool c.pd1, .int .u64 c.b0, .int .u64 c.b1, .int .u32 c.dacr, .int .u32 c.prrr, .int .u32 c.nmrr, .int .i64 c.asid] 26)).alloc (.cells #[iv, .slice none 0 0] 85)).heap.size = w.heap.size + 1 + 1 := by simp
  have hs : Tl S iv M w.heap.size (w.heap.size + 1) [] (fun b => b < w.heap.size ∨ b = w.heap.size + 1) ((w.alloc (.cells #[.bool c.on, .bool c.tre, .bool c.afe, .int .i64 c.n, .bool c.pd0, .bool c.pd1, .int .u64 c.b0, .int .u64 c.b1, .int .u32 c.dacr, .int .u32 c.prrr, .int .u32 c.nmrr, .int .i64 c.asid] 26)).alloc (.cells #[iv, .slice none 0 0] 85)) :=
    ⟨hm.below b1, fun b hb => ⟨.inl (hm.low b hb), hm.low b hb⟩, fun b hb => ⟨.inl (ht.low hb), ht.low hb⟩, fun b hb => by rw [hsz2]; omega, ht.below b1, by omega, .inr rfl, .slice none 0 0, hN, World.ownsRow_nil _ _ _ _, fun g hg => by cases hg⟩
  have HW := hidW (walk_any (asker_trail w.heap.size (w.heap.size + 1) hm.ok) c va [] _ _ hs (by simp) hc hv)
  have HB := hidW b1
  clear hs hN b0 b1
  have hiv : (∃ p : Nat, iv = .iface 30 (.pointer (some ⟨p, 0, none⟩))) ∨ iv = .nilIface := by
    rcases hm with ⟨p, _, _, h, _⟩ | h
    · exact .inl ⟨p, h⟩
    · exact .inr h.1
  clear hm
  rcases hiv with ⟨p, rfl⟩ | rfl
  all_goals
    go_enter Tryd.func12, Tryd.ntmps12
    go_wp2_with fail
    go_at_call 11
    refine HW.out.mono ?_
    rintro e wa ⟨rfl, hT, T⟩
    obtain ⟨v, h1, h2, h3⟩ := hT.row
    have HE := hidW (And.intro (Usl.own (lo := w.heap.size) h2 (by omega)) (HB.out.trans (T.to (B := w.heap.size) (fun x hx => hx.2) HB.out.size)))
    have c1 : wa.cell? ⟨w.heap.size + 1, 1, none⟩ = some v := h1.cell 1
    clear hT T h1 h2 h3 HW
    go_wp2
    go_ret
    exact ⟨_, rfl, by simpa using HE.out.1, HE.out.2⟩
end Go.Proofs.YtmodcbdgnmjkoaaDoor
namespace Go.Proofs.YtmodcbdgnmjkoaaDoor
open Go.RowKit
open Mm (Turn gr PM RM valV errV Byts setV)
set_option linter.unusedVariables false
set_option linter.unusedSimpArgs false
def alP : List Pt := [⟨16384, 20513⟩, ⟨16388, 1051662⟩, ⟨20484, 30782⟩]
def alC : Ctx := ⟨true, false, false, 2, false, false, 16384, 131072, 5, 0, 0, 0⟩
def alM : Mo := ramMo 16 (pm 16 alP 3)
theorem alC_ok : alC.Ok := ⟨by decide, by decide, by decide, by decide⟩
theorem al1 : (wk alM alC 4660).1.size = 1 ∧ (wk alM alC 4660).1.pa = 28672 ∧ (wk alM alC 4660).2.k = 0 := by decide +kernel
theorem al2 : (wk alM alC 1048576).1.size = 3 ∧ (wk alM alC 1048576).2.k = 0 := by decide +kernel
theorem al3 : (wk alM alC 8192).2.k = 5 ∧ (wk alM alC 8192).2.l = 0 ∧ (wk alM alC 8192).2.d = 1 := by decide +kernel
/-- The rows of the script in a block. -/
theorem alP_at (w : World) : PutsAt (w.alloc (.cells #[.int .u64 16384, .int .u32 20513, .int .u64 16388, .int .u32 1051662, .int .u64 20484, .int .u32 30782] 28)) (some ⟨w.heap.size, 0, none⟩) alP := by
  have h := Bl.new w 28 [.int .u64 16384, .int .u32 20513, .int .u64 16388, .int .u32 1051662, .int .u64 20484, .int .u32 30782]
  refine ⟨fun k p hp => ⟨w.heap.size, 0, rfl, h.lt, ?_, ?_⟩, fun p hp => ?_⟩
  · rw [Nat.zero_add]
    refine (h.cell (k * 2)).trans ?_
    match k, hp with
    | 0, hp => simp [alP] at hp; subst hp; rfl
    | 1, hp => simp [alP] at hp; subst hp; rfl
    | 2, hp => simp [alP] at hp; subst hp; rfl
  · rw [Nat.zero_add]
    refine (h.cell (k * 2 + 1)).trans ?_
    match k, hp with
    | 0, hp => simp [alP] at hp; subst hp; rfl
    | 1, hp => simp [alP] at hp; subst hp; rfl
    | 2, hp => simp [alP] at hp; subst hp; rfl
  · simp [alP] at hp
    rcases hp with rfl | rfl | rfl <;> decide
/-- A memory, a context's box, the tables. -/
structure AK (w wr : World) (c : Ctx) (x p N : Nat) (m : Nat → Int) : Prop where
  bel : Below w.heap.size w wr
  C : Bl wr x 26 [.bool c.on, .bool c.tre, .bool c.afe, .int .i64 c.n, .bool c.pd0, .bool c.pd1, .int .u64 c.b0, .int .u64 c.b1, .int .u32 c.dacr, .int .u32 c.prrr, .int .u32 c.nmrr, .int .i64 c.asid]
  mem : ∃ S1, PM wr S1 p N m
  tab : TW wr
theorem AK.below {w wr wn : World} {c : Ctx} {x p N : Nat} {m : Nat → Int} (h : AK w wr c x p N m) (hb : Below wr.heap.size wr wn) : AK w wn c x p N m := by
  obtain ⟨S1, h1⟩ := h.mem
  exact ⟨Below.step h.bel hb, h.C.below hb, ⟨S1, h1.keep (S' := fun _ => False) (Turn.below hb) (fun _ _ h => h)⟩, h.tab.below hb⟩
theorem AK.walk {w wr : World} {c : Ctx} {x p N : Nat} {m : Nat → Int} (h : AK w wr c x p N m) (hc : c.Ok) (va : Int) (hv : 0 ≤ va ∧ va < 4294967296) :
    Calls Tryd.prog 11 #[.iface 30 (.pointer (some ⟨p, 0, none⟩)), .agg #[.bool c.on, .bool c.tre, .bool c.afe, .int .i64 c.n, .bool c.pd0, .bool c.pd1, .int .u64 c.b0, .int .u64 c.b1, .int .u32 c.dacr, .int .u32 c.prrr, .int .u32 c.nmrr, .int .i64 c.asid], .int .u32 va] wr fun e w' => e = .returned (.tuple #[.agg #[.int .i64 ((wk (ramMo N m) c va).1).size, .int .u32 ((wk (ramMo N m) c va).1).va, .int .u64 ((wk (ramMo N m) c va).1).pa, .int .i64 ((wk (ramMo N m) c va).1).dom, .int .i64 ((wk (ramMo N m) c va).1).ap, .int .u32 ((wk (ramMo N m) c va).1).bits, .bool ((wk (ramMo N m) c va).1).ng, .bool ((wk (ramMo N m) c va).1).xn], .agg #[.int .i64 ((wk (ramMo N m) c va).2).k, .int .i64 ((wk (ramMo N m) c va).2).l, .int .i64 ((wk (ramMo N m) c va).2).d]]) ∧ Below wr.heap.size wr w' := by
  obtain ⟨S1, h1⟩ := h.mem
  exact walk_pure c va wr (.inl ⟨p, N, m, rfl, rfl, h1⟩) h.tab hc hv
set_option maxRecDepth 100000 in
set_option maxHeartbeats 8000000 in
theorem alive_any (w : World) (ht : TW w) : Calls Tryd.prog 9 #[] w fun e w' => e = .returned (.bool true) ∧ Below w.heap.size w w' := by
  have HT := hidW ht
  have HB0 := hidW (below_new w (.cells #[.int .u64 16384, .int .u32 20513, .int .u64 16388, .int .u32 1051662, .int .u64 20484, .int .u32 30782] 28))
  have HP := hidW (made_ok (w.alloc (.cells #[.int .u64 16384, .int .u32 20513, .int .u64 16388, .int .u32 1051662, .int .u64 20484, .int .u32 30782] 28)) 16 (by omega) (by omega) (some ⟨w.heap.size, 0, none⟩) 3 alP (alP_at w) (by decide))
  have k1 := hidW al1
  have k2 := hidW al2
  have k3 := hidW al3
  have HW1 := hidW (fun wr x p (h : AK w wr alC x p 16 (pm 16 alP 3)) => h.walk alC_ok 4660 (by decide))
  have HW2 := hidW (fun wr x p (h : AK w wr alC x p 16 (pm 16 alP 3)) => h.walk alC_ok 1048576 (by decide))
  have HW3 := hidW (fun wr x p (h : AK w wr alC x p 16 (pm 16 alP 3)) => h.walk alC_ok 8192 (by decide))
  unfold alM at k1 k2 k3
  generalize (wk (ramMo 16 (pm 16 alP 3)) alC 4660).1 = U1 at *
  generalize (wk (ramMo 16 (pm 16 alP 3)) alC 4660).2 = F1 at *
  generalize (wk (ramMo 16 (pm 16 alP 3)) alC 1048576).1 = U2 at *
  generalize (wk (ramMo 16 (pm 16 alP 3)) alC 1048576).2 = F2 at *
  generalize (wk (ramMo 16 (pm 16 alP 3)) alC 8192).1 = U3 at *
  generalize (wk (ramMo 16 (pm 16 alP 3)) alC 8192).2 = F3 at *
  clear ht
  go_enter Tryd.func9, Tryd.ntmps9
  go_wp2_with fail
  go_at_call 10
  refine HP.out.mono ?_
  rintro e wa ⟨p, rfl, hO⟩
  have HK : Hid (AK w (wa.alloc (.cells #[.bool true, .bool false, .bool false, .int .i64 2, .bool false, .bool false, .int .u64 16384, .int .u64 131072, .int .u32 5, .int .u32 0, .int .u32 0, .int .i64 0] 26)) alC wa.heap.size p 16 (pm 16 alP 3)) := by
    have b1 : Below w.heap.size w wa := Below.step HB0.out hO.bel
    obtain ⟨⟨S1, h1, _⟩, _⟩ := hO
    exact ⟨Below.step b1 (below_new _ _), Bl.new wa 26 [.bool true, .bool false, .bool false, .int .i64 2, .bool false, .bool false, .int .u64 16384, .int .u64 131072, .int .u32 5, .int .u32 0, .int .u32 0, .int .i64 0], ⟨S1, h1.keep (S' := fun _ => False) (Turn.below (below_new _ _)) (fun _ _ h => h)⟩, (HT.out.below b1).below (below_new _ _)⟩
  clear HP HB0 hO HT
  go_wp2_with fail
  generalize wa.alloc (.cells #[.bool true, .bool false, .bool false, .int .i64 2, .bool false, .bool false, .int .u64 16384, .int .u64 131072, .int .u32 5, .int .u32 0, .int .u32 0, .int .i64 0] 26) = wx at *
  generalize wa.heap.size = x at *
  go_at_call 11
  refine (HW1.out _ _ _ HK.out).mono ?_
  rintro e v1 ⟨rfl, hb⟩
  have HK1 := hidW ((HK.out.below hb).below (Below.step (below_new v1 (.cells #[.int .i64 U1.size, .int .u32 U1.va, .int .u64 U1.pa, .int .i64 U1.dom, .int .i64 U1.ap, .int .u32 U1.bits, .bool U1.ng, .bool U1.xn] 35)) (below_new _ (.cells #[.int .i64 F1.k, .int .i64 F1.l, .int .i64 F1.d] 37))))
  have HT1 := hidW ((Bl.new v1 35 [.int .i64 U1.size, .int .u32 U1.va, .int .u64 U1.pa, .int .i64 U1.dom, .int .i64 U1.ap, .int .u32 U1.bits, .bool U1.ng, .bool U1.xn]).below (below_new _ (.cells #[.int .i64 F1.k, .int .i64 F1.l, .int .i64 F1.d] 37)))
  have HF1 := hidW (Bl.new1 v1 (.cells #[.int .i64 U1.size, .int .u32 U1.va, .int .u64 U1.pa, .int .i64 U1.dom, .int .i64 U1.ap, .int .u32 U1.bits, .bool U1.ng, .bool U1.xn] 35) 37 [.int .i64 F1.k, .int .i64 F1.l, .int .i64 F1.d])
  clear hb HK HW1
  have cx := HK1.out.C.cell
  go_wp2_with fail
  generalize (v1.alloc (.cells #[.int .i64 U1.size, .int .u32 U1.va, .int .u64 U1.pa, .int .i64 U1.dom, .int .i64 U1.ap, .int .u32 U1.bits, .bool U1.ng, .bool U1.xn] 35)).alloc (.cells #[.int .i64 F1.k, .int .i64 F1.l, .int .i64 F1.d] 37) = y1 at *
  clear cx
  go_at_call 11
  refine (HW2.out _ _ _ HK1.out).mono ?_
  rintro e v2 ⟨rfl, hb⟩
  have HK2 := hidW ((HK1.out.below hb).below (Below.step (below_new v2 (.cells #[.int .i64 U2.size, .int .u32 U2.va, .int .u64 U2.pa, .int .i64 U2.dom, .int .i64 U2.ap, .int .u32 U2.bits, .bool U2.ng, .bool U2.xn] 35)) (below_new _ (.cells #[.int .i64 F2.k, .int .i64 F2.l, .int .i64 F2.d] 37))))
  have HT2 := hidW ((Bl.new v2 35 [.int .i64 U2.size, .int .u32 U2.va, .int .u64 U2.pa, .int .i64 U2.dom, .int .i64 U2.ap, .int .u32 U2.bits, .bool U2.ng, .bool U2.xn]).below (below_new _ (.cells #[.int .i64 F2.k, .int .i64 F2.l, .int .i64 F2.d] 37)))
  have HF2 := hidW (Bl.new1 v2 (.cells #[.int .i64 U2.size, .int .u32 U2.va, .int .u64 U2.pa, .int .i64 U2.dom, .int .i64 U2.ap, .int .u32 U2.bits, .bool U2.ng, .bool U2.xn] 35) 37 [.int .i64 F2.k, .int .i64 F2.l, .int .i64 F2.d])
  have HT1_2 := hidW ((HT1.out.below hb).below (Below.step (below_new v2 (.cells #[.int .i64 U2.size, .int .u32 U2.va, .int .u64 U2.pa, .int .i64 U2.dom, .int .i64 U2.ap, .int .u32 U2.bits, .bool U2.ng, .bool U2.xn] 35)) (below_new _ (.cells #[.int .i64 F2.k, .int .i64 F2.l, .int .i64 F2.d] 37))))
  have HF1_2 := hidW ((HF1.out.below hb).below (Below.step (below_new v2 (.cells #[.int .i64 U2.size, .int .u32 U2.va, .int .u64 U2.pa, .int .i64 U2.dom, .int .i64 U2.ap, .int .u32 U2.bits, .bool U2.ng, .bool U2.xn] 35)) (below_new _ (.cells #[.int .i64 F2.k, .int .i64 F2.l, .int .i64 F2.d] 37))))
  clear hb HK1 HW2 HT1 HF1
  have cx := HK2.out.C.cell
  go_wp2_with fail
  generalize (v2.alloc (.cells #[.int .i64 U2.size, .int .u32 U2.va, .int .u64 U2.pa, .int .i64 U2.dom, .int .i64 U2.ap, .int .u32 U2.bits, .bool U2.ng, .bool U2.xn] 35)).alloc (.cells #[.int .i64 F2.k, .int .i64 F2.l, .int .i64 F2.d] 37) = y2 at *
  clear cx
  go_at_call 11
  refine (HW3.out _ _ _ HK2.out).mono ?_
  rintro e v3 ⟨rfl, hb⟩
  have HK3 := hidW ((HK2.out.below hb).below (Below.step (below_new v3 (.cells #[.int .i64 U3.size, .int .u32 U3.va, .int .u64 U3.pa, .int .i64 U3.dom, .int .i64 U3.ap, .int .u32 U3.bits, .bool U3.ng, .bool U3.xn] 35)) (below_new _ (.cells #[.int .i64 F3.k, .int .i64 F3.l, .int .i64 F3.d] 37))))
  have HT3 := hidW ((Bl.new v3 35 [.int .i64 U3.size, .int .u32 U3.va, .int .u64 U3.pa, .int .i64 U3.dom, .int .i64 U3.ap, .int .u32 U3.bits, .bool U3.ng, .bool U3.xn]).below (below_new _ (.cells #[.int .i64 F3.k, .int .i64 F3.l, .int .i64 F3.d] 37)))
  have HF3 := hidW (Bl.new1 v3 (.cells #[.int .i64 U3.size, .int .u32 U3.va, .int .u64 U3.pa, .int .i64 U3.dom, .int .i64 U3.ap, .int .u32 U3.bits, .bool U3.ng, .bool U3.xn] 35) 37 [.int .i64 F3.k, .int .i64 F3.l, .int .i64 F3.d])
  have HT1_3 := hidW ((HT1_2.out.below hb).below (Below.step (below_new v3 (.cells #[.int .i64 U3.size, .int .u32 U3.va, .int .u64 U3.pa, .int .i64 U3.dom, .int .i64 U3.ap, .int .u32 U3.bits, .bool U3.ng, .bool U3.xn] 35)) (below_new _ (.cells #[.int .i64 F3.k, .int .i64 F3.l, .int .i64 F3.d] 37))))
  have HF1_3 := hidW ((HF1_2.out.below hb).below (Below.step (below_new v3 (.cells #[.int .i64 U3.size, .int .u32 U3.va, .int .u64 U3.pa, .int .i64 U3.dom, .int .i64 U3.ap, .int .u32 U3.bits, .bool U3.ng, .bool U3.xn] 35)) (below_new _ (.cells #[.int .i64 F3.k, .int .i64 F3.l, .int .i64 F3.d] 37))))
  have HT2_3 := hidW ((HT2.out.below hb).below (Below.step (below_new v3 (.cells #[.int .i64 U3.size, .int .u32 U3.va, .int .u64 U3.pa, .int .i64 U3.dom, .int .i64 U3.ap, .int .u32 U3.bits, .bool U3.ng, .bool U3.xn] 35)) (below_new _ (.cells #[.int .i64 F3.k, .int .i64 F3.l, .int .i64 F3.d] 37))))
  have HF2_3 := hidW ((HF2.out.below hb).below (Below.step (below_new v3 (.cells #[.int .i64 U3.size, .int .u32 U3.va, .int .u64 U3.pa, .int .i64 U3.dom, .int .i64 U3.ap, .int .u32 U3.bits, .bool U3.ng, .bool U3.xn] 35)) (below_new _ (.cells #[.int .i64 F3.k, .int .i64 F3.l, .int .i64 F3.d] 37))))
  clear hb HK2 HW3 HT1_2 HF1_2 HT2 HF2
  have c0 := HT1_3.out.cell
  have c1 := HF1_3.out.cell
  have c2 := HT2_3.out.cell
  have c3 := HF2_3.out.cell
  have c4 := HT3.out.cell
  have c5 := HF3.out.cell
  obtain ⟨k1a, k1b, k1c⟩ := k1.out
  obtain ⟨k2a, k2b⟩ := k2.out
  obtain ⟨k3a, k3b, k3c⟩ := k3.out
  have q1 : (U1.size == 1) = true := by rw [k1a]; rfl
  have q2 : (U1.pa == 28672) = true := by rw [k1b]; rfl
  have q3 : (F1.k == 0) = true := by rw [k1c]; rfl
  have q4 : (U2.size == 3) = true := by rw [k2a]; rfl
  have q5 : (F2.k == 0) = true := by rw [k2b]; rfl
  have q6 : ∀ w, (Op.equalIn 10000 37 (.agg #[.int .i64 F3.k, .int .i64 F3.l, .int .i64 F3.d]) (.agg #[.int .i64 5, .int .i64 0, .int .i64 1])).run Tryd.prog w = .ok true w := by
    intro w
    have h := eqF F3 ⟨5, 0, 1⟩ w
    rw [show F3.same ⟨5, 0, 1⟩ = true by unfold Fa.same; rw [k3a, k3b, k3c]; rfl] at h
    exact h
  clear k1a k1b k1c k2a k2b k3a k3b k3c k1 k2 k3
  have HE := hidW HK3.out.bel
  go_wp2
  go_ret
  exact ⟨rfl, HE.out⟩
end Go.Proofs.YtmodcbdgnmjkoaaDoor
namespace Go.Proofs.YtmodcbdgnmjkoaaDoor
open Go.RowKit
open Mm (Turn gr PM RM valV errV Byts setV)
set_option linter.unusedVariables false
set_option linter.unusedSimpArgs false
theorem PutsAt.below {W W' : World} {a : Option Addr} {ps : List Pt} (h : PutsAt W a ps) (hb : Below W.heap.size W W') : PutsAt W' a ps :=
  ⟨fun k q hq => by
    obtain ⟨b, off, e, hl, e0, e1⟩ := h.lies k q hq
    exact ⟨b, off, e, Nat.lt_of_lt_of_le hl hb.size, (hb.cell hl).trans e0, (hb.cell hl).trans e1⟩, h.oks⟩
theorem rdL_len2 (M : Mo) (c : Ctx) (va : Int) : (rdL M c va).length ≤ 2 := by
  have hr1 : (r1 c va).length ≤ 1 := by unfold r1; split <;> simp
  unfold rdL
  split
  · split
    · rw [List.length_append]; simp; omega
    · omega
  · simp
end Go.Proofs.YtmodcbdgnmjkoaaDoor
namespace Go.Proofs.YtmodcbdgnmjkoaaDoor
open Go.ChangeShapes Go.WideShapes Go.ChangeAt Go.RowKit Go.Deep
set_option linter.unusedVariables false
set_option linter.unusedSimpArgs false
theorem cells_int : Tryd.prog.cellsOf 3 = 1 := by kernel_rfl
theorem cells_bool : Tryd.prog.cellsOf 4 = 1 := by kernel_rfl
theorem cells_u32 : Tryd.prog.cellsOf 24 = 1 := by kernel_rfl
theorem cells_leaf : Tryd.prog.cellsOf 33 = 4 := by kernel_rfl
theorem cells_may : Tryd.prog.cellsOf 160 = 2 := by kernel_rfl
theorem cells_row : Tryd.prog.cellsOf 180 = 4 := by kernel_rfl
set_option linter.unusedVariables false
set_option linter.unusedSimpArgs false
theorem cells_i : Tryd.prog.cellsOf 3 = 1 := by kernel_rfl
theorem cells_b : Tryd.prog.cellsOf 4 = 1 := by kernel_rfl
theorem cells_u8 : Tryd.prog.cellsOf 5 = 1 := by kernel_rfl
theorem cells_u64 : Tryd.prog.cellsOf 23 = 1 := by kernel_rfl
theorem cells_tra : Tryd.prog.cellsOf 35 = 8 := by kernel_rfl
theorem cells_ctx : Tryd.prog.cellsOf 26 = 12 := by kernel_rfl
theorem cells_a6 : Tryd.prog.cellsOf 88 = 6 := by kernel_rfl
theorem cells_put : Tryd.prog.cellsOf 28 = 2 := by kernel_rfl
variable {H : Type} {enc : TypeId × Value → H} {w : World} {base : Nat} {sp : Nat → Bool} {held : Bool}
/-- What it reads as. -/
def ctxD (m : Ctx) : DataW H := .agg [.lit (.bool m.on), .lit (.bool m.tre), .lit (.bool m.afe), .lit (.int .i64 m.n), .lit (.bool m.pd0), .lit (.bool m.pd1), .lit (.int .u64 m.b0), .lit (.int .u64 m.b1), .lit (.int .u32 m.dacr), .lit (.int .u32 m.prrr), .lit (.int .u32 m.nmrr), .lit (.int .i64 m.asid)]
structure CtxWf (m : Ctx) : Prop where
  n : (Lit.int .i64 m.n).wf = true
  b0 : (Lit.int .u64 m.b0).wf = true
  b1 : (Lit.int .u64 m.b1).wf = true
  dacr : (Lit.int .u32 m.dacr).wf = true
  prrr : (Lit.int .u32 m.prrr).wf = true
  nmrr : (Lit.int .u32 m.nmrr).wf = true
  asid : (Lit.int .i64 m.asid).wf = true
set_option maxRecDepth 100000 in
theorem shut_ctx {m : Ctx} (h : CtxWf m) : DataW.Trod enc Tryd.prog w base sp held 26 (.agg #[.bool m.on, .bool m.tre, .bool m.afe, .int .i64 m.n, .bool m.pd0, .bool m.pd1, .int .u64 m.b0, .int .u64 m.b1, .int .u32 m.dacr, .int .u32 m.prrr, .int .u32 m.nmrr, .int .i64 m.asid]) (ctxD m) [] := by
  obtain ⟨h0, h1, h2, h3, h4, h5, h6⟩ := h
  exact ⟨2, by simp [DataW.trod, Value.cells, Tryd.underlying26, Tryd.underlying4, Tryd.underlying3, Tryd.underlying24, Tryd.underlying23, cells_ctx, cells_int, cells_bool, cells_u32, cells_u64, h0, h1, h2, h3, h4, h5, h6, ctxD]⟩
set_option maxRecDepth 100000 in
theorem open_ctx {r : Reach} {b0 : Nat} {v : Value} {d : DataW H} {ps : List MemPlace} (hv : Value.okWide Tryd.prog w r b0 26 v) (h : DataW.Trod enc Tryd.prog w base sp held 26 v d ps) :
    ∃ m : Ctx, v = .agg #[.bool m.on, .bool m.tre, .bool m.afe, .int .i64 m.n, .bool m.pd0, .bool m.pd1, .int .u64 m.b0, .int .u64 m.b1, .int .u32 m.dacr, .int .u32 m.prrr, .int .u32 m.nmrr, .int .i64 m.asid] ∧ d = ctxD m ∧ ps = [] ∧ CtxWf m := by
  obtain ⟨cs, rfl, hsz⟩ := okWide_struct Tryd.underlying26 hv
  obtain ⟨v0, v1, v2, v3, v4, v5, v6, v7, v8, v9, v10, v11, rfl⟩ : ∃ v0 v1 v2 v3 v4 v5 v6 v7 v8 v9 v10 v11, cs = #[v0, v1, v2, v3, v4, v5, v6, v7, v8, v9, v10, v11] := by
    obtain ⟨l⟩ := cs
    match l, hsz.trans cells_ctx with
    | [v0, v1, v2, v3, v4, v5, v6, v7, v8, v9, v10, v11], _ => exact ⟨v0, v1, v2, v3, v4, v5, v6, v7, v8, v9, v10, v11, rfl⟩
  obtain ⟨fuel, hf⟩ := h
  obtain ⟨xs, n, _, hx, _, hlen, hq⟩ := DataW.trod_struct Tryd.underlying26 hf
  obtain ⟨y0, y1, y2, y3, y4, y5, y6, y7, y8, y9, y10, y11, rfl⟩ : ∃ y0 y1 y2 y3 y4 y5 y6 y7 y8 y9 y10 y11, xs = [y0, y1, y2, y3, y4, y5, y6, y7, y8, y9, y10, y11] := by
    match xs, hlen with
    | [y0, y1, y2, y3, y4, y5, y6, y7, y8, y9, y10, y11], _ => exact ⟨y0, y1, y2, y3, y4, y5, y6, y7, y8, y9, y10, y11, rfl⟩
  have h0 : DataW.trod enc Tryd.prog w base sp held n 4 [v0] = some y0 := by simpa [Value.cells, cells_bool] using hq 0 _ rfl
  have h1 : DataW.trod enc Tryd.prog w base sp held n 4 [v1] = some y1 := by simpa [Value.cells, cells_bool] using hq 1 _ rfl
  have h2 : DataW.trod enc Tryd.prog w base sp held n 4 [v2] = some y2 := by simpa [Value.cells, cells_bool] using hq 2 _ rfl
  have h3 : DataW.trod enc Tryd.prog w base sp held n 3 [v3] = some y3 := by simpa [Value.cells, cells_int] using hq 3 _ rfl
  have h4 : DataW.trod enc Tryd.prog w base sp held n 4 [v4] = some y4 := by simpa [Value.cells, cells_bool] using hq 4 _ rfl
  have h5 : DataW.trod enc Tryd.prog w base sp held n 4 [v5] = some y5 := by simpa [Value.cells, cells_bool] using hq 5 _ rfl
  have h6 : DataW.trod enc Tryd.prog w base sp held n 23 [v6] = some y6 := by simpa [Value.cells, cells_u64] using hq 6 _ rfl
  have h7 : DataW.trod enc Tryd.prog w base sp held n 23 [v7] = some y7 := by simpa [Value.cells, cells_u64] using hq 7 _ rfl
  have h8 : DataW.trod enc Tryd.prog w base sp held n 24 [v8] = some y8 := by simpa [Value.cells, cells_u32] using hq 8 _ rfl
  have h9 : DataW.trod enc Tryd.prog w base sp held n 24 [v9] = some y9 := by simpa [Value.cells, cells_u32] using hq 9 _ rfl
  have h10 : DataW.trod enc Tryd.prog w base sp held n 24 [v10] = some y10 := by simpa [Value.cells, cells_u32] using hq 10 _ rfl
  have h11 : DataW.trod enc Tryd.prog w base sp held n 3 [v11] = some y11 := by simpa [Value.cells, cells_int] using hq 11 _ rfl
  obtain ⟨i0, e0, r0⟩ := DataW.trod_bool Tryd.underlying4 h0
  obtain ⟨i1, e1, r1⟩ := DataW.trod_bool Tryd.underlying4 h1
  obtain ⟨i2, e2, r2⟩ := DataW.trod_bool Tryd.underlying4 h2
  obtain ⟨i3, e3, r3, w3⟩ := DataW.trod_int Tryd.underlying3 h3
  obtain ⟨i4, e4, r4⟩ := DataW.trod_bool Tryd.underlying4 h4
  obtain ⟨i5, e5, r5⟩ := DataW.trod_bool Tryd.underlying4 h5
  obtain ⟨i6, e6, r6, w6⟩ := DataW.trod_int Tryd.underlying23 h6
  obtain ⟨i7, e7, r7, w7⟩ := DataW.trod_int Tryd.underlying23 h7
  obtain ⟨i8, e8, r8, w8⟩ := DataW.trod_int Tryd.underlying24 h8
  obtain ⟨i9, e9, r9, w9⟩ := DataW.trod_int Tryd.underlying24 h9
  obtain ⟨i10, e10, r10, w10⟩ := DataW.trod_int Tryd.underlying24 h10
  obtain ⟨i11, e11, r11, w11⟩ := DataW.trod_int Tryd.underlying3 h11
  simp only [List.cons.injEq, and_true] at e0 e1 e2 e3 e4 e5 e6 e7 e8 e9 e10 e11
  subst e0 e1 e2 e3 e4 e5 e6 e7 e8 e9 e10 e11 r0 r1 r2 r3 r4 r5 r6 r7 r8 r9 r10 r11
  obtain ⟨hd, hp⟩ := Prod.mk.inj hx
  exact ⟨⟨i0, i1, i2, i3, i4, i5, i6, i7, i8, i9, i10, i11⟩, rfl, hd, hp, ⟨w3, w6, w7, w8, w9, w10, w11⟩⟩
def traD (t : Tra) : DataW H := .agg [.lit (.int .i64 t.size), .lit (.int .u32 t.va), .lit (.int .u64 t.pa), .lit (.int .i64 t.dom), .agg [.lit (.int .i64 t.ap), .lit (.int .u32 t.bits), .lit (.bool t.ng), .lit (.bool t.xn)]]
structure TraWf (t : Tra) : Prop where
  s : (Lit.int .i64 t.size).wf = true
  v : (Lit.int .u32 t.va).wf = true
  p : (Lit.int .u64 t.pa).wf = true
  d : (Lit.int .i64 t.dom).wf = true
  a : (Lit.int .i64 t.ap).wf = true
  t : (Lit.int .u32 t.bits).wf = true
set_option maxRecDepth 100000 in
theorem shut_tra {t : Tra} (h : TraWf t) : DataW.Trod enc Tryd.prog w base sp held 35 (.agg #[.int .i64 t.size, .int .u32 t.va, .int .u64 t.pa, .int .i64 t.dom, .int .i64 t.ap, .int .u32 t.bits, .bool t.ng, .bool t.xn]) (traD t) [] := by
  obtain ⟨h1, h2, h3, h4, h5, h6⟩ := h
  exact ⟨3, by simp [DataW.trod, Value.cells, Tryd.underlying35, Tryd.underlying33, Tryd.underlying3, Tryd.underlying4, Tryd.underlying24, Tryd.underlying23, cells_tra, cells_leaf, cells_i, cells_b, cells_u32, cells_u64, h1, h2, h3, h4, h5, h6, traD]⟩

theorem array8 {cs : Array Value} (h : cs.size = 8) : ∃ a b c d e f g i, cs = #[a, b, c, d, e, f, g, i] := by
  obtain ⟨l⟩ := cs
  match l, h with
  | [a, b, c, d, e, f, g, i], _ => exact ⟨a, b, c, d, e, f, g, i, rfl⟩

theorem open_leaf4 {fuel : Nat} {a b c d : Value} {x : DataW H × List MemPlace} (h : DataW.trod enc Tryd.prog w base sp held fuel 33 [a, b, c, d] = some x) :
    ∃ (n m : Int) (p q : Bool), a = .int .i64 n ∧ b = .int .u32 m ∧ c = .bool p ∧ d = .bool q ∧ x = (.agg [.lit (.int .i64 n), .lit (.int .u32 m), .lit (.bool p), .lit (.bool q)], []) ∧ (Lit.int .i64 n).wf = true ∧ (Lit.int .u32 m).wf = true := by
  obtain ⟨y0, y1, y2, y3, n, rfl, _, h0, h1, h2, h3⟩ := Go.Joins.trod_struct4 Tryd.underlying33 h
  simp only [cells_i, cells_u32, cells_b, List.drop_zero, List.drop_succ_cons, List.take_succ_cons, List.take_zero] at h0 h1 h2 h3
  obtain ⟨i0, e0, r0, w0⟩ := DataW.trod_int Tryd.underlying3 h0
  obtain ⟨i1, e1, r1, w1⟩ := DataW.trod_int Tryd.underlying24 h1
  obtain ⟨i2, e2, r2⟩ := DataW.trod_bool Tryd.underlying4 h2
  obtain ⟨i3, e3, r3⟩ := DataW.trod_bool Tryd.underlying4 h3
  simp only [List.cons.injEq, and_true] at e0 e1 e2 e3
  subst e0 e1 e2 e3 r0 r1 r2 r3
  exact ⟨i0, i1, i2, i3, rfl, rfl, rfl, rfl, rfl, w0, w1⟩
set_option maxRecDepth 100000 in
theorem open_tra {r : Reach} {b0 : Nat} {v : Value} {d : DataW H} {ps : List MemPlace} (hv : Value.okWide Tryd.prog w r b0 35 v) (h : DataW.Trod enc Tryd.prog w base sp held 35 v d ps) :
    ∃ t : Tra, v = .agg #[.int .i64 t.size, .int .u32 t.va, .int .u64 t.pa, .int .i64 t.dom, .int .i64 t.ap, .int .u32 t.bits, .bool t.ng, .bool t.xn] ∧ d = traD t ∧ ps = [] ∧ TraWf t := by
  obtain ⟨cs, rfl, hsz⟩ := okWide_struct Tryd.underlying35 hv
  obtain ⟨v0, v1, v2, v3, v4, v5, v6, v7, rfl⟩ := array8 (hsz.trans cells_tra)
  obtain ⟨fuel, hf⟩ := h
  obtain ⟨xs, n, _, hx, _, hlen, hq⟩ := DataW.trod_struct Tryd.underlying35 hf
  obtain ⟨y0, y1, y2, y3, y4, rfl⟩ : ∃ y0 y1 y2 y3 y4, xs = [y0, y1, y2, y3, y4] := by
    match xs, hlen with
    | [y0, y1, y2, y3, y4], _ => exact ⟨y0, y1, y2, y3, y4, rfl⟩
  · skip
    have h0 : DataW.trod enc Tryd.prog w base sp held n 3 [v0] = some y0 := by simpa [Value.cells, cells_i] using hq 0 _ rfl
    have h1 : DataW.trod enc Tryd.prog w base sp held n 24 [v1] = some y1 := by simpa [Value.cells, cells_u32] using hq 1 _ rfl
    have h2 : DataW.trod enc Tryd.prog w base sp held n 23 [v2] = some y2 := by simpa [Value.cells, cells_u64] using hq 2 _ rfl
    have h3 : DataW.trod enc Tryd.prog w base sp held n 3 [v3] = some y3 := by simpa [Value.cells, cells_i] using hq 3 _ rfl
    have h4 : DataW.trod enc Tryd.prog w base sp held n 33 [v4, v5, v6, v7] = some y4 := by simpa [Value.cells, cells_leaf] using hq 4 _ rfl
    obtain ⟨i0, e0, r0, w0⟩ := DataW.trod_int Tryd.underlying3 h0
    obtain ⟨i1, e1, r1, w1⟩ := DataW.trod_int Tryd.underlying24 h1
    obtain ⟨i2, e2, r2, w2⟩ := DataW.trod_int Tryd.underlying23 h2
    obtain ⟨i3, e3, r3, w3⟩ := DataW.trod_int Tryd.underlying3 h3
    obtain ⟨i4, i5, i6, i7, rfl, rfl, rfl, rfl, r4, w4, w5⟩ := open_leaf4 h4
    simp only [List.cons.injEq, and_true] at e0 e1 e2 e3
    subst e0 e1 e2 e3 r0 r1 r2 r3 r4
    obtain ⟨hd, hp⟩ := Prod.mk.inj hx
    exact ⟨⟨i0, i1, i2, i3, i4, i5, i6, i7⟩, rfl, hd, hp, ⟨w0, w1, w2, w3, w4, w5⟩⟩

def mayD (a b : Bool) : DataW Unit := .agg [.lit (.bool a), .lit (.bool b)]
def rowD (r : Row) : DataW Unit := .agg [mayD r.pr r.pw, mayD r.ur r.uw]
/-- A listed variable. -/
theorem laid_mem {P : Program} {W : World} {n : String} {d : DataW Unit} : ∀ {L : List (String × DataW Unit)} {ps : List MemPlace}, DataW.LaidVars P W L ps → (n, d) ∈ L →
    ∃ g t cs fuel p, P.globalNamed n = some g ∧ (P.globals[g]?).map (·.type) = some t ∧ W.var? P n = some cs ∧ DataW.trod (fun _ => ()) P W 0 (fun _ => true) false fuel t cs.toList = some (d, p)
  | [], _, _, hm => by cases hm
  | (n', d') :: L, ps, h, hm => by
    obtain ⟨g, t, cs, fuel, p, q, h1, h2, h3, h4, h5, _⟩ := h
    rcases List.mem_cons.1 hm with he | hm
    · cases he
      exact ⟨g, t, cs, fuel, p, h1, h2, h3, h4⟩
    · exact laid_mem h5 hm
/-- An element of an array. -/
theorem arr_at {P : Program} {W : World} {fuel : Nat} {t e : TypeId} {m c : Nat} {cs : List Value} {x : DataW Unit × List MemPlace} (h : DataW.trod (fun _ => ()) P W 0 (fun _ => true) false fuel t cs = some x)
    (ht : P.underlying t = some (.array m e)) (hce : P.cellsOf e = c) (hct : P.cellsOf t = m * c) :
    cs.length = m * c ∧ ∃ ds, x.1 = .agg ds ∧ ds.length = m ∧ ∀ i, i < m → ∃ f' y, ds[i]? = some y.1 ∧ DataW.trod (fun _ => ()) P W 0 (fun _ => true) false f' e ((cs.drop (i * c)).take c) = some y := by
  cases fuel with
  | zero => simp [DataW.trod] at h
  | succ fuel =>
    simp only [DataW.trod, ht, hct, hce] at h
    split at h
    · rename_i hl
      obtain ⟨xs, hx1, rfl⟩ := Option.map_eq_some_iff.1 h
      refine ⟨by simpa using hl, xs.map (·.1), by simp, ?_, fun i hi => ?_⟩
      · have := Lib.mapM_length hx1
        simpa using this
      · obtain ⟨b, hb, hf⟩ := Lib.mapM_at hx1 i i (by simp [hi])
        exact ⟨fuel, b, by simp [hb], hf⟩
    · cases h
/-- An element of a listed array. -/
theorem tab_at {W : World} {L : List (String × DataW Unit)} {ps : List MemPlace} (h : DataW.LaidVars Tryd.prog W L ps) {n : String} {g : Nat} {t e : TypeId} {m c : Nat} (ds : List (DataW Unit))
    (hm : (n, DataW.agg ds) ∈ L) (hg : Tryd.prog.globalNamed n = some g) (hty : (Tryd.prog.globals[g]?).map (·.type) = some t)
    (ht : Tryd.prog.underlying t = some (.array m e)) (hce : Tryd.prog.cellsOf e = c) (hct : Tryd.prog.cellsOf t = m * c) (i : Nat) (hi : i < m) :
    ∃ cs fuel x, (∀ j v, j < c → cs[j]? = some v → W.cell? ⟨g, i * c + j, none⟩ = some v) ∧ ds[i]? = some x.1 ∧ DataW.trod (fun _ => ()) Tryd.prog W 0 (fun _ => true) false fuel e cs = some x := by
  obtain ⟨g', t', cs, fuel, p, h1, h2, h3, h4⟩ := laid_mem h hm
  obtain rfl := Option.some.inj (hg.symm.trans h1)
  obtain rfl := Option.some.inj (hty.symm.trans h2)
  obtain ⟨_, ds', he, _, hat⟩ := arr_at h4 ht hce hct
  obtain rfl : ds = ds' := by simpa using he
  obtain ⟨f', y, hy, hf⟩ := hat i hi
  refine ⟨_, f', y, ?_, hy, hf⟩
  intro j v hj hv
  rw [World.var?_cell hg h3 (i * c + j), ← Array.getElem?_toList]
  simpa [List.getElem?_take, List.getElem?_drop, hj] using hv
set_option maxRecDepth 100000 in
theorem may_cells {W : World} {fuel : Nat} {cs : List Value} {x : DataW Unit × List MemPlace} (h : DataW.trod (fun _ => ()) Tryd.prog W 0 (fun _ => true) false fuel 160 cs = some x) :
    ∃ a b : Bool, cs = [.bool a, .bool b] ∧ x.1 = mayD a b := by
  obtain ⟨y0, y1, n, hx, hl, h0, h1⟩ := trod_struct2 Tryd.underlying160 h
  rw [cells_may] at hl
  obtain ⟨a, b, rfl⟩ : ∃ a b, cs = [a, b] := by
    match cs, hl with
    | [a, b], _ => exact ⟨a, b, rfl⟩
  simp only [cells_bool, List.drop_zero, List.drop_succ_cons, List.take_succ_cons, List.take_zero] at h0 h1
  obtain ⟨i0, e0, r0⟩ := DataW.trod_bool Tryd.underlying4 h0
  obtain ⟨i1, e1, r1⟩ := DataW.trod_bool Tryd.underlying4 h1
  simp only [List.cons.injEq, and_true] at e0 e1
  subst e0 e1 r0 r1
  exact ⟨i0, i1, rfl, by rw [hx]; rfl⟩
set_option maxRecDepth 100000 in
theorem row_cells {W : World} {fuel : Nat} {cs : List Value} {x : DataW Unit × List MemPlace} (h : DataW.trod (fun _ => ()) Tryd.prog W 0 (fun _ => true) false fuel 180 cs = some x) :
    ∃ r : Row, cs = [.bool r.pr, .bool r.pw, .bool r.ur, .bool r.uw] ∧ x.1 = rowD r := by
  obtain ⟨y0, y1, n, hx, hl, h0, h1⟩ := trod_struct2 Tryd.underlying180 h
  rw [cells_row] at hl
  obtain ⟨a, b, c, d, rfl⟩ : ∃ a b c d, cs = [a, b, c, d] := by
    match cs, hl with
    | [a, b, c, d], _ => exact ⟨a, b, c, d, rfl⟩
  simp only [cells_may, List.drop_zero, List.drop_succ_cons, List.take_succ_cons, List.take_zero] at h0 h1
  obtain ⟨a1, b1, e0, r0⟩ := may_cells h0
  obtain ⟨a2, b2, e1, r1⟩ := may_cells h1
  simp only [List.cons.injEq, and_true] at e0 e1
  obtain ⟨rfl, rfl⟩ := e0
  obtain ⟨rfl, rfl⟩ := e1
  exact ⟨⟨a1, b1, a2, b2⟩, rfl, by rw [hx]; simp only [r0, r1]; rfl⟩
/-- A listed table of permissions. -/
theorem perm_of {W : World} {L : List (String × DataW Unit)} {ps : List MemPlace} (h : DataW.LaidVars Tryd.prog W L ps) {n : String} {g : Nat} {t : TypeId} {m : Nat} (l : List Row)
    (hm : (n, DataW.agg (l.map rowD)) ∈ L) (hg : Tryd.prog.globalNamed n = some g) (hty : (Tryd.prog.globals[g]?).map (·.type) = some t)
    (ht : Tryd.prog.underlying t = some (.array m 180)) (hct : Tryd.prog.cellsOf t = m * 4) (hl : l.length = m) : ∀ q r, l[q]? = some r → RoB W g (q * 4) r := by
  intro q r hr
  have hi : q < m := by rw [← hl]; exact (List.getElem?_eq_some_iff.1 hr).1
  obtain ⟨cs, fuel, x, h1, h2, h3⟩ := tab_at h _ hm hg hty ht cells_row hct q hi
  obtain ⟨r', rfl, hx⟩ := row_cells h3
  rw [hx] at h2
  simp [hr] at h2
  obtain rfl : r = r' := by
    obtain ⟨a1, a2, a3, a4⟩ := r
    obtain ⟨b1, b2, b3, b4⟩ := r'
    simpa [rowD, mayD, and_assoc] using h2
  exact ⟨h1 0 _ (by decide) rfl, h1 1 _ (by decide) rfl, h1 2 _ (by decide) rfl, h1 3 _ (by decide) rfl⟩
/-- A listed table of numbers. -/
theorem tab_of {k : IntKind} {W : World} {L : List (String × DataW Unit)} {ps : List MemPlace} (h : DataW.LaidVars Tryd.prog W L ps) {n : String} {g : Nat} {t e : TypeId} {m : Nat} (l : List Int)
    (hm : (n, DataW.agg (l.map fun z => .lit (.int k z))) ∈ L) (hg : Tryd.prog.globalNamed n = some g) (hty : (Tryd.prog.globals[g]?).map (·.type) = some t)
    (ht : Tryd.prog.underlying t = some (.array m e)) (he : Tryd.prog.underlying e = some (.int k)) (hce : Tryd.prog.cellsOf e = 1) (hct : Tryd.prog.cellsOf t = m) : Tb k W g l := by
  obtain ⟨g', t', cs, fuel, p, h1, h2, h3, h4⟩ := laid_mem h hm
  obtain rfl := Option.some.inj (hg.symm.trans h1)
  obtain rfl := Option.some.inj (hty.symm.trans h2)
  have hcs := Lib.cells_of_tab (zs := l) ht he hce hct h4
  intro i v hv
  rw [World.var?_cell hg h3 i, ← Array.getElem?_toList, hcs]
  simp [hv]
/-- A listed table of tables of six numbers. -/
theorem tab2_of {W : World} {L : List (String × DataW Unit)} {ps : List MemPlace} (h : DataW.LaidVars Tryd.prog W L ps) {n : String} {g : Nat} {t : TypeId} (ls : List (List Int))
    (hm : (n, DataW.agg (ls.map fun l => .agg (l.map fun z => .lit (.int .u8 z)))) ∈ L) (hg : Tryd.prog.globalNamed n = some g) (hty : (Tryd.prog.globals[g]?).map (·.type) = some t)
    (ht : Tryd.prog.underlying t = some (.array 6 88)) (hct : Tryd.prog.cellsOf t = 36) (i j : Nat) (l : List Int) (v : Int) (hl : ls[i]? = some l) (hv : l[j]? = some v) (hj : j < 6) (hi : i < 6) : W.cell? ⟨g, i * 6 + j, none⟩ = some (.int .u8 v) := by
  obtain ⟨g', t', cs, fuel, p, h1, h2, h3, h4⟩ := laid_mem h hm
  obtain rfl := Option.some.inj (hg.symm.trans h1)
  obtain rfl := Option.some.inj (hty.symm.trans h2)
  rw [World.var?_cell hg h3 (i * 6 + j), ← Array.getElem?_toList]
  cases fuel with
  | zero => simp [DataW.trod] at h4
  | succ fuel =>
    simp only [DataW.trod, ht, hct, cells_a6] at h4
    split at h4
    · obtain ⟨xs, hx1, hx⟩ := Option.map_eq_some_iff.1 h4
      have hxs : xs.map (·.1) = ls.map fun l => (DataW.agg (l.map fun z => .lit (.int .u8 z)) : DataW Unit) := by
        have := congrArg Prod.fst hx
        simpa using this
      obtain ⟨b, hb, hf⟩ := Lib.mapM_at hx1 i i (by simp [hi])
      have hb1 : b.1 = DataW.agg (l.map fun z => .lit (.int .u8 z)) := by
        have e1 : (xs.map (·.1))[i]? = some b.1 := by simp [hb]
        rw [hxs] at e1
        simp [hl] at e1
        exact e1.symm
      obtain ⟨b1, b2⟩ := b
      simp only at hb1
      subst hb1
      have hcs := Lib.cells_of_tab (zs := l) Tryd.underlying88 Tryd.underlying5 cells_u8 cells_a6 hf
      have e2 := congrArg (·[j]?) hcs
      simp only [List.getElem?_take, List.getElem?_drop, List.getElem?_map, hv, if_pos hj, Option.map_some] at e2
      exact e2
    · cases h4

theorem CtxWf.ok {c : Ctx} (h : CtxWf c) : c.Ok := by
  have h1 := bounds_i64 h.n
  have h2 := bounds_u64 h.b0
  have h3 := bounds_u64 h.b1
  have h4 := bounds_u32 h.dacr
  exact ⟨by omega, by omega, by omega, by omega⟩
theorem add_add' (a : Addr) (m n : Nat) : (a.add m).add n = a.add (m + n) := by
  unfold Addr.add
  split <;> split <;> simp_all <;> omega
/-- A slice of whatever has k cells, opened. -/
theorem open_rows {α : Type} {W : World} (E : TypeId) (k : Nat) (hk : 0 < k) (hE : Tryd.prog.cellsOf E = k) (en : α → List Value) (ok : α → Prop) (d0 : α)
    (dec : ∀ {fuel : Nat} {cs : List Value} {x : DataW H × List MemPlace}, DataW.trod enc Tryd.prog W 0 (fun _ => true) true fuel E cs = some x → ∃ o, cs = en o ∧ ok o) (hen : ∀ o, (en o).length = k)
    {T : TypeId} (hT : Tryd.prog.underlying T = some (.slice E)) {fuel : Nat} {a : Option Addr} {len cap : Nat} {x : DataW H × List MemPlace}
    (h : DataW.trod enc Tryd.prog W 0 (fun _ => true) true fuel T (Value.slice a len cap).cells.toList = some x) :
    ∃ ops : List α, ops.length = len ∧ (∀ i o, ops[i]? = some o → ∃ b off, a = some ⟨b, off, none⟩ ∧ b < W.heap.size ∧ ∀ j v, (en o)[j]? = some v → W.cell? ⟨b, off + i * k + j, none⟩ = some v) ∧ (∀ o ∈ ops, ok o) ∧ ops.length ≤ maxLen := by
  rcases open_slice hT h with ⟨hcs, rfl⟩ | ⟨a', len', cap', m, n, D, Pl, hcs, hb, hl, hm, hmm, rfl, hx⟩
  · simp [Value.cells] at hcs
    obtain ⟨rfl, rfl, rfl⟩ := hcs
    exact ⟨[], rfl, ⟨fun i o ho => (by simp at ho), ⟨fun o ho => (by cases ho), Nat.zero_le _⟩⟩⟩
  · simp [Value.cells] at hcs
    obtain ⟨rfl, rfl, rfl⟩ := hcs
    have hlm : len ≤ m := by rw [hmm]; split <;> omega
    have first : ∀ i, i < len → ∃ o, ok o ∧ ∀ j v, (en o)[j]? = some v → W.cell? (a'.add (i * k + j)) = some v := by
      intro i hi
      obtain ⟨cs', h1, h2⟩ := hx i (by omega)
      rw [hE] at h1
      obtain ⟨_, hlen, hcell⟩ := World.cells?_some h1
      obtain ⟨o, rfl, ho⟩ := dec h2
      refine ⟨o, ho, fun j v hv => ?_⟩
      have hj : j < k := by
        have := (List.getElem?_eq_some_iff.1 hv).1
        rw [hen] at this; exact this
      have ej := hcell j hj
      rw [add_add', hv] at ej
      exact ej
    have hat : ∀ i o, (∀ j v, (en o)[j]? = some v → W.cell? (a'.add (i * k + j)) = some v) → ∃ v, W.cell? (a'.add (i * k)) = some v := by
      intro i o ho
      obtain ⟨v, hv⟩ : ∃ v, (en o)[0]? = some v := ⟨_, List.getElem?_eq_getElem (by rw [hen]; exact hk)⟩
      exact ⟨v, by have := ho 0 v hv; simpa using this⟩
    have each : ∀ i : Nat, ∃ o : α, i < len → (∃ b off, some a' = some (⟨b, off, none⟩ : Addr) ∧ b < W.heap.size ∧ ∀ j v, (en o)[j]? = some v → W.cell? ⟨b, off + i * k + j, none⟩ = some v) ∧ ok o := by
      intro i
      by_cases hi : i < len
      · obtain ⟨o, ho, hc⟩ := first i hi
        obtain ⟨o0, _, hc0⟩ := first 0 (by omega)
        obtain ⟨v0, e0⟩ := hat i o hc
        obtain ⟨v1, e1⟩ := hat 0 o0 hc0
        have hb0 := World.block_lt_of_cell? W _ e0
        obtain ⟨b, off, spot⟩ := a'
        have hsp : spot = none := by
          have := World.cell?_spot e1
          simpa [Addr.add] using this
        subst hsp
        rw [Addr.add_lit] at hb0
        refine ⟨o, fun _ => ⟨⟨b, off, rfl, hb0, fun j v hv => ?_⟩, ho⟩⟩
        have ej := hc j v hv
        rw [Addr.add_lit, ← Nat.add_assoc] at ej
        exact ej
      · exact ⟨d0, fun h => absurd h hi⟩
    obtain ⟨f, hf⟩ := Classical.skolem.1 each
    refine ⟨(List.range len).map f, by simp, fun i o ho => ?_, fun o ho => ?_, ?_⟩
    · have hi : i < len := by
        have := (List.getElem?_eq_some_iff.1 ho).1
        simpa using this
      rw [List.getElem?_map, List.getElem?_range hi] at ho
      simp at ho
      subst ho
      exact (hf i hi).1
    · obtain ⟨i, hi, rfl⟩ := List.mem_map.1 ho
      exact (hf i (List.mem_range.1 hi)).2
    · simp only [List.length_map, List.length_range]
      omega
set_option maxRecDepth 100000 in
theorem put_cells {W : World} {fuel : Nat} {cs : List Value} {x : DataW H × List MemPlace} (h : DataW.trod enc Tryd.prog W base sp held fuel 28 cs = some x) :
    ∃ o : Pt, cs = [.int .u64 o.pa, .int .u32 o.w] ∧ ((0 ≤ o.pa ∧ o.pa < 18446744073709551616) ∧ 0 ≤ o.w ∧ o.w < 4294967296) := by
  obtain ⟨xs, n, _, hx, hl, hlen, hq⟩ := DataW.trod_struct Tryd.underlying28 h
  rw [cells_put] at hl
  obtain ⟨v0, v1, rfl⟩ : ∃ v0 v1, cs = [v0, v1] := by
    match cs, hl with
    | [v0, v1], _ => exact ⟨v0, v1, rfl⟩
  obtain ⟨y0, y1, rfl⟩ : ∃ y0 y1, xs = [y0, y1] := by
    match xs, hlen with
    | [y0, y1], _ => exact ⟨y0, y1, rfl⟩
  have h0 : DataW.trod enc Tryd.prog W base sp held n 23 [v0] = some y0 := by simpa [Value.cells, cells_u64] using hq 0 _ rfl
  have h1 : DataW.trod enc Tryd.prog W base sp held n 24 [v1] = some y1 := by simpa [Value.cells, cells_u32] using hq 1 _ rfl
  obtain ⟨i0, e0, _, w0⟩ := DataW.trod_int Tryd.underlying23 h0
  obtain ⟨i1, e1, _, w1⟩ := DataW.trod_int Tryd.underlying24 h1
  simp only [List.cons.injEq, and_true] at e0 e1
  subst e0 e1
  have b0 := bounds_u64 w0
  have b1 := bounds_u32 w1
  exact ⟨⟨i0, i1⟩, rfl, ⟨by show 0 ≤ i0; omega, by show i0 < _; omega⟩, by show 0 ≤ i1; omega, by show i1 < _; omega⟩
set_option maxRecDepth 100000 in
theorem u32_cells {W : World} {fuel : Nat} {cs : List Value} {x : DataW H × List MemPlace} (h : DataW.trod enc Tryd.prog W base sp held fuel 24 cs = some x) :
    ∃ o : Int, cs = [.int .u32 o] ∧ (0 ≤ o ∧ o < 4294967296) := by
  obtain ⟨i0, e0, _, w0⟩ := DataW.trod_int Tryd.underlying24 h
  have b0 := bounds_u32 w0
  exact ⟨i0, e0, by omega, by omega⟩
set_option maxRecDepth 100000 in
theorem tra_cells {W : World} {fuel : Nat} {cs : List Value} {x : DataW H × List MemPlace} (h : DataW.trod enc Tryd.prog W base sp held fuel 35 cs = some x) :
    ∃ t : Tra, cs = [.int .i64 t.size, .int .u32 t.va, .int .u64 t.pa, .int .i64 t.dom, .int .i64 t.ap, .int .u32 t.bits, .bool t.ng, .bool t.xn] ∧ TraWf t := by
  obtain ⟨xs, n, _, hx, hl, hlen, hq⟩ := DataW.trod_struct Tryd.underlying35 h
  rw [cells_tra] at hl
  obtain ⟨v0, v1, v2, v3, v4, v5, v6, v7, rfl⟩ : ∃ v0 v1 v2 v3 v4 v5 v6 v7, cs = [v0, v1, v2, v3, v4, v5, v6, v7] := by
    match cs, hl with
    | [v0, v1, v2, v3, v4, v5, v6, v7], _ => exact ⟨v0, v1, v2, v3, v4, v5, v6, v7, rfl⟩
  obtain ⟨y0, y1, y2, y3, y4, rfl⟩ : ∃ y0 y1 y2 y3 y4, xs = [y0, y1, y2, y3, y4] := by
    match xs, hlen with
    | [y0, y1, y2, y3, y4], _ => exact ⟨y0, y1, y2, y3, y4, rfl⟩
  have h0 : DataW.trod enc Tryd.prog W base sp held n 3 [v0] = some y0 := by simpa [Value.cells, cells_i] using hq 0 _ rfl
  have h1 : DataW.trod enc Tryd.prog W base sp held n 24 [v1] = some y1 := by simpa [Value.cells, cells_u32] using hq 1 _ rfl
  have h2 : DataW.trod enc Tryd.prog W base sp held n 23 [v2] = some y2 := by simpa [Value.cells, cells_u64] using hq 2 _ rfl
  have h3 : DataW.trod enc Tryd.prog W base sp held n 3 [v3] = some y3 := by simpa [Value.cells, cells_i] using hq 3 _ rfl
  have h4 : DataW.trod enc Tryd.prog W base sp held n 33 [v4, v5, v6, v7] = some y4 := by simpa [Value.cells, cells_leaf] using hq 4 _ rfl
  obtain ⟨i0, e0, _, w0⟩ := DataW.trod_int Tryd.underlying3 h0
  obtain ⟨i1, e1, _, w1⟩ := DataW.trod_int Tryd.underlying24 h1
  obtain ⟨i2, e2, _, w2⟩ := DataW.trod_int Tryd.underlying23 h2
  obtain ⟨i3, e3, _, w3⟩ := DataW.trod_int Tryd.underlying3 h3
  obtain ⟨i4, i5, i6, i7, rfl, rfl, rfl, rfl, _, w4, w5⟩ := open_leaf4 h4
  simp only [List.cons.injEq, and_true] at e0 e1 e2 e3
  subst e0 e1 e2 e3
  exact ⟨⟨i0, i1, i2, i3, i4, i5, i6, i7⟩, rfl, ⟨w0, w1, w2, w3, w4, w5⟩⟩
/-- A script of puts, opened. -/
theorem open_puts {W : World} {fuel : Nat} {a : Option Addr} {len cap : Nat} {x : DataW H × List MemPlace} (h : DataW.trod enc Tryd.prog W 0 (fun _ => true) true fuel 22 (Value.slice a len cap).cells.toList = some x) :
    ∃ ps : List Pt, ps.length = len ∧ PutsAt W a ps ∧ ps.length ≤ maxLen := by
  obtain ⟨ps, h1, h2, h3, h4⟩ := open_rows 28 2 (by omega) cells_put (fun o : Pt => [.int .u64 o.pa, .int .u32 o.w]) _ ⟨0, 0⟩ (fun h => put_cells h) (fun _ => rfl) Tryd.underlying22 h
  refine ⟨ps, h1, ⟨fun k p hp => ?_, h3⟩, h4⟩
  obtain ⟨b, off, e, hb, hc⟩ := h2 k p hp
  exact ⟨b, off, e, hb, hc 0 _ rfl, hc 1 _ rfl⟩
theorem open_u32s {W : World} {fuel : Nat} {a : Option Addr} {len cap : Nat} {x : DataW H × List MemPlace} (h : DataW.trod enc Tryd.prog W 0 (fun _ => true) true fuel 57 (Value.slice a len cap).cells.toList = some x) :
    ∃ vs : List Int, vs.length = len ∧ Ws W a vs ∧ vs.length ≤ maxLen := by
  obtain ⟨ps, h1, h2, h3, h4⟩ := open_rows 24 1 (by omega) cells_u32 (fun o : Int => [.int .u32 o]) _ 0 (fun h => u32_cells h) (fun _ => rfl) Tryd.underlying57 h
  refine ⟨ps, h1, ⟨fun k p hp => ?_, h3⟩, h4⟩
  obtain ⟨b, off, e, hb, hc⟩ := h2 k p hp
  exact ⟨b, off, e, hb, by have := hc 0 _ rfl; simpa using this⟩
theorem open_tras {W : World} {fuel : Nat} {a : Option Addr} {len cap : Nat} {x : DataW H × List MemPlace} (h : DataW.trod enc Tryd.prog W 0 (fun _ => true) true fuel 72 (Value.slice a len cap).cells.toList = some x) :
    ∃ ts : List Tra, ts.length = len ∧ (∀ i o, ts[i]? = some o → ∃ b off, a = some ⟨b, off, none⟩ ∧ b < W.heap.size ∧ ∀ j v, ([.int .i64 o.size, .int .u32 o.va, .int .u64 o.pa, .int .i64 o.dom, .int .i64 o.ap, .int .u32 o.bits, .bool o.ng, .bool o.xn])[j]? = some v → W.cell? ⟨b, off + i * 8 + j, none⟩ = some v) ∧ (∀ o ∈ ts, TraWf o) ∧ ts.length ≤ maxLen :=
  open_rows 35 8 (by omega) cells_tra (fun o : Tra => [.int .i64 o.size, .int .u32 o.va, .int .u64 o.pa, .int .i64 o.dom, .int .i64 o.ap, .int .u32 o.bits, .bool o.ng, .bool o.xn]) _ ⟨0, 0, 0, 0, 0, 0, false, false⟩ (fun h => tra_cells h) (fun _ => rfl) Tryd.underlying72 h
end Go.Proofs.YtmodcbdgnmjkoaaDoor

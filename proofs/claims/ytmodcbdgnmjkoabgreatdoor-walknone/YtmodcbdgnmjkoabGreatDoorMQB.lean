import Derived.Test.YtmodcbdgnmjkoabGreatDoorWg
import Derived.Test.YtmodcbdgnmjkoabGreatDoorMS
import Derived.Test.YtmodcbdgnmjkoabGreatDoorRi
import Derived.Test.YtmodcbdgnmjkoabGreatDoorMQ7
import Derived.Test.YtmodcbdgnmjkoabGreatDoorEc
import Derived.Test.YtmodcbdgnmjkoabGreatDoorMQ0
import Derived.Test.YtmodcbdgnmjkoabGreatDoorMG
import Derived.Test.YtmodcbdgnmjkoabGreatDoorRz
import Derived.Test.YtmodcbdgnmjkoabGreatDoorGz
import Derived.Test.YtmodcbdgnmjkoabGreatDoorRows
import Derived.ChangeSame
import Derived.WalkKit
import Derived.ProofKit
import Derived.OpenShut
import Derived.Lib.LaidTab
import Derived.Lib.SmallJoins
import Derived.Deep.DeepHandedRow
import Derived.Test.YtmodcbdgnmjkoabGreatDoorMQ8
import Derived.Deep.RegionHeld3
namespace Go.Proofs.YtmodcbdgnmjkoabGreatDoor
open Go.RowKit
open Mm (Turn gr valV errV Byts)
set_option linter.unusedVariables false
set_option linter.unusedSimpArgs false
/-- The tables that Same reads. -/
structure TS (w : World) : Prop where
  r : TR w
  z : TZ w
theorem TZ.below {w w' : World} (h : TZ w) (hb : Below w.heap.size w w') : TZ w' := ⟨h.base.below hb, h.kind.below hb, h.rep.below hb⟩
theorem TS.below {w w' : World} (h : TS w) (hb : Below w.heap.size w w') : TS w' := ⟨h.r.below hb, h.z.below hb⟩
theorem TS.tw {w : World} (h : TS w) : TW w := ⟨h.r.toTT⟩
/-- How far the descriptors of a block stand apart. -/
def stp (s : Int) : Int := if s = 1 ∨ s = 2 then 4096 else 1048576
def okAt (M : Mo) (c : Ctx) (t : Tra) (i : Nat) : Bool := (wk M c (t.va + i * stp t.size)).1.same t
def allOk (M : Mo) (c : Ctx) (t : Tra) (n : Nat) : Bool := (List.range n).all (okAt M c t)
def smF (M : Mo) (c : Ctx) (t : Tra) : Bool := c.on && (riF t && allOk M c t (reN t.size).toNat)
theorem allOk_step (M : Mo) (c : Ctx) (t : Tra) (n : Nat) : allOk M c t (n + 1) = (allOk M c t n && okAt M c t n) := by
  unfold allOk
  rw [List.range_succ, List.all_append]
  simp
theorem allOk_no {M : Mo} {c : Ctx} {t : Tra} {k n : Nat} (hk : k < n) (h : okAt M c t k = false) : allOk M c t n = false := by
  unfold allOk
  rw [List.all_eq_false]
  exact ⟨k, List.mem_range.2 hk, by rw [h]; simp⟩
/-- What a right translation's numbers are. -/
theorem ri_size {t : Tra} (h : riF t = true) : t.size = 1 ∨ t.size = 2 ∨ t.size = 3 ∨ t.size = 4 := by
  unfold riF at h
  simp at h
  omega
structure Fz (t : Tra) : Prop where
  va : 0 ≤ t.va ∧ t.va < 4294967296
  pa : 0 ≤ t.pa ∧ t.pa < 18446744073709551616
  bt : 0 ≤ t.bits ∧ t.bits < 4294967296
theorem ri_rr {t : Tra} (hf : Fz t) (h : riF t = true) : RR t := (ri_iff t ⟨hf.pa, hf.bt⟩ (by have := ri_size h; omega)).1 h
theorem va_rng {t : Tra} (hf : Fz t) (h : riF t = true) {i : Nat} (hi : i < (reN t.size).toNat) : 0 ≤ t.va + i * stp t.size ∧ t.va + i * stp t.size < 4294967296 ∧ (i : Int) * stp t.size < 4294967296 := by
  have hr := (ri_rr hf h).1
  have hv := hf.va
  unfold stp reN byN at *
  rcases ri_size h with h1 | h1 | h1 | h1 <;> simp [h1] at hr hi ⊢ <;> omega
theorem reN_pos {t : Tra} (h : riF t = true) : 1 ≤ reN t.size ∧ reN t.size ≤ 16 ∧ byN t.size / reN t.size = stp t.size ∧ byN t.size = reN t.size * stp t.size ∧ 0 < stp t.size ∧ byN t.size < 4294967296 ∧ 0 ≤ byN t.size := by
  rcases ri_size h with h1 | h1 | h1 | h1 <;> simp [h1, reN, byN, stp]
set_option maxRecDepth 100000 in
set_option maxHeartbeats 4000000 in
theorem sameP_no (c : Ctx) (t : Tra) (w : World) (iv : Value) (h : c.on = false ∨ riF t = false) (hf : Fz t) (ht : TS w) :
    Calls Tryz.prog 9 #[iv, .agg #[.bool c.on, .bool c.tre, .bool c.afe, .int .i64 c.n, .bool c.pd0, .bool c.pd1, .int .u64 c.b0, .int .u64 c.b1, .int .u32 c.dacr, .int .u32 c.prrr, .int .u32 c.nmrr, .int .i64 c.asid], .agg #[.int .i64 t.size, .int .u32 t.va, .int .u64 t.pa, .int .i64 t.dom, .int .i64 t.ap, .int .u32 t.bits, .bool t.ng, .bool t.xn]] w fun e w' => e = .returned (.bool false) ∧ Below w.heap.size w w' := by
  have HB := hidW (Below.step (below_new w (.cells #[.bool c.on, .bool c.tre, .bool c.afe, .int .i64 c.n, .bool c.pd0, .bool c.pd1, .int .u64 c.b0, .int .u64 c.b1, .int .u32 c.dacr, .int .u32 c.prrr, .int .u32 c.nmrr, .int .i64 c.asid] 25)) (below_new _ (.cells #[.int .i64 t.size, .int .u32 t.va, .int .u64 t.pa, .int .i64 t.dom, .int .i64 t.ap, .int .u32 t.bits, .bool t.ng, .bool t.xn] 29)))
  cases hon : c.on
  · clear h
    rw [hon] at HB
    go_enter Tryz.func9, Tryz.ntmps9
    go_wp2
    go_ret
    exact ⟨rfl, HB.out⟩
  · have hr : riF t = false := by rcases h with h | h; exact absurd h (by rw [hon]; simp); exact h
    have HR := hidW (fun ww hw => right_any t ww hw hf.va ⟨hf.pa, hf.bt⟩)
    rw [hr] at HR
    rw [hon] at HB
    have HT := hidW ht
    clear h ht
    go_enter Tryz.func9, Tryz.ntmps9
    go_wp2_with fail
    go_at_call 18
    refine (HR.out _ (HT.out.below HB.out).r).mono ?_
    rintro e w1 ⟨rfl, hb⟩
    have HE := hidW (Below.step HB.out hb)
    clear hb HB HR HT
    go_wp2
    go_ret
    exact ⟨rfl, HE.out⟩
/-- Both boxes. -/
structure KS (w wr : World) (c : Ctx) (t : Tra) (x y : Nat) : Prop where
  bel : Below w.heap.size w wr
  C : Bl wr x 25 [.bool c.on, .bool c.tre, .bool c.afe, .int .i64 c.n, .bool c.pd0, .bool c.pd1, .int .u64 c.b0, .int .u64 c.b1, .int .u32 c.dacr, .int .u32 c.prrr, .int .u32 c.nmrr, .int .i64 c.asid]
  T : Bl wr y 29 [.int .i64 t.size, .int .u32 t.va, .int .u64 t.pa, .int .i64 t.dom, .int .i64 t.ap, .int .u32 t.bits, .bool t.ng, .bool t.xn]
theorem KS.below {w wr wn : World} {c : Ctx} {t : Tra} {x y : Nat} (h : KS w wr c t x y) (hb : Below wr.heap.size wr wn) : KS w wn c t x y := ⟨Below.step h.bel hb, h.C.below hb, h.T.below hb⟩
theorem KS.new (w : World) (c : Ctx) (t : Tra) : KS w ((w.alloc (.cells #[.bool c.on, .bool c.tre, .bool c.afe, .int .i64 c.n, .bool c.pd0, .bool c.pd1, .int .u64 c.b0, .int .u64 c.b1, .int .u32 c.dacr, .int .u32 c.prrr, .int .u32 c.nmrr, .int .i64 c.asid] 25)).alloc (.cells #[.int .i64 t.size, .int .u32 t.va, .int .u64 t.pa, .int .i64 t.dom, .int .i64 t.ap, .int .u32 t.bits, .bool t.ng, .bool t.xn] 29)) c t w.heap.size (w.heap.size + 1) := by
  have h := Bl.new (w.alloc (.cells #[.bool c.on, .bool c.tre, .bool c.afe, .int .i64 c.n, .bool c.pd0, .bool c.pd1, .int .u64 c.b0, .int .u64 c.b1, .int .u32 c.dacr, .int .u32 c.prrr, .int .u32 c.nmrr, .int .i64 c.asid] 25)) 29 [.int .i64 t.size, .int .u32 t.va, .int .u64 t.pa, .int .i64 t.dom, .int .i64 t.ap, .int .u32 t.bits, .bool t.ng, .bool t.xn]
  rw [show (w.alloc (.cells #[.bool c.on, .bool c.tre, .bool c.afe, .int .i64 c.n, .bool c.pd0, .bool c.pd1, .int .u64 c.b0, .int .u64 c.b1, .int .u32 c.dacr, .int .u32 c.prrr, .int .u32 c.nmrr, .int .i64 c.asid] 25)).heap.size = w.heap.size + 1 by simp] at h
  exact ⟨Below.step (below_new _ _) (below_new _ _), (Bl.new w 25 [.bool c.on, .bool c.tre, .bool c.afe, .int .i64 c.n, .bool c.pd0, .bool c.pd1, .int .u64 c.b0, .int .u64 c.b1, .int .u32 c.dacr, .int .u32 c.prrr, .int .u32 c.nmrr, .int .i64 c.asid]).below (below_new _ _), h⟩
set_option maxRecDepth 100000 in
set_option maxHeartbeats 8000000 in
theorem sameP_yes (c : Ctx) (t : Tra) (w : World) {S : Nat → Prop} {iv : Value} {M : Mo} (hm : MemP w S iv M) (hon : c.on = true) (hri : riF t = true) (hf : Fz t) (ht : TS w) (hc : c.Ok) :
    Calls Tryz.prog 9 #[iv, .agg #[.bool c.on, .bool c.tre, .bool c.afe, .int .i64 c.n, .bool c.pd0, .bool c.pd1, .int .u64 c.b0, .int .u64 c.b1, .int .u32 c.dacr, .int .u32 c.prrr, .int .u32 c.nmrr, .int .i64 c.asid], .agg #[.int .i64 t.size, .int .u32 t.va, .int .u64 t.pa, .int .i64 t.dom, .int .i64 t.ap, .int .u32 t.bits, .bool t.ng, .bool t.xn]] w fun e w' => e = .returned (.bool (allOk M c t (reN t.size).toNat)) ∧ Below w.heap.size w w' := by
  have hp := reN_pos hri
  have hvr := hidW (fun i hi => va_rng hf hri (i := i) hi)
  have HR := hidW (fun ww hw => right_any t ww hw hf.va ⟨hf.pa, hf.bt⟩)
  rw [hri] at HR
  have HX := hidW (KS.new w c t)
  have HN := hidW (fun ww (hw : TZ ww) => repeats_any t.size ww hw)
  have HY := hidW (fun ww (hw : TB ww) => bytes_any t.size ww hw)
  have HT := hidW ht
  have HM := hidW (fun ww (hb : Below w.heap.size w ww) va hv => walk_pure c va ww (hm.below hb) ((ht.below hb).tw) hc hv)
  have HA := hidW (fun n => allOk_step M c t n)
  have HZ := hidW (fun k n (hk : k < n) h => allOk_no (M := M) (c := c) (t := t) hk h)
  rw [hon] at HX HM ⊢
  obtain ⟨n, hn⟩ : ∃ n : Nat, reN t.size = (n : Int) := ⟨(reN t.size).toNat, by omega⟩
  rw [hn] at HN hp hvr ⊢
  have w1 : IntKind.u32.wrap (n : Int) = (n : Int) := by rw [IntKind.wrap_u32]; omega
  have w2 : IntKind.u32.wrap (byN t.size) = byN t.size := by rw [IntKind.wrap_u32]; omega
  have td : (byN t.size).tdiv (n : Int) = stp t.size := by rw [Int.tdiv_eq_ediv_of_nonneg (by omega)]; exact hp.2.2.1
  have hz : ¬ (n : Int) = 0 := by omega
  have h16 : (n : Int) ≤ 16 := by omega
  have hst : 0 < stp t.size := by omega
  have hby0 : 0 ≤ byN t.size := by omega
  have hby1 : byN t.size < 4294967296 := by omega
  have hdv : byN t.size / (n : Int) = stp t.size := hp.2.2.1
  have w0 : IntKind.u32.wrap (stp t.size) = stp t.size := by rw [IntKind.wrap_u32]; have : stp t.size ≤ 1048576 := (by unfold stp; split <;> omega); omega
  have hzb : ((n : Int) == 0) = false := by simp; omega
  rw [Int.toNat_natCast] at hvr ⊢
  clear hp hn
  go_enter Tryz.func9, Tryz.ntmps9
  go_wp2_with fail
  go_at_call 18
  refine (HR.out _ (HT.out.below HX.out.bel).r).mono ?_
  rintro e wa ⟨rfl, hb⟩
  have HX1 := hidW (HX.out.below hb)
  clear hb HX HR
  generalize w.heap.size + 1 = y at *
  have c1 := HX1.out.T.cell
  go_wp2_with fail
  go_at_call 19
  refine (HN.out _ (HT.out.below HX1.out.bel).z).mono ?_
  rintro e wb ⟨rfl, rfl⟩
  go_wp2_with fail
  go_at_call 20
  refine (HY.out _ ⟨(HT.out.below HX1.out.bel).z.base, (HT.out.below HX1.out.bel).z.kind⟩).mono ?_
  rintro e wb ⟨rfl, rfl⟩
  clear c1 HN HY
  go_wp2
  go_loopw [31] (fun i wr => ∃ k : Nat, k ≤ n ∧ i = .int .u32 k ∧ allOk M c t k = true ∧ Hid (KS w wr c t w.heap.size y)) (fun i _ => n - (intOf i).toNat)
  case atStart => exact ⟨0, Nat.zero_le _, rfl, rfl, HX1.out⟩
  case round =>
    obtain ⟨k, hk, rfl, hall, HK⟩ := hrel
    clear HX1
    by_cases hlt : k < n
    · have hkz : (k : Int) < (n : Int) := by omega
      have hv := hvr.out k hlt
      have w3 : IntKind.u32.wrap ((k : Int) * stp t.size) = (k : Int) * stp t.size := by rw [IntKind.wrap_u32]; have := Int.mul_nonneg (Int.natCast_nonneg k) (Int.le_of_lt hst); omega
      have w4 : IntKind.u32.wrap (t.va + (k : Int) * stp t.size) = t.va + (k : Int) * stp t.size := by rw [IntKind.wrap_u32]; omega
      have w5 : IntKind.u32.wrap ((k : Int) + 1) = (k : Int) + 1 := by rw [IntKind.wrap_u32]; omega
      have HC := hidW (HM.out wr HK.out.bel (t.va + (k : Int) * stp t.size) ⟨hv.1, hv.2.1⟩)
      have ho : okAt M c t k = (wk M c (t.va + (k : Int) * stp t.size)).1.same t := rfl
      have hs := HA.out k
      have hno := hidW (HZ.out k n hlt)
      have c1 := HK.out.T.cell
      have c2 := HK.out.C.cell
      rw [hon] at c2
      have eq := eqT (wk M c (t.va + (k : Int) * stp t.size)).1 t
      rw [ho] at hs hno
      generalize (wk M c (t.va + (k : Int) * stp t.size)).1 = U at *
      generalize (wk M c (t.va + (k : Int) * stp t.size)).2 = F at *
      generalize hsb : U.same t = sb at *
      rw [hall] at hs
      clear ho hvr hsb
      go_wp2_with fail
      go_at_call 4
      refine HC.out.mono ?_
      rintro e wb ⟨rfl, hb⟩
      have HK2 := hidW ((HK.out.below hb).below (Below.step (below_new wb (.cells #[.int .i64 U.size, .int .u32 U.va, .int .u64 U.pa, .int .i64 U.dom, .int .i64 U.ap, .int .u32 U.bits, .bool U.ng, .bool U.xn] 29)) (below_new _ (.cells #[.int .i64 F.k, .int .i64 F.l, .int .i64 F.d] 31))))
      have cT := HK2.out.T.cell
      have hyl : y < wb.heap.size := Nat.lt_of_lt_of_le HK.out.T.lt hb.size
      have n1 : ¬ y = wb.heap.size := by omega
      have n2 : ¬ y = wb.heap.size + 1 := by omega
      clear hb c1 c2 HC HK hyl
      cases sb
      · have hf := hidW (hno.out rfl)
        clear hs hno
        go_wp2
        go_ret
        rw [hf.out]
        exact ⟨rfl, HK2.out.bel⟩
      · simp at hs
        clear hno
        go_wp2
        go_roundw
        case rel => exact ⟨k + 1, by omega, by go_num, hs, HK2.out⟩
        case measure => simp [intOf]; omega
    · obtain rfl : k = n := by omega
      have HL := hidW hall
      clear hall
      go_wp2
      go_ret
      rw [HL.out]
      exact ⟨rfl, HK.out.bel⟩
theorem sameP_any (c : Ctx) (t : Tra) (w : World) {S : Nat → Prop} {iv : Value} {M : Mo} (hm : MemP w S iv M) (hf : Fz t) (ht : TS w) (hc : c.Ok) :
    Calls Tryz.prog 9 #[iv, .agg #[.bool c.on, .bool c.tre, .bool c.afe, .int .i64 c.n, .bool c.pd0, .bool c.pd1, .int .u64 c.b0, .int .u64 c.b1, .int .u32 c.dacr, .int .u32 c.prrr, .int .u32 c.nmrr, .int .i64 c.asid], .agg #[.int .i64 t.size, .int .u32 t.va, .int .u64 t.pa, .int .i64 t.dom, .int .i64 t.ap, .int .u32 t.bits, .bool t.ng, .bool t.xn]] w fun e w' => e = .returned (.bool (smF M c t)) ∧ Below w.heap.size w w' := by
  unfold smF
  cases hon : c.on
  · have h := sameP_no c t w iv (.inl hon) hf ht
    rw [hon] at h
    exact h
  · cases hri : riF t
    · have h := sameP_no c t w iv (.inr hri) hf ht
      rw [hon] at h
      exact h
    · have h := sameP_yes c t w hm hon hri hf ht hc
      rw [hon] at h
      exact h
end Go.Proofs.YtmodcbdgnmjkoabGreatDoor
namespace Go.Proofs.YtmodcbdgnmjkoabGreatDoor
open Go.RowKit
set_option linter.unusedVariables false
set_option linter.unusedSimpArgs false
/-- All addresses of a MiB have that walk, where its first level says it. -/
theorem wk_mib {M : Mo} {c : Ctx} {va vb : Int} {U : Tra} {F : Fa} (hM : M.Ok) (hc : c.Ok) (hv : 0 ≤ va ∧ va < 4294967296) (hw : wk M c va = (U, F)) (hk : F.k = 0) (h3 : 3 ≤ U.size) (h : va / 1048576 = vb / 1048576) : wk M c vb = (U, F) := by
  obtain ⟨e1, e2, e3⟩ := w1_sec (M := M) (c := c) (va := va) (vb := vb) h
  obtain ⟨hF, hf, hh⟩ := found hM hc hv hw hk
  rcases hh with ⟨_, hU, _⟩ | ⟨hon, hr, he, hu, hs⟩ | ⟨_, s, _, _, _, _, hs⟩
  · rw [hU] at h3; have h3 : (3 : Int) ≤ 1 := h3; omega
  · unfold wk at hw ⊢
    rw [if_pos hon] at hw ⊢
    rw [← e1]
    split at hw
    · rename_i h1
      rw [if_pos h1]
      split at hw
      · rename_i h2
        exfalso
        have : rdL M c va = r1 c va ++ [sA (w1 M c va).1 va] := by unfold rdL; rw [if_pos hon, if_pos ⟨h1, h2⟩]
        rw [hr] at this
        have hl := congrArg List.length this
        obtain ⟨hO, _⟩ := w1_kind h1
        simp [r1, hO] at hl
      · rename_i h2
        rw [if_neg h2, ← hw, tr_mib (w1_not1 h1 h2) h]
    · rename_i h1
      exfalso
      rw [← (Prod.mk.inj hw).2] at hk
      exact h1 hk
  · omega
theorem riF_ne {x : Tra} (h : riF x = true) : x ≠ tZ := by
  rintro rfl
  have := ri_size h
  simp [tZ] at this
theorem same_found {M : Mo} {c : Ctx} {va : Int} {x : Tra} (hM : M.Ok) (hc : c.Ok) (hv : 0 ≤ va ∧ va < 4294967296) (hr : riF x = true) (h : ((wk M c va).1.same x) = true) : wk M c va = (x, fZ) := by
  have h := (Tra.same_iff _ _).1 h
  obtain ⟨U, F, hq⟩ : ∃ U F, wk M c va = (U, F) := ⟨_, _, rfl⟩
  rw [hq] at h ⊢
  have h : U = x := h
  subst h
  rcases Classical.em (F.k = 0) with hk | hk
  · rw [(found hM hc hv hq hk).1]
  · exact absurd (missed hq hk).1 (riF_ne hr)
/-- A block that is found, of a page or of a section: found everywhere. -/
theorem sm_one {M : Mo} {c : Ctx} {va : Int} {x : Tra} (hM : M.Ok) (hc : c.Ok) (hv : 0 ≤ va ∧ va < 4294967296) (hon : c.on = true) (hw : wk M c va = (x, fZ)) (hs : x.size = 1 ∨ x.size = 3) : smF M c x = true := by
  have hf := (found hM hc hv hw rfl).2.1
  have hx := hf.va
  unfold smF
  rw [hon, hf.right]
  have hn : (reN x.size).toNat = 1 := by rcases hs with h | h <;> rw [h] <;> rfl
  rw [hn]
  have h0 : okAt M c x 0 = true := by
    unfold okAt
    have e : wk M c (x.va + ((0 : Nat) : Int) * stp x.size) = (x, fZ) := by
      rw [show x.va + ((0 : Nat) : Int) * stp x.size = x.va by simp]
      rcases hs with h | h
      · rw [h] at hx
        have hx : x.va = va / 4096 * 4096 := hx
        rw [wk_page (va := x.va) (vb := va) (by omega)]
        exact hw
      · rw [h] at hx
        have hx : x.va = va / 1048576 * 1048576 := hx
        exact wk_mib hM hc hv hw rfl (by omega) (by omega)
    rw [e]
    exact Tra.same_self _
  simp [allOk, h0, List.range_succ]
/-- A block that is the same everywhere is found at each of its addresses. -/
theorem sm_at {M : Mo} {c : Ctx} {x : Tra} {k : Int} (hM : M.Ok) (hc : c.Ok) (hf : Fz x) (h : smF M c x = true) (hk : 0 ≤ k ∧ k < byN x.size) : wk M c (x.va + k) = (x, fZ) := by
  unfold smF at h
  simp only [Bool.and_eq_true] at h
  obtain ⟨hon, hri, hall⟩ := h
  have hr := (ri_rr hf hri).1
  have hv := hf.va
  have ho : ∀ i, i < (reN x.size).toNat → wk M c (x.va + (i : Int) * stp x.size) = (x, fZ) := by
    intro i hi
    have h1 := List.all_eq_true.1 hall i (List.mem_range.2 hi)
    have h2 := va_rng hf hri hi
    exact same_found hM hc ⟨h2.1, h2.2.1⟩ hri h1
  rcases ri_size hri with hs | hs | hs | hs
  · rw [hs] at hk hr
    have hk : 0 ≤ k ∧ k < 4096 := hk
    have hr : x.va % 4096 = 0 := hr
    have h0 := ho 0 (by rw [hs]; decide)
    rw [show x.va + ((0 : Nat) : Int) * stp x.size = x.va by simp] at h0
    rw [wk_page (va := x.va + k) (vb := x.va) (by omega)]
    exact h0
  · rw [hs] at hk hr
    have hk : 0 ≤ k ∧ k < 65536 := hk
    have hr : x.va % 65536 = 0 := hr
    have h0 := ho (k / 4096).toNat (by rw [hs]; show (k / 4096).toNat < 16; omega)
    rw [hs] at h0
    have e : x.va + (((k / 4096).toNat : Nat) : Int) * stp 2 = x.va + (k / 4096) * 4096 := by
      rw [show stp 2 = 4096 from rfl, Int.toNat_of_nonneg (by omega)]
    rw [e] at h0
    rw [wk_page (va := x.va + k) (vb := x.va + k / 4096 * 4096) (by omega)]
    exact h0
  · rw [hs] at hk hr
    have hk : 0 ≤ k ∧ k < 1048576 := hk
    have hr : x.va % 1048576 = 0 := hr
    have h0 := ho 0 (by rw [hs]; decide)
    rw [show x.va + ((0 : Nat) : Int) * stp x.size = x.va by simp] at h0
    exact wk_mib hM hc hv h0 rfl (by omega) (by omega)
  · rw [hs] at hk hr
    have hk : 0 ≤ k ∧ k < 16777216 := hk
    have hr : x.va % 16777216 = 0 := hr
    have h0 := ho (k / 1048576).toNat (by rw [hs]; show (k / 1048576).toNat < 16; omega)
    rw [hs] at h0
    have e : x.va + (((k / 1048576).toNat : Nat) : Int) * stp 4 = x.va + (k / 1048576) * 1048576 := by
      rw [show stp 4 = 1048576 from rfl, Int.toNat_of_nonneg (by omega)]
    rw [e] at h0
    exact wk_mib hM hc (by omega) h0 rfl (by omega) (by omega)
end Go.Proofs.YtmodcbdgnmjkoabGreatDoor
namespace Go.Proofs.YtmodcbdgnmjkoabGreatDoor
open Go.RowKit
open Mm (Turn gr valV errV Byts)
set_option linter.unusedVariables false
set_option linter.unusedSimpArgs false
/-- What an access answers. -/
def goF (M : Mo) (c : Ctx) (va : Int) (priv : Bool) (k : Int) : Int × Fa :=
  if (wk M c va).2.k = 0 then (if (chF (wk M c va).1 c priv k).k = 0 then ((wk M c va).1.pa + (va - (wk M c va).1.va), fZ) else (0, chF (wk M c va).1 c priv k)) else (0, (wk M c va).2)
theorem below_at {w w1 w2 : World} {x : Nat} (hx : w.heap.size = x) (h : Below x w w1) (h2 : Below w1.heap.size w1 w2) : Below x w w2 := by
  subst hx
  exact Below.step h h2
theorem TC.tw {w : World} (h : TC w) : TW w := ⟨h.r.toTT⟩
set_option maxRecDepth 100000 in
set_option maxHeartbeats 4000000 in
theorem go_bad1 (c : Ctx) (va : Int) (priv : Bool) (k : Int) (w : World) (iv : Value) (U : Tra) (F : Fa) (hk : (F.k == 0) = false) (hv : 0 ≤ va ∧ va < 4294967296) (ht : TC w)
    (HC : Hid (Calls Tryz.prog 4 #[iv, .agg #[.bool c.on, .bool c.tre, .bool c.afe, .int .i64 c.n, .bool c.pd0, .bool c.pd1, .int .u64 c.b0, .int .u64 c.b1, .int .u32 c.dacr, .int .u32 c.prrr, .int .u32 c.nmrr, .int .i64 c.asid], .int .u32 va] ((w.alloc (.cells #[.bool c.on, .bool c.tre, .bool c.afe, .int .i64 c.n, .bool c.pd0, .bool c.pd1, .int .u64 c.b0, .int .u64 c.b1, .int .u32 c.dacr, .int .u32 c.prrr, .int .u32 c.nmrr, .int .i64 c.asid] 25)).alloc (.cells #[.int .i64 0, .int .i64 0, .int .i64 0] 31)) fun e w' => e = .returned (.tuple #[.agg #[.int .i64 U.size, .int .u32 U.va, .int .u64 U.pa, .int .i64 U.dom, .int .i64 U.ap, .int .u32 U.bits, .bool U.ng, .bool U.xn], .agg #[.int .i64 F.k, .int .i64 F.l, .int .i64 F.d]]) ∧ Below ((w.alloc (.cells #[.bool c.on, .bool c.tre, .bool c.afe, .int .i64 c.n, .bool c.pd0, .bool c.pd1, .int .u64 c.b0, .int .u64 c.b1, .int .u32 c.dacr, .int .u32 c.prrr, .int .u32 c.nmrr, .int .i64 c.asid] 25)).alloc (.cells #[.int .i64 0, .int .i64 0, .int .i64 0] 31)).heap.size ((w.alloc (.cells #[.bool c.on, .bool c.tre, .bool c.afe, .int .i64 c.n, .bool c.pd0, .bool c.pd1, .int .u64 c.b0, .int .u64 c.b1, .int .u32 c.dacr, .int .u32 c.prrr, .int .u32 c.nmrr, .int .i64 c.asid] 25)).alloc (.cells #[.int .i64 0, .int .i64 0, .int .i64 0] 31)) w')) :
    Calls Tryz.prog 11 #[iv, .agg #[.bool c.on, .bool c.tre, .bool c.afe, .int .i64 c.n, .bool c.pd0, .bool c.pd1, .int .u64 c.b0, .int .u64 c.b1, .int .u32 c.dacr, .int .u32 c.prrr, .int .u32 c.nmrr, .int .i64 c.asid], .int .u32 va, .bool priv, .int .i64 k] w fun e w' => e = .returned (.tuple #[.int .u64 0, .agg #[.int .i64 F.k, .int .i64 F.l, .int .i64 F.d]]) ∧ Below w.heap.size w w' := by
  have HB := hidW (Below.step (below_new w (.cells #[.bool c.on, .bool c.tre, .bool c.afe, .int .i64 c.n, .bool c.pd0, .bool c.pd1, .int .u64 c.b0, .int .u64 c.b1, .int .u32 c.dacr, .int .u32 c.prrr, .int .u32 c.nmrr, .int .i64 c.asid] 25)) (below_new _ (.cells #[.int .i64 0, .int .i64 0, .int .i64 0] 31)))
  have HT := hidW (ht.below HB.out)
  have HX : Hid (Bl ((w.alloc (.cells #[.bool c.on, .bool c.tre, .bool c.afe, .int .i64 c.n, .bool c.pd0, .bool c.pd1, .int .u64 c.b0, .int .u64 c.b1, .int .u32 c.dacr, .int .u32 c.prrr, .int .u32 c.nmrr, .int .i64 c.asid] 25)).alloc (.cells #[.int .i64 0, .int .i64 0, .int .i64 0] 31)) w.heap.size 25 [.bool c.on, .bool c.tre, .bool c.afe, .int .i64 c.n, .bool c.pd0, .bool c.pd1, .int .u64 c.b0, .int .u64 c.b1, .int .u32 c.dacr, .int .u32 c.prrr, .int .u32 c.nmrr, .int .i64 c.asid]) := (Bl.new _ _ _).below (below_new _ _)
  have HR : Hid (Bl ((w.alloc (.cells #[.bool c.on, .bool c.tre, .bool c.afe, .int .i64 c.n, .bool c.pd0, .bool c.pd1, .int .u64 c.b0, .int .u64 c.b1, .int .u32 c.dacr, .int .u32 c.prrr, .int .u32 c.nmrr, .int .i64 c.asid] 25)).alloc (.cells #[.int .i64 0, .int .i64 0, .int .i64 0] 31)) (w.heap.size + 1) 31 [.int .i64 0, .int .i64 0, .int .i64 0]) := Bl.new1 _ _ _ _
  have hsz : ((w.alloc (.cells #[.bool c.on, .bool c.tre, .bool c.afe, .int .i64 c.n, .bool c.pd0, .bool c.pd1, .int .u64 c.b0, .int .u64 c.b1, .int .u32 c.dacr, .int .u32 c.prrr, .int .u32 c.nmrr, .int .i64 c.asid] 25)).alloc (.cells #[.int .i64 0, .int .i64 0, .int .i64 0] 31)).heap.size = w.heap.size + 1 + 1 := by simp
  have c0 := HX.out.cell
  clear ht
  go_enter Tryz.func11, Tryz.ntmps11
  go_wp2_with fail
  generalize hw0 : ((w.alloc (.cells #[.bool c.on, .bool c.tre, .bool c.afe, .int .i64 c.n, .bool c.pd0, .bool c.pd1, .int .u64 c.b0, .int .u64 c.b1, .int .u32 c.dacr, .int .u32 c.prrr, .int .u32 c.nmrr, .int .i64 c.asid] 25)).alloc (.cells #[.int .i64 0, .int .i64 0, .int .i64 0] 31)) = w0 at *
  clear hw0
  go_at_call 4
  refine HC.out.mono ?_
  rintro e v1 ⟨rfl, hb⟩
  have hb' := Below.step hb (Below.step (below_new v1 (.cells #[.int .i64 U.size, .int .u32 U.va, .int .u64 U.pa, .int .i64 U.dom, .int .i64 U.ap, .int .u32 U.bits, .bool U.ng, .bool U.xn] 29)) (below_new _ (.cells #[.int .i64 F.k, .int .i64 F.l, .int .i64 F.d] 31)))
  have HT1 := hidW (HT.out.below hb')
  have HX1 := hidW (HX.out.below hb')
  have HR1 := hidW (HR.out.below hb')
  have HB1 := hidW (Below.step HB.out hb')
  have hz := hb.size
  have HU : Hid (Bl ((v1.alloc (.cells #[.int .i64 U.size, .int .u32 U.va, .int .u64 U.pa, .int .i64 U.dom, .int .i64 U.ap, .int .u32 U.bits, .bool U.ng, .bool U.xn] 29)).alloc (.cells #[.int .i64 F.k, .int .i64 F.l, .int .i64 F.d] 31)) v1.heap.size 29 [.int .i64 U.size, .int .u32 U.va, .int .u64 U.pa, .int .i64 U.dom, .int .i64 U.ap, .int .u32 U.bits, .bool U.ng, .bool U.xn]) := (Bl.new _ _ _).below (below_new _ _)
  have HV : Hid (Bl ((v1.alloc (.cells #[.int .i64 U.size, .int .u32 U.va, .int .u64 U.pa, .int .i64 U.dom, .int .i64 U.ap, .int .u32 U.bits, .bool U.ng, .bool U.xn] 29)).alloc (.cells #[.int .i64 F.k, .int .i64 F.l, .int .i64 F.d] 31)) (v1.heap.size + 1) 31 [.int .i64 F.k, .int .i64 F.l, .int .i64 F.d]) := Bl.new1 _ _ _ _
  clear hb hb' HT HX HR HB HC c0
  have cU := HU.out.cell
  have cV := HV.out.cell
  have cX := HX1.out.cell
  have fV := HV.out.frozen
  have lV := HV.out.lt
  go_wp2_with fail
  generalize hx : w.heap.size = x at *
  generalize hww : (v1.alloc (.cells #[.int .i64 U.size, .int .u32 U.va, .int .u64 U.pa, .int .i64 U.dom, .int .i64 U.ap, .int .u32 U.bits, .bool U.ng, .bool U.xn] 29)).alloc (.cells #[.int .i64 F.k, .int .i64 F.l, .int .i64 F.d] 31) = w2 at *
  clear hww
  generalize hr : x + 1 = r at *
  generalize hy : v1.heap.size = y at *
  generalize hq : y + 1 = q at *
  have h1 : ¬ y = r := by omega
  have h2 : ¬ q = r := by omega
  have h3 : ¬ y = q := by omega
  have h4 : x ≤ q := by omega
  have h5 : x ≤ r := by omega
  clear hz hsz
  have HP0 : Hid (w2.drew.cell? ⟨q, 0, none⟩ = some (.int .i64 F.k)) := HV.out.drew.cell 0
  have HS0 : Hid (∀ v0 v1 v2, (((w2.setCell ⟨r, 0, none⟩ v0).setCell ⟨r, 1, none⟩ v1).setCell ⟨r, 2, none⟩ v2).drew.cell? ⟨q, 0, none⟩ = some (.int .i64 F.k)) := fun v0 v1 v2 => (Bl.keep3 HV.out h2 v0 v1 v2).drew.cell 0
  have HP1 : Hid (w2.drew.cell? ⟨q, 1, none⟩ = some (.int .i64 F.l)) := HV.out.drew.cell 1
  have HS1 : Hid (∀ v0 v1 v2, (((w2.setCell ⟨r, 0, none⟩ v0).setCell ⟨r, 1, none⟩ v1).setCell ⟨r, 2, none⟩ v2).drew.cell? ⟨q, 1, none⟩ = some (.int .i64 F.l)) := fun v0 v1 v2 => (Bl.keep3 HV.out h2 v0 v1 v2).drew.cell 1
  have HP2 : Hid (w2.drew.cell? ⟨q, 2, none⟩ = some (.int .i64 F.d)) := HV.out.drew.cell 2
  have HS2 : Hid (∀ v0 v1 v2, (((w2.setCell ⟨r, 0, none⟩ v0).setCell ⟨r, 1, none⟩ v1).setCell ⟨r, 2, none⟩ v2).drew.cell? ⟨q, 2, none⟩ = some (.int .i64 F.d)) := fun v0 v1 v2 => (Bl.keep3 HV.out h2 v0 v1 v2).drew.cell 2
  have cR := HR1.out.cell
  have fR := HR1.out.frozen
  have lR := HR1.out.lt
  go_region_held3 (fun w' => w'.cell? ⟨q, 0, none⟩ = some (.int .i64 F.k) ∧ w'.cell? ⟨q, 1, none⟩ = some (.int .i64 F.l) ∧ w'.cell? ⟨q, 2, none⟩ = some (.int .i64 F.d)) (first | (with_reducible exact ⟨HP0.out, HP1.out, HP2.out⟩) | (with_reducible exact ⟨HS0.out _ _ _, HS1.out _ _ _, HS2.out _ _ _⟩)) (first | fail)
  go_wp2
  refine bodyPost_ret (v := .tuple #[.int .u64 0, .agg #[.int .i64 F.k, .int .i64 F.l, .int .i64 F.d]]) (by simp [results, Tryz.results11, go_sem, cR, fR, lR]) rfl ⟨rfl, ?_⟩
  rw [hx]
  exact below_drew (Below.setCell (Below.setCell (Below.setCell HB1.out h5 _) h5 _) h5 _)
set_option maxRecDepth 100000 in
set_option maxHeartbeats 4000000 in
theorem go_bad2 (c : Ctx) (va : Int) (priv : Bool) (k : Int) (w : World) (iv : Value) (U : Tra) (F G : Fa) (hk : (F.k == 0) = true) (hg : (G.k == 0) = false) (hv : 0 ≤ va ∧ va < 4294967296) (ht : TC w)
    (HC : Hid (Calls Tryz.prog 4 #[iv, .agg #[.bool c.on, .bool c.tre, .bool c.afe, .int .i64 c.n, .bool c.pd0, .bool c.pd1, .int .u64 c.b0, .int .u64 c.b1, .int .u32 c.dacr, .int .u32 c.prrr, .int .u32 c.nmrr, .int .i64 c.asid], .int .u32 va] ((w.alloc (.cells #[.bool c.on, .bool c.tre, .bool c.afe, .int .i64 c.n, .bool c.pd0, .bool c.pd1, .int .u64 c.b0, .int .u64 c.b1, .int .u32 c.dacr, .int .u32 c.prrr, .int .u32 c.nmrr, .int .i64 c.asid] 25)).alloc (.cells #[.int .i64 0, .int .i64 0, .int .i64 0] 31)) fun e w' => e = .returned (.tuple #[.agg #[.int .i64 U.size, .int .u32 U.va, .int .u64 U.pa, .int .i64 U.dom, .int .i64 U.ap, .int .u32 U.bits, .bool U.ng, .bool U.xn], .agg #[.int .i64 F.k, .int .i64 F.l, .int .i64 F.d]]) ∧ Below ((w.alloc (.cells #[.bool c.on, .bool c.tre, .bool c.afe, .int .i64 c.n, .bool c.pd0, .bool c.pd1, .int .u64 c.b0, .int .u64 c.b1, .int .u32 c.dacr, .int .u32 c.prrr, .int .u32 c.nmrr, .int .i64 c.asid] 25)).alloc (.cells #[.int .i64 0, .int .i64 0, .int .i64 0] 31)).heap.size ((w.alloc (.cells #[.bool c.on, .bool c.tre, .bool c.afe, .int .i64 c.n, .bool c.pd0, .bool c.pd1, .int .u64 c.b0, .int .u64 c.b1, .int .u32 c.dacr, .int .u32 c.prrr, .int .u32 c.nmrr, .int .i64 c.asid] 25)).alloc (.cells #[.int .i64 0, .int .i64 0, .int .i64 0] 31)) w'))
    (HK : Hid (∀ w, TC w → Calls Tryz.prog 23 #[.agg #[.int .i64 U.size, .int .u32 U.va, .int .u64 U.pa, .int .i64 U.dom, .int .i64 U.ap, .int .u32 U.bits, .bool U.ng, .bool U.xn], .agg #[.bool c.on, .bool c.tre, .bool c.afe, .int .i64 c.n, .bool c.pd0, .bool c.pd1, .int .u64 c.b0, .int .u64 c.b1, .int .u32 c.dacr, .int .u32 c.prrr, .int .u32 c.nmrr, .int .i64 c.asid], .bool priv, .int .i64 k] w fun e w' => e = .returned (.agg #[.int .i64 G.k, .int .i64 G.l, .int .i64 G.d]) ∧ Below w.heap.size w w')) :
    Calls Tryz.prog 11 #[iv, .agg #[.bool c.on, .bool c.tre, .bool c.afe, .int .i64 c.n, .bool c.pd0, .bool c.pd1, .int .u64 c.b0, .int .u64 c.b1, .int .u32 c.dacr, .int .u32 c.prrr, .int .u32 c.nmrr, .int .i64 c.asid], .int .u32 va, .bool priv, .int .i64 k] w fun e w' => e = .returned (.tuple #[.int .u64 0, .agg #[.int .i64 G.k, .int .i64 G.l, .int .i64 G.d]]) ∧ Below w.heap.size w w' := by
  have HB := hidW (Below.step (below_new w (.cells #[.bool c.on, .bool c.tre, .bool c.afe, .int .i64 c.n, .bool c.pd0, .bool c.pd1, .int .u64 c.b0, .int .u64 c.b1, .int .u32 c.dacr, .int .u32 c.prrr, .int .u32 c.nmrr, .int .i64 c.asid] 25)) (below_new _ (.cells #[.int .i64 0, .int .i64 0, .int .i64 0] 31)))
  have HT := hidW (ht.below HB.out)
  have HX : Hid (Bl ((w.alloc (.cells #[.bool c.on, .bool c.tre, .bool c.afe, .int .i64 c.n, .bool c.pd0, .bool c.pd1, .int .u64 c.b0, .int .u64 c.b1, .int .u32 c.dacr, .int .u32 c.prrr, .int .u32 c.nmrr, .int .i64 c.asid] 25)).alloc (.cells #[.int .i64 0, .int .i64 0, .int .i64 0] 31)) w.heap.size 25 [.bool c.on, .bool c.tre, .bool c.afe, .int .i64 c.n, .bool c.pd0, .bool c.pd1, .int .u64 c.b0, .int .u64 c.b1, .int .u32 c.dacr, .int .u32 c.prrr, .int .u32 c.nmrr, .int .i64 c.asid]) := (Bl.new _ _ _).below (below_new _ _)
  have HR : Hid (Bl ((w.alloc (.cells #[.bool c.on, .bool c.tre, .bool c.afe, .int .i64 c.n, .bool c.pd0, .bool c.pd1, .int .u64 c.b0, .int .u64 c.b1, .int .u32 c.dacr, .int .u32 c.prrr, .int .u32 c.nmrr, .int .i64 c.asid] 25)).alloc (.cells #[.int .i64 0, .int .i64 0, .int .i64 0] 31)) (w.heap.size + 1) 31 [.int .i64 0, .int .i64 0, .int .i64 0]) := Bl.new1 _ _ _ _
  have hsz : ((w.alloc (.cells #[.bool c.on, .bool c.tre, .bool c.afe, .int .i64 c.n, .bool c.pd0, .bool c.pd1, .int .u64 c.b0, .int .u64 c.b1, .int .u32 c.dacr, .int .u32 c.prrr, .int .u32 c.nmrr, .int .i64 c.asid] 25)).alloc (.cells #[.int .i64 0, .int .i64 0, .int .i64 0] 31)).heap.size = w.heap.size + 1 + 1 := by simp
  have c0 := HX.out.cell
  clear ht
  go_enter Tryz.func11, Tryz.ntmps11
  go_wp2_with fail
  generalize hw0 : ((w.alloc (.cells #[.bool c.on, .bool c.tre, .bool c.afe, .int .i64 c.n, .bool c.pd0, .bool c.pd1, .int .u64 c.b0, .int .u64 c.b1, .int .u32 c.dacr, .int .u32 c.prrr, .int .u32 c.nmrr, .int .i64 c.asid] 25)).alloc (.cells #[.int .i64 0, .int .i64 0, .int .i64 0] 31)) = w0 at *
  clear hw0
  go_at_call 4
  refine HC.out.mono ?_
  rintro e v1 ⟨rfl, hb⟩
  have hb' := Below.step hb (Below.step (below_new v1 (.cells #[.int .i64 U.size, .int .u32 U.va, .int .u64 U.pa, .int .i64 U.dom, .int .i64 U.ap, .int .u32 U.bits, .bool U.ng, .bool U.xn] 29)) (below_new _ (.cells #[.int .i64 F.k, .int .i64 F.l, .int .i64 F.d] 31)))
  have HT1 := hidW (HT.out.below hb')
  have HX1 := hidW (HX.out.below hb')
  have HR1 := hidW (HR.out.below hb')
  have HB1 := hidW (Below.step HB.out hb')
  have hz := hb.size
  have HU : Hid (Bl ((v1.alloc (.cells #[.int .i64 U.size, .int .u32 U.va, .int .u64 U.pa, .int .i64 U.dom, .int .i64 U.ap, .int .u32 U.bits, .bool U.ng, .bool U.xn] 29)).alloc (.cells #[.int .i64 F.k, .int .i64 F.l, .int .i64 F.d] 31)) v1.heap.size 29 [.int .i64 U.size, .int .u32 U.va, .int .u64 U.pa, .int .i64 U.dom, .int .i64 U.ap, .int .u32 U.bits, .bool U.ng, .bool U.xn]) := (Bl.new _ _ _).below (below_new _ _)
  have HV : Hid (Bl ((v1.alloc (.cells #[.int .i64 U.size, .int .u32 U.va, .int .u64 U.pa, .int .i64 U.dom, .int .i64 U.ap, .int .u32 U.bits, .bool U.ng, .bool U.xn] 29)).alloc (.cells #[.int .i64 F.k, .int .i64 F.l, .int .i64 F.d] 31)) (v1.heap.size + 1) 31 [.int .i64 F.k, .int .i64 F.l, .int .i64 F.d]) := Bl.new1 _ _ _ _
  clear hb hb' HT HX HR HB HC c0
  have cU := HU.out.cell
  have cV := HV.out.cell
  have cX := HX1.out.cell
  go_wp2_with fail
  generalize hx : w.heap.size = x at *
  generalize hww : (v1.alloc (.cells #[.int .i64 U.size, .int .u32 U.va, .int .u64 U.pa, .int .i64 U.dom, .int .i64 U.ap, .int .u32 U.bits, .bool U.ng, .bool U.xn] 29)).alloc (.cells #[.int .i64 F.k, .int .i64 F.l, .int .i64 F.d] 31) = w1 at *
  clear hww
  generalize hr : x + 1 = r at *
  generalize hy : v1.heap.size = y at *
  generalize hq : y + 1 = q at *
  have h1 : ¬ y = r := by omega
  have h2 : ¬ q = r := by omega
  have h3 : ¬ y = q := by omega
  have h4 : x ≤ q := by omega
  have h5 : x ≤ r := by omega
  clear hz hsz
  go_at_call 23
  refine (HK.out _ HT1.out).mono ?_
  rintro e w3 ⟨rfl, hb⟩
  have HT := hidW (HT1.out.below hb)
  have HR2 := hidW (HR1.out.below hb)
  have HB2 := hidW (below_at hx HB1.out hb)
  have HU2 := hidW (HU.out.below hb)
  have HV2 := hidW (HV.out.below hb)
  clear hb HT1 HX1 HR1 HB1 HU HV HK cU cV cX
  have cU := HU2.out.cell
  have cV := HV2.out.cell
  have fV := HV2.out.frozen
  have lV := HV2.out.lt
  have hqr := (fun e => h2 e.symm : ¬ r = q)
  have hqy := (fun e => h3 e.symm : ¬ q = y)
  go_wp2_with fail
  have HV := hidW (HV2.out.set3 (.int .i64 G.k) (.int .i64 G.l) (.int .i64 G.d))
  have HR1 := hidW (HR2.out.keep3 hqr (.int .i64 G.k) (.int .i64 G.l) (.int .i64 G.d))
  have HB1 : Hid (Below x w (((w3.setCell ⟨q, 0, none⟩ (.int .i64 G.k)).setCell ⟨q, 1, none⟩ (.int .i64 G.l)).setCell ⟨q, 2, none⟩ (.int .i64 G.d))) := Below.setCell (Below.setCell (Below.setCell HB2.out h4 _) h4 _) h4 _
  clear cU cV fV lV HU2 HV2 HR2 HB2
  generalize ((w3.setCell ⟨q, 0, none⟩ (.int .i64 G.k)).setCell ⟨q, 1, none⟩ (.int .i64 G.l)).setCell ⟨q, 2, none⟩ (.int .i64 G.d) = w2 at *
  have HP0 : Hid (w2.drew.cell? ⟨q, 0, none⟩ = some (.int .i64 G.k)) := HV.out.drew.cell 0
  have HS0 : Hid (∀ v0 v1 v2, (((w2.setCell ⟨r, 0, none⟩ v0).setCell ⟨r, 1, none⟩ v1).setCell ⟨r, 2, none⟩ v2).drew.cell? ⟨q, 0, none⟩ = some (.int .i64 G.k)) := fun v0 v1 v2 => (Bl.keep3 HV.out h2 v0 v1 v2).drew.cell 0
  have HP1 : Hid (w2.drew.cell? ⟨q, 1, none⟩ = some (.int .i64 G.l)) := HV.out.drew.cell 1
  have HS1 : Hid (∀ v0 v1 v2, (((w2.setCell ⟨r, 0, none⟩ v0).setCell ⟨r, 1, none⟩ v1).setCell ⟨r, 2, none⟩ v2).drew.cell? ⟨q, 1, none⟩ = some (.int .i64 G.l)) := fun v0 v1 v2 => (Bl.keep3 HV.out h2 v0 v1 v2).drew.cell 1
  have HP2 : Hid (w2.drew.cell? ⟨q, 2, none⟩ = some (.int .i64 G.d)) := HV.out.drew.cell 2
  have HS2 : Hid (∀ v0 v1 v2, (((w2.setCell ⟨r, 0, none⟩ v0).setCell ⟨r, 1, none⟩ v1).setCell ⟨r, 2, none⟩ v2).drew.cell? ⟨q, 2, none⟩ = some (.int .i64 G.d)) := fun v0 v1 v2 => (Bl.keep3 HV.out h2 v0 v1 v2).drew.cell 2
  have cR := HR1.out.cell
  have fR := HR1.out.frozen
  have lR := HR1.out.lt
  go_region_held3 (fun w' => w'.cell? ⟨q, 0, none⟩ = some (.int .i64 G.k) ∧ w'.cell? ⟨q, 1, none⟩ = some (.int .i64 G.l) ∧ w'.cell? ⟨q, 2, none⟩ = some (.int .i64 G.d)) (first | (with_reducible exact ⟨HP0.out, HP1.out, HP2.out⟩) | (with_reducible exact ⟨HS0.out _ _ _, HS1.out _ _ _, HS2.out _ _ _⟩)) (first | fail)
  go_wp2
  refine bodyPost_ret (v := .tuple #[.int .u64 0, .agg #[.int .i64 G.k, .int .i64 G.l, .int .i64 G.d]]) (by simp [results, Tryz.results11, go_sem, cR, fR, lR]) rfl ⟨rfl, ?_⟩
  rw [hx]
  exact below_drew (Below.setCell (Below.setCell (Below.setCell HB1.out h5 _) h5 _) h5 _)
set_option maxRecDepth 100000 in
set_option maxHeartbeats 4000000 in
theorem go_fine (c : Ctx) (va : Int) (priv : Bool) (k : Int) (w : World) (iv : Value) (U : Tra) (F G : Fa) (hk : (F.k == 0) = true) (hg : (G.k == 0) = true) (hm : IntKind.u32.wrap (va - U.va) = va - U.va) (hu : IntKind.u64.wrap (va - U.va) = va - U.va) (ha : IntKind.u64.wrap (U.pa + (va - U.va)) = U.pa + (va - U.va)) (hv : 0 ≤ va ∧ va < 4294967296) (ht : TC w)
    (HC : Hid (Calls Tryz.prog 4 #[iv, .agg #[.bool c.on, .bool c.tre, .bool c.afe, .int .i64 c.n, .bool c.pd0, .bool c.pd1, .int .u64 c.b0, .int .u64 c.b1, .int .u32 c.dacr, .int .u32 c.prrr, .int .u32 c.nmrr, .int .i64 c.asid], .int .u32 va] ((w.alloc (.cells #[.bool c.on, .bool c.tre, .bool c.afe, .int .i64 c.n, .bool c.pd0, .bool c.pd1, .int .u64 c.b0, .int .u64 c.b1, .int .u32 c.dacr, .int .u32 c.prrr, .int .u32 c.nmrr, .int .i64 c.asid] 25)).alloc (.cells #[.int .i64 0, .int .i64 0, .int .i64 0] 31)) fun e w' => e = .returned (.tuple #[.agg #[.int .i64 U.size, .int .u32 U.va, .int .u64 U.pa, .int .i64 U.dom, .int .i64 U.ap, .int .u32 U.bits, .bool U.ng, .bool U.xn], .agg #[.int .i64 F.k, .int .i64 F.l, .int .i64 F.d]]) ∧ Below ((w.alloc (.cells #[.bool c.on, .bool c.tre, .bool c.afe, .int .i64 c.n, .bool c.pd0, .bool c.pd1, .int .u64 c.b0, .int .u64 c.b1, .int .u32 c.dacr, .int .u32 c.prrr, .int .u32 c.nmrr, .int .i64 c.asid] 25)).alloc (.cells #[.int .i64 0, .int .i64 0, .int .i64 0] 31)).heap.size ((w.alloc (.cells #[.bool c.on, .bool c.tre, .bool c.afe, .int .i64 c.n, .bool c.pd0, .bool c.pd1, .int .u64 c.b0, .int .u64 c.b1, .int .u32 c.dacr, .int .u32 c.prrr, .int .u32 c.nmrr, .int .i64 c.asid] 25)).alloc (.cells #[.int .i64 0, .int .i64 0, .int .i64 0] 31)) w'))
    (HK : Hid (∀ w, TC w → Calls Tryz.prog 23 #[.agg #[.int .i64 U.size, .int .u32 U.va, .int .u64 U.pa, .int .i64 U.dom, .int .i64 U.ap, .int .u32 U.bits, .bool U.ng, .bool U.xn], .agg #[.bool c.on, .bool c.tre, .bool c.afe, .int .i64 c.n, .bool c.pd0, .bool c.pd1, .int .u64 c.b0, .int .u64 c.b1, .int .u32 c.dacr, .int .u32 c.prrr, .int .u32 c.nmrr, .int .i64 c.asid], .bool priv, .int .i64 k] w fun e w' => e = .returned (.agg #[.int .i64 G.k, .int .i64 G.l, .int .i64 G.d]) ∧ Below w.heap.size w w')) :
    Calls Tryz.prog 11 #[iv, .agg #[.bool c.on, .bool c.tre, .bool c.afe, .int .i64 c.n, .bool c.pd0, .bool c.pd1, .int .u64 c.b0, .int .u64 c.b1, .int .u32 c.dacr, .int .u32 c.prrr, .int .u32 c.nmrr, .int .i64 c.asid], .int .u32 va, .bool priv, .int .i64 k] w fun e w' => e = .returned (.tuple #[.int .u64 (U.pa + (va - U.va)), .agg #[.int .i64 fZ.k, .int .i64 fZ.l, .int .i64 fZ.d]]) ∧ Below w.heap.size w w' := by
  have HB := hidW (Below.step (below_new w (.cells #[.bool c.on, .bool c.tre, .bool c.afe, .int .i64 c.n, .bool c.pd0, .bool c.pd1, .int .u64 c.b0, .int .u64 c.b1, .int .u32 c.dacr, .int .u32 c.prrr, .int .u32 c.nmrr, .int .i64 c.asid] 25)) (below_new _ (.cells #[.int .i64 0, .int .i64 0, .int .i64 0] 31)))
  have HT := hidW (ht.below HB.out)
  have HX : Hid (Bl ((w.alloc (.cells #[.bool c.on, .bool c.tre, .bool c.afe, .int .i64 c.n, .bool c.pd0, .bool c.pd1, .int .u64 c.b0, .int .u64 c.b1, .int .u32 c.dacr, .int .u32 c.prrr, .int .u32 c.nmrr, .int .i64 c.asid] 25)).alloc (.cells #[.int .i64 0, .int .i64 0, .int .i64 0] 31)) w.heap.size 25 [.bool c.on, .bool c.tre, .bool c.afe, .int .i64 c.n, .bool c.pd0, .bool c.pd1, .int .u64 c.b0, .int .u64 c.b1, .int .u32 c.dacr, .int .u32 c.prrr, .int .u32 c.nmrr, .int .i64 c.asid]) := (Bl.new _ _ _).below (below_new _ _)
  have HR : Hid (Bl ((w.alloc (.cells #[.bool c.on, .bool c.tre, .bool c.afe, .int .i64 c.n, .bool c.pd0, .bool c.pd1, .int .u64 c.b0, .int .u64 c.b1, .int .u32 c.dacr, .int .u32 c.prrr, .int .u32 c.nmrr, .int .i64 c.asid] 25)).alloc (.cells #[.int .i64 0, .int .i64 0, .int .i64 0] 31)) (w.heap.size + 1) 31 [.int .i64 0, .int .i64 0, .int .i64 0]) := Bl.new1 _ _ _ _
  have hsz : ((w.alloc (.cells #[.bool c.on, .bool c.tre, .bool c.afe, .int .i64 c.n, .bool c.pd0, .bool c.pd1, .int .u64 c.b0, .int .u64 c.b1, .int .u32 c.dacr, .int .u32 c.prrr, .int .u32 c.nmrr, .int .i64 c.asid] 25)).alloc (.cells #[.int .i64 0, .int .i64 0, .int .i64 0] 31)).heap.size = w.heap.size + 1 + 1 := by simp
  have c0 := HX.out.cell
  clear ht
  go_enter Tryz.func11, Tryz.ntmps11
  go_wp2_with fail
  generalize hw0 : ((w.alloc (.cells #[.bool c.on, .bool c.tre, .bool c.afe, .int .i64 c.n, .bool c.pd0, .bool c.pd1, .int .u64 c.b0, .int .u64 c.b1, .int .u32 c.dacr, .int .u32 c.prrr, .int .u32 c.nmrr, .int .i64 c.asid] 25)).alloc (.cells #[.int .i64 0, .int .i64 0, .int .i64 0] 31)) = w0 at *
  clear hw0
  go_at_call 4
  refine HC.out.mono ?_
  rintro e v1 ⟨rfl, hb⟩
  have hb' := Below.step hb (Below.step (below_new v1 (.cells #[.int .i64 U.size, .int .u32 U.va, .int .u64 U.pa, .int .i64 U.dom, .int .i64 U.ap, .int .u32 U.bits, .bool U.ng, .bool U.xn] 29)) (below_new _ (.cells #[.int .i64 F.k, .int .i64 F.l, .int .i64 F.d] 31)))
  have HT1 := hidW (HT.out.below hb')
  have HX1 := hidW (HX.out.below hb')
  have HR1 := hidW (HR.out.below hb')
  have HB1 := hidW (Below.step HB.out hb')
  have hz := hb.size
  have HU : Hid (Bl ((v1.alloc (.cells #[.int .i64 U.size, .int .u32 U.va, .int .u64 U.pa, .int .i64 U.dom, .int .i64 U.ap, .int .u32 U.bits, .bool U.ng, .bool U.xn] 29)).alloc (.cells #[.int .i64 F.k, .int .i64 F.l, .int .i64 F.d] 31)) v1.heap.size 29 [.int .i64 U.size, .int .u32 U.va, .int .u64 U.pa, .int .i64 U.dom, .int .i64 U.ap, .int .u32 U.bits, .bool U.ng, .bool U.xn]) := (Bl.new _ _ _).below (below_new _ _)
  have HV : Hid (Bl ((v1.alloc (.cells #[.int .i64 U.size, .int .u32 U.va, .int .u64 U.pa, .int .i64 U.dom, .int .i64 U.ap, .int .u32 U.bits, .bool U.ng, .bool U.xn] 29)).alloc (.cells #[.int .i64 F.k, .int .i64 F.l, .int .i64 F.d] 31)) (v1.heap.size + 1) 31 [.int .i64 F.k, .int .i64 F.l, .int .i64 F.d]) := Bl.new1 _ _ _ _
  clear hb hb' HT HX HR HB HC c0
  have cU := HU.out.cell
  have cV := HV.out.cell
  have cX := HX1.out.cell
  go_wp2_with fail
  generalize hx : w.heap.size = x at *
  generalize hww : (v1.alloc (.cells #[.int .i64 U.size, .int .u32 U.va, .int .u64 U.pa, .int .i64 U.dom, .int .i64 U.ap, .int .u32 U.bits, .bool U.ng, .bool U.xn] 29)).alloc (.cells #[.int .i64 F.k, .int .i64 F.l, .int .i64 F.d] 31) = w1 at *
  clear hww
  generalize hr : x + 1 = r at *
  generalize hy : v1.heap.size = y at *
  generalize hq : y + 1 = q at *
  have h1 : ¬ y = r := by omega
  have h2 : ¬ q = r := by omega
  have h3 : ¬ y = q := by omega
  have h4 : x ≤ q := by omega
  have h5 : x ≤ r := by omega
  clear hz hsz
  go_at_call 23
  refine (HK.out _ HT1.out).mono ?_
  rintro e w3 ⟨rfl, hb⟩
  have HT := hidW (HT1.out.below hb)
  have HR2 := hidW (HR1.out.below hb)
  have HB2 := hidW (below_at hx HB1.out hb)
  have HU2 := hidW (HU.out.below hb)
  have HV2 := hidW (HV.out.below hb)
  clear hb HT1 HX1 HR1 HB1 HU HV HK cU cV cX
  have cU := HU2.out.cell
  have cV := HV2.out.cell
  have fV := HV2.out.frozen
  have lV := HV2.out.lt
  have hqr := (fun e => h2 e.symm : ¬ r = q)
  have hqy := (fun e => h3 e.symm : ¬ q = y)
  have HV := hidW (HV2.out.set3 (.int .i64 G.k) (.int .i64 G.l) (.int .i64 G.d))
  have HR1 := hidW (HR2.out.keep3 hqr (.int .i64 G.k) (.int .i64 G.l) (.int .i64 G.d))
  have cR := HR2.out.cell
  have fR := HR2.out.frozen
  have lR := HR2.out.lt
  have cR1 := HR1.out.cell
  have fR1 := HR1.out.frozen
  have lR1 := HR1.out.lt
  go_wp2
  refine bodyPost_ret (v := .tuple #[.int .u64 (U.pa + (va - U.va)), .agg #[.int .i64 fZ.k, .int .i64 fZ.l, .int .i64 fZ.d]]) (by simp [results, Tryz.results11, go_sem, fZ, cR, fR, lR, cR1, fR1, lR1]) rfl ⟨rfl, ?_⟩
  rw [hx]
  exact Below.setCell (Below.setCell (Below.setCell (Below.setCell (Below.setCell (Below.setCell HB2.out h4 _) h4 _) h4 _) h5 _) h5 _) h5 _
theorem go_any (c : Ctx) (va : Int) (priv : Bool) (k : Int) (w : World) {S : Nat → Prop} {iv : Value} {M : Mo} (h : MemP w S iv M) (ht : TC w) (hc : c.Ok) (hv : 0 ≤ va ∧ va < 4294967296) :
    Calls Tryz.prog 11 #[iv, .agg #[.bool c.on, .bool c.tre, .bool c.afe, .int .i64 c.n, .bool c.pd0, .bool c.pd1, .int .u64 c.b0, .int .u64 c.b1, .int .u32 c.dacr, .int .u32 c.prrr, .int .u32 c.nmrr, .int .i64 c.asid], .int .u32 va, .bool priv, .int .i64 k] w fun e w' => e = .returned (.tuple #[.int .u64 (goF M c va priv k).1, .agg #[.int .i64 ((goF M c va priv k).2).k, .int .i64 ((goF M c va priv k).2).l, .int .i64 ((goF M c va priv k).2).d]]) ∧ Below w.heap.size w w' := by
  have b0 : Below w.heap.size w ((w.alloc (.cells #[.bool c.on, .bool c.tre, .bool c.afe, .int .i64 c.n, .bool c.pd0, .bool c.pd1, .int .u64 c.b0, .int .u64 c.b1, .int .u32 c.dacr, .int .u32 c.prrr, .int .u32 c.nmrr, .int .i64 c.asid] 25)).alloc (.cells #[.int .i64 0, .int .i64 0, .int .i64 0] 31)) := Below.step (below_new _ _) (below_new _ _)
  have HC := hidW (walk_pure c va _ (h.below b0) (ht.tw.below b0) hc hv)
  have HF : (wk M c va).2.k = 0 → (wk M c va).2 = fZ ∧ Fnd (wk M c va).1 va := fun hk => by
    obtain ⟨h1, h2, _⟩ := found h.ok hc hv rfl hk
    exact ⟨h1, h2⟩
  unfold goF
  generalize wk M c va = R at *
  obtain ⟨U, F⟩ := R
  dsimp only at HF ⊢
  by_cases hk : F.k = 0
  · obtain ⟨hF, hf⟩ := HF hk
    have HK := hidW (fun w (hw : TC w) => check_any U c priv k w hw (hf.ft hv) hc.dacr)
    have hrg := hf.rng hv
    have hpa := hf.pa
    rw [if_pos hk]
    by_cases hg : (chF U c priv k).k = 0
    · rw [if_pos hg]
      exact go_fine c va priv k w iv U F (chF U c priv k) (by simp [hk]) (by simp [hg]) (by rw [IntKind.wrap_u32]; omega) (by rw [IntKind.wrap_u64]; omega) (by rw [IntKind.wrap_u64]; omega) hv ht HC HK
    · rw [if_neg hg]
      exact go_bad2 c va priv k w iv U F (chF U c priv k) (by simp [hk]) (by simpa using hg) hv ht HC HK
  · rw [if_neg hk]
    exact go_bad1 c va priv k w iv U F (by simpa using hk) hv ht HC
end Go.Proofs.YtmodcbdgnmjkoabGreatDoor
namespace Go.Proofs.YtmodcbdgnmjkoabGreatDoor
open Go.RowKit
set_option linter.unusedVariables false
set_option linter.unusedSimpArgs false
/-- What the reference says of rights in letters. -/
def canS (r s : Bool) : ByteArray := if s then ⟨#[114, 119]⟩ else if r then ⟨#[114]⟩ else ⟨#[]⟩
set_option maxRecDepth 100000 in
set_option maxHeartbeats 8000000 in
theorem can_any (ap : Nat) (afe priv : Bool) (w : World) (h : ap < 8) :
    Calls Tryz.prog 73 #[.int .i64 ap, .bool afe, .bool priv] w fun e w' => e = .returned (.string (canS (maR ap afe priv) (maW ap afe priv))) ∧ w = w' := by
  rcases (show ap = 0 ∨ ap = 1 ∨ ap = 2 ∨ ap = 3 ∨ ap = 4 ∨ ap = 5 ∨ ap = 6 ∨ ap = 7 by omega) with rfl | rfl | rfl | rfl | rfl | rfl | rfl | rfl <;> cases afe <;> cases priv
  all_goals
    go_enter Tryz.func73, Tryz.ntmps73
    go_wp2
    go_ret
    exact ⟨rfl, rfl⟩
theorem may_le (ap : Nat) (afe priv : Bool) (h : ap < 8) (hs : maW ap afe priv = true) : maR ap afe priv = true := by
  rcases (show ap = 0 ∨ ap = 1 ∨ ap = 2 ∨ ap = 3 ∨ ap = 4 ∨ ap = 5 ∨ ap = 6 ∨ ap = 7 by omega) with rfl | rfl | rfl | rfl | rfl | rfl | rfl | rfl <;> cases afe <;> cases priv <;> first | rfl | exact absurd hs (by decide)
set_option maxRecDepth 100000 in
set_option maxHeartbeats 1000000 in
theorem rallows_no (ap bt : Int) (ng xn afe priv : Bool) (k : Int) (w : World) (h : ¬ (0 ≤ ap ∧ ap < 8)) :
    Calls Tryz.prog 47 #[.agg #[.int .i64 ap, .int .u32 bt, .bool ng, .bool xn], .bool afe, .bool priv, .int .i64 k] w fun e w' => e = .returned (.bool false) ∧ Below w.heap.size w w' := by
  have HN : Hid (∀ o, Below w.heap.size w (w.alloc o)) := below_new w
  by_cases h1 : ap < 0
  · have q1 : decide (ap < 0) = true := by simp [h1]
    clear h
    go_enter Tryz.func47, Tryz.ntmps47
    go_wp2
    go_ret
    exact ⟨rfl, HN.out _⟩
  · have q1 : decide (ap < 0) = false := by simp; omega
    have q2 : decide (7 < ap) = true := by simp; omega
    clear h
    go_enter Tryz.func47, Tryz.ntmps47
    go_wp2
    go_ret
    exact ⟨rfl, HN.out _⟩
set_option maxRecDepth 100000 in
set_option maxHeartbeats 4000000 in
theorem rallows_yes (ap bt : Int) (ng xn afe priv r s : Bool) (hrs : s = true → r = true) (k : Int) (w : World) (h1 : 0 ≤ ap) (h2 : ap < 8)
    (HA : ∀ w, Calls Tryz.prog 73 #[.int .i64 ap, .bool afe, .bool priv] w fun e w' => e = .returned (.string (canS r s)) ∧ w = w') :
    Calls Tryz.prog 47 #[.agg #[.int .i64 ap, .int .u32 bt, .bool ng, .bool xn], .bool afe, .bool priv, .int .i64 k] w fun e w' => e = .returned (.bool (if k = 1 then r && !xn else if k = 2 then r else if k = 3 then s else false)) ∧ Below w.heap.size w w' := by
  have q1 : decide (ap < 0) = false := by simp; omega
  have q2 : decide (7 < ap) = false := by simp; omega
  have HN : Hid (∀ o, Below w.heap.size w (w.alloc o)) := below_new w
  have HA' : Hid (∀ w, Calls Tryz.prog 73 #[.int .i64 ap, .bool afe, .bool priv] w fun e w' => e = .returned (.string (canS r s)) ∧ w = w') := HA
  have ek : (k = 1 ∨ k = 2 ∨ k = 3 ∨ (¬ (k = 1) ∧ ¬ (k = 2) ∧ ¬ (k = 3))) := by omega
  clear HA h1 h2
  cases r <;> cases s
  case false.true => exact absurd (hrs rfl) (by decide)
  all_goals
    simp only [canS, if_pos, if_neg, Bool.false_eq_true, if_false] at HA'
    rcases ek with rfl | rfl | rfl | ⟨k1, k2, k3⟩
    · go_enter Tryz.func47, Tryz.ntmps47
      go_wp2_with (first | (go_at_call 73; refine (HA'.out _).mono ?_; rintro e w' ⟨rfl, rfl⟩) | go_in)
      go_ret
      exact ⟨by simp, HN.out _⟩
    · go_enter Tryz.func47, Tryz.ntmps47
      go_wp2_with (first | (go_at_call 73; refine (HA'.out _).mono ?_; rintro e w' ⟨rfl, rfl⟩) | go_in)
      go_ret
      exact ⟨by simp, HN.out _⟩
    · go_enter Tryz.func47, Tryz.ntmps47
      go_wp2_with (first | (go_at_call 73; refine (HA'.out _).mono ?_; rintro e w' ⟨rfl, rfl⟩) | go_in)
      go_ret
      exact ⟨by simp, HN.out _⟩
    · have z1 : (k == 1) = false := by simp [k1]
      have z2 : (k == 2) = false := by simp [k2]
      have z3 : (k == 3) = false := by simp [k3]
      go_enter Tryz.func47, Tryz.ntmps47
      go_wp2_with (first | (go_at_call 73; refine (HA'.out _).mono ?_; rintro e w' ⟨rfl, rfl⟩) | go_in)
      go_ret
      exact ⟨by simp [k1, k2, k3], HN.out _⟩
theorem rallows_any (ap bt : Int) (ng xn afe priv : Bool) (k : Int) (w : World) :
    Calls Tryz.prog 47 #[.agg #[.int .i64 ap, .int .u32 bt, .bool ng, .bool xn], .bool afe, .bool priv, .int .i64 k] w fun e w' => e = .returned (.bool (alF ap xn afe priv k)) ∧ Below w.heap.size w w' := by
  unfold alF
  by_cases h : 0 ≤ ap ∧ ap < 8
  · rw [if_pos h]
    obtain ⟨n, rfl⟩ := Int.eq_ofNat_of_zero_le h.1
    exact rallows_yes n bt ng xn afe priv _ _ (may_le n afe priv (by omega)) k w h.1 h.2 (fun w => can_any n afe priv w (by omega))
  · rw [if_neg h]
    exact rallows_no ap bt ng xn afe priv k w h
end Go.Proofs.YtmodcbdgnmjkoabGreatDoor
namespace Go.Proofs.YtmodcbdgnmjkoabGreatDoor
open Go.RowKit
set_option linter.unusedVariables false
set_option linter.unusedSimpArgs false

set_option maxRecDepth 100000 in
theorem rplace_24_32 (b : Int) (w : World) (hb : 0 ≤ b) : Calls Tryz.prog 71 #[.int .u64 b, .int .i64 24, .int .i64 32] w fun e w' => e = .returned (.bool (decide (b % 16777216 = 0) && decide (b < 4294967296))) ∧ w = w' := by
  have hp1 := fun w => power_lit2 24 16777216 w (by decide) (by decide) 24 rfl
  have hp2 := fun w => power_lit2 32 4294967296 w (by decide) (by decide) 32 rfl
  have ht : b.tmod 16777216 = b % 16777216 := Int.tmod_eq_emod_of_nonneg hb
  by_cases h : b % 16777216 = 0
  · have q : (b % 16777216 == 0) = true := by simp [h]
    go_enter Tryz.func71, Tryz.ntmps71
    go_wp2_with (first
      | (go_at_call_of 56 (Value.int IntKind.i64 24); refine (hp1 _).mono ?_; rintro e w' ⟨rfl, rfl⟩)
      | (go_at_call_of 56 (Value.int IntKind.i64 32); refine (hp2 _).mono ?_; rintro e w' ⟨rfl, rfl⟩)
      | go_in)
    go_ret
    exact ⟨by simp [h], rfl⟩
  · have q : (b % 16777216 == 0) = false := by simp [h]
    go_enter Tryz.func71, Tryz.ntmps71
    go_wp2_with (first
      | (go_at_call_of 56 (Value.int IntKind.i64 24); refine (hp1 _).mono ?_; rintro e w' ⟨rfl, rfl⟩)
      | (go_at_call_of 56 (Value.int IntKind.i64 32); refine (hp2 _).mono ?_; rintro e w' ⟨rfl, rfl⟩)
      | go_in)
    go_ret
    exact ⟨by simp [h], rfl⟩
end Go.Proofs.YtmodcbdgnmjkoabGreatDoor
namespace Go.Proofs.YtmodcbdgnmjkoabGreatDoor
open Go.RowKit
set_option linter.unusedVariables false
set_option linter.unusedSimpArgs false

set_option maxRecDepth 100000 in
set_option maxHeartbeats 8000000 in
theorem rright_1 (t2 t3 t4 t5 t6 : Int) (t7 t8 : Bool) (W : World) (P L a b Q z : Bool) (hw : t2 % 18446744073709551616 = t2) (ha : decide (t4 < 0) = a) (hb : decide (15 < t4) = b) (hz : (t4 == 0) = z)
    (HS : ∀ w, Calls Tryz.prog 70 #[.int .i64 1] w fun e w' => e = .returned (.int .i64 12) ∧ w = w')
    (HV : ∀ w, Calls Tryz.prog 71 #[.int .u64 t2, .int .i64 12, .int .i64 32] w fun e w' => e = .returned (.bool P) ∧ w = w')
    (HQ : ∀ w, Calls Tryz.prog 71 #[.int .u64 t3, .int .i64 12, .int .i64 32] w fun e w' => e = .returned (.bool Q) ∧ w = w')
    (HL : ∀ w, Calls Tryz.prog 72 #[.agg #[.int .i64 t5, .int .u32 t6, .bool t7, .bool t8]] w fun e w' => e = .returned (.bool L) ∧ Below w.heap.size w w') :
    Calls Tryz.prog 45 #[.agg #[.int .i64 1, .int .u32 t2, .int .u64 t3, .int .i64 t4, .int .i64 t5, .int .u32 t6, .bool t7, .bool t8]] W fun r w' => r = .returned (.bool (if P && (L && (!a && !b)) then Q else false)) ∧ Below W.heap.size W w' := by
  have hN := Bl.new W 29 [.int .i64 1, .int .u32 t2, .int .u64 t3, .int .i64 t4, .int .i64 t5, .int .u32 t6, .bool t7, .bool t8]
  have HB0 : Hid (∀ o, Below W.heap.size W (W.alloc o)) := fun o => ((Below.refl _ _).alloc (Nat.le_refl _) o)
  cases P <;> cases L <;> cases a <;> cases b
  all_goals
    go_enter Tryz.func45, Tryz.ntmps45
    go_wp2_with (first
      | (go_at_call 70; refine (HS _).mono ?_; rintro e w' ⟨rfl, rfl⟩)
      | (go_at_call_of 71 (Value.int IntKind.u64 t2); refine (HV _).mono ?_; rintro e w' ⟨rfl, rfl⟩)
      | (go_at_call_of 71 (Value.int IntKind.u64 t3); refine (HQ _).mono ?_; rintro e w' ⟨rfl, rfl⟩)
      | (go_at_call 72; refine (HL _).mono ?_; rintro e w2 ⟨rfl, hbb⟩; have hx2 := hN.below hbb; have HBL : Hid (Below W.heap.size W w2) := Below.one hbb; clear hbb hN; have hc := hx2.cell)
      | go_in)
    go_ret
    exact ⟨rfl, (by first | exact HBL.out | exact HB0.out _)⟩
end Go.Proofs.YtmodcbdgnmjkoabGreatDoor
namespace Go.Proofs.YtmodcbdgnmjkoabGreatDoor
open Go.RowKit
set_option linter.unusedVariables false
set_option linter.unusedSimpArgs false

set_option maxRecDepth 100000 in
set_option maxHeartbeats 8000000 in
theorem rright_2 (t2 t3 t4 t5 t6 : Int) (t7 t8 : Bool) (W : World) (P L a b Q z : Bool) (hw : t2 % 18446744073709551616 = t2) (ha : decide (t4 < 0) = a) (hb : decide (15 < t4) = b) (hz : (t4 == 0) = z)
    (HS : ∀ w, Calls Tryz.prog 70 #[.int .i64 2] w fun e w' => e = .returned (.int .i64 16) ∧ w = w')
    (HV : ∀ w, Calls Tryz.prog 71 #[.int .u64 t2, .int .i64 16, .int .i64 32] w fun e w' => e = .returned (.bool P) ∧ w = w')
    (HQ : ∀ w, Calls Tryz.prog 71 #[.int .u64 t3, .int .i64 16, .int .i64 32] w fun e w' => e = .returned (.bool Q) ∧ w = w')
    (HL : ∀ w, Calls Tryz.prog 72 #[.agg #[.int .i64 t5, .int .u32 t6, .bool t7, .bool t8]] w fun e w' => e = .returned (.bool L) ∧ Below w.heap.size w w') :
    Calls Tryz.prog 45 #[.agg #[.int .i64 2, .int .u32 t2, .int .u64 t3, .int .i64 t4, .int .i64 t5, .int .u32 t6, .bool t7, .bool t8]] W fun r w' => r = .returned (.bool (if P && (L && (!a && !b)) then Q else false)) ∧ Below W.heap.size W w' := by
  have hN := Bl.new W 29 [.int .i64 2, .int .u32 t2, .int .u64 t3, .int .i64 t4, .int .i64 t5, .int .u32 t6, .bool t7, .bool t8]
  have HB0 : Hid (∀ o, Below W.heap.size W (W.alloc o)) := fun o => ((Below.refl _ _).alloc (Nat.le_refl _) o)
  cases P <;> cases L <;> cases a <;> cases b
  all_goals
    go_enter Tryz.func45, Tryz.ntmps45
    go_wp2_with (first
      | (go_at_call 70; refine (HS _).mono ?_; rintro e w' ⟨rfl, rfl⟩)
      | (go_at_call_of 71 (Value.int IntKind.u64 t2); refine (HV _).mono ?_; rintro e w' ⟨rfl, rfl⟩)
      | (go_at_call_of 71 (Value.int IntKind.u64 t3); refine (HQ _).mono ?_; rintro e w' ⟨rfl, rfl⟩)
      | (go_at_call 72; refine (HL _).mono ?_; rintro e w2 ⟨rfl, hbb⟩; have hx2 := hN.below hbb; have HBL : Hid (Below W.heap.size W w2) := Below.one hbb; clear hbb hN; have hc := hx2.cell)
      | go_in)
    go_ret
    exact ⟨rfl, (by first | exact HBL.out | exact HB0.out _)⟩
end Go.Proofs.YtmodcbdgnmjkoabGreatDoor
namespace Go.Proofs.YtmodcbdgnmjkoabGreatDoor
open Go.RowKit
set_option linter.unusedVariables false
set_option linter.unusedSimpArgs false

set_option maxRecDepth 100000 in
set_option maxHeartbeats 8000000 in
theorem rright_3 (t2 t3 t4 t5 t6 : Int) (t7 t8 : Bool) (W : World) (P L a b Q z : Bool) (hw : t2 % 18446744073709551616 = t2) (ha : decide (t4 < 0) = a) (hb : decide (15 < t4) = b) (hz : (t4 == 0) = z)
    (HS : ∀ w, Calls Tryz.prog 70 #[.int .i64 3] w fun e w' => e = .returned (.int .i64 20) ∧ w = w')
    (HV : ∀ w, Calls Tryz.prog 71 #[.int .u64 t2, .int .i64 20, .int .i64 32] w fun e w' => e = .returned (.bool P) ∧ w = w')
    (HQ : ∀ w, Calls Tryz.prog 71 #[.int .u64 t3, .int .i64 20, .int .i64 32] w fun e w' => e = .returned (.bool Q) ∧ w = w')
    (HL : ∀ w, Calls Tryz.prog 72 #[.agg #[.int .i64 t5, .int .u32 t6, .bool t7, .bool t8]] w fun e w' => e = .returned (.bool L) ∧ Below w.heap.size w w') :
    Calls Tryz.prog 45 #[.agg #[.int .i64 3, .int .u32 t2, .int .u64 t3, .int .i64 t4, .int .i64 t5, .int .u32 t6, .bool t7, .bool t8]] W fun r w' => r = .returned (.bool (if P && (L && (!a && !b)) then Q else false)) ∧ Below W.heap.size W w' := by
  have hN := Bl.new W 29 [.int .i64 3, .int .u32 t2, .int .u64 t3, .int .i64 t4, .int .i64 t5, .int .u32 t6, .bool t7, .bool t8]
  have HB0 : Hid (∀ o, Below W.heap.size W (W.alloc o)) := fun o => ((Below.refl _ _).alloc (Nat.le_refl _) o)
  cases P <;> cases L <;> cases a <;> cases b
  all_goals
    go_enter Tryz.func45, Tryz.ntmps45
    go_wp2_with (first
      | (go_at_call 70; refine (HS _).mono ?_; rintro e w' ⟨rfl, rfl⟩)
      | (go_at_call_of 71 (Value.int IntKind.u64 t2); refine (HV _).mono ?_; rintro e w' ⟨rfl, rfl⟩)
      | (go_at_call_of 71 (Value.int IntKind.u64 t3); refine (HQ _).mono ?_; rintro e w' ⟨rfl, rfl⟩)
      | (go_at_call 72; refine (HL _).mono ?_; rintro e w2 ⟨rfl, hbb⟩; have hx2 := hN.below hbb; have HBL : Hid (Below W.heap.size W w2) := Below.one hbb; clear hbb hN; have hc := hx2.cell)
      | go_in)
    go_ret
    exact ⟨rfl, (by first | exact HBL.out | exact HB0.out _)⟩
end Go.Proofs.YtmodcbdgnmjkoabGreatDoor
namespace Go.Proofs.YtmodcbdgnmjkoabGreatDoor
open Go.RowKit
set_option linter.unusedVariables false
set_option linter.unusedSimpArgs false

set_option maxRecDepth 100000 in
set_option maxHeartbeats 8000000 in
theorem rright_4 (t2 t3 t4 t5 t6 : Int) (t7 t8 : Bool) (W : World) (P L a b Q z : Bool) (hw : t2 % 18446744073709551616 = t2) (ha : decide (t4 < 0) = a) (hb : decide (15 < t4) = b) (hz : (t4 == 0) = z)
    (HS : ∀ w, Calls Tryz.prog 70 #[.int .i64 4] w fun e w' => e = .returned (.int .i64 24) ∧ w = w')
    (HV : ∀ w, Calls Tryz.prog 71 #[.int .u64 t2, .int .i64 24, .int .i64 32] w fun e w' => e = .returned (.bool P) ∧ w = w')
    (HQ : ∀ w, Calls Tryz.prog 71 #[.int .u64 t3, .int .i64 24, .int .i64 40] w fun e w' => e = .returned (.bool Q) ∧ w = w')
    (HL : ∀ w, Calls Tryz.prog 72 #[.agg #[.int .i64 t5, .int .u32 t6, .bool t7, .bool t8]] w fun e w' => e = .returned (.bool L) ∧ Below w.heap.size w w') :
    Calls Tryz.prog 45 #[.agg #[.int .i64 4, .int .u32 t2, .int .u64 t3, .int .i64 t4, .int .i64 t5, .int .u32 t6, .bool t7, .bool t8]] W fun r w' => r = .returned (.bool (if P && (L && (!a && !b)) then Q && z else false)) ∧ Below W.heap.size W w' := by
  have hN := Bl.new W 29 [.int .i64 4, .int .u32 t2, .int .u64 t3, .int .i64 t4, .int .i64 t5, .int .u32 t6, .bool t7, .bool t8]
  have HB0 : Hid (∀ o, Below W.heap.size W (W.alloc o)) := fun o => ((Below.refl _ _).alloc (Nat.le_refl _) o)
  cases P <;> cases L <;> cases a <;> cases b <;> cases Q
  all_goals
    go_enter Tryz.func45, Tryz.ntmps45
    go_wp2_with (first
      | (go_at_call 70; refine (HS _).mono ?_; rintro e w' ⟨rfl, rfl⟩)
      | (go_at_call_of 71 (Value.int IntKind.u64 t2); refine (HV _).mono ?_; rintro e w' ⟨rfl, rfl⟩)
      | (go_at_call_of 71 (Value.int IntKind.u64 t3); refine (HQ _).mono ?_; rintro e w' ⟨rfl, rfl⟩)
      | (go_at_call 72; refine (HL _).mono ?_; rintro e w2 ⟨rfl, hbb⟩; have hx2 := hN.below hbb; have HBL : Hid (Below W.heap.size W w2) := Below.one hbb; clear hbb hN; have hc := hx2.cell)
      | go_in)
    go_ret
    exact ⟨rfl, (by first | exact HBL.out | exact HB0.out _)⟩
end Go.Proofs.YtmodcbdgnmjkoabGreatDoor
namespace Go.Proofs.YtmodcbdgnmjkoabGreatDoor
open Go.RowKit
set_option linter.unusedVariables false
set_option linter.unusedSimpArgs false

set_option maxRecDepth 100000 in
set_option maxHeartbeats 4000000 in
theorem rright_no (t : Tra) (W : World) (HS : ∀ w, Calls Tryz.prog 70 #[.int .i64 t.size] w fun e w' => e = .returned (.int .i64 0) ∧ w = w') : Calls Tryz.prog 45 #[.agg #[.int .i64 t.size, .int .u32 t.va, .int .u64 t.pa, .int .i64 t.dom, .int .i64 t.ap, .int .u32 t.bits, .bool t.ng, .bool t.xn]] W fun r w' => r = .returned (.bool false) ∧ Below W.heap.size W w' := by
  have HB0 : Hid (∀ o, Below W.heap.size W (W.alloc o)) := fun o => ((Below.refl _ _).alloc (Nat.le_refl _) o)
  go_enter Tryz.func45, Tryz.ntmps45
  go_wp2_with (first
    | (go_at_call 70; refine (HS _).mono ?_; rintro e w' ⟨rfl, rfl⟩)
    | go_in)
  go_ret
  exact ⟨rfl, HB0.out _⟩
theorem rright_any (t : Tra) (W : World) (hv : 0 ≤ t.va ∧ t.va < 4294967296) (hO : Ok (enF t)) : Calls Tryz.prog 45 #[.agg #[.int .i64 t.size, .int .u32 t.va, .int .u64 t.pa, .int .i64 t.dom, .int .i64 t.ap, .int .u32 t.bits, .bool t.ng, .bool t.xn]] W fun r w' => r = .returned (.bool (riF t)) ∧ Below W.heap.size W w' := by
  have hp : 0 ≤ t.pa := hO.1.1
  by_cases hs : 1 ≤ t.size ∧ t.size ≤ 4
  · have hri := ri_iff t hO hs
    have HL := fun w => rleaf_any t.ap t.bits t.ng t.xn w
    have hw : t.va % 18446744073709551616 = t.va := by omega
    obtain ⟨s, t2, t3, t4, t5, t6, t7, t8⟩ := t
    simp only at hs hv hp hw HL
    rcases (show s = 1 ∨ s = 2 ∨ s = 3 ∨ s = 4 by omega) with rfl | rfl | rfl | rfl
    · have hB : (if (decide (t2 % 4096 = 0) && decide (t2 < 4294967296)) && (lfB t5 t6 && (!(decide (t4 < 0)) && !(decide (15 < t4)))) then (decide (t3 % 4096 = 0) && decide (t3 < 4294967296)) else false) = riF ⟨1, t2, t3, t4, t5, t6, t7, t8⟩ := by
        apply Bool.eq_iff_iff.2
        rw [hri]
        have e4 : byN 1 = 4096 := rfl
        simp only [RR, e4, show ¬ ((1 : Int) = 4) from by decide, if_false]
        split
        · rename_i h
          simp only [Bool.and_eq_true, decide_eq_true_eq, lfB_iff, Bool.not_eq_true', decide_eq_false_iff_not, beq_iff_eq] at h ⊢
          omega
        · rename_i h
          simp only [Bool.and_eq_true, decide_eq_true_eq, lfB_iff, Bool.not_eq_true', decide_eq_false_iff_not] at h
          constructor
          · intro f
            cases f
          · intro g
            exfalso
            omega
      rw [← hB]
      exact rright_1 t2 t3 t4 t5 t6 t7 t8 W _ _ _ _ _ _ hw rfl rfl rfl (fun w => shift_any 1 w) (fun w => rplace_12_32 t2 w hv.1) (fun w => rplace_12_32 t3 w hp) HL
    · have hB : (if (decide (t2 % 65536 = 0) && decide (t2 < 4294967296)) && (lfB t5 t6 && (!(decide (t4 < 0)) && !(decide (15 < t4)))) then (decide (t3 % 65536 = 0) && decide (t3 < 4294967296)) else false) = riF ⟨2, t2, t3, t4, t5, t6, t7, t8⟩ := by
        apply Bool.eq_iff_iff.2
        rw [hri]
        have e4 : byN 2 = 65536 := rfl
        simp only [RR, e4, show ¬ ((2 : Int) = 4) from by decide, if_false]
        split
        · rename_i h
          simp only [Bool.and_eq_true, decide_eq_true_eq, lfB_iff, Bool.not_eq_true', decide_eq_false_iff_not, beq_iff_eq] at h ⊢
          omega
        · rename_i h
          simp only [Bool.and_eq_true, decide_eq_true_eq, lfB_iff, Bool.not_eq_true', decide_eq_false_iff_not] at h
          constructor
          · intro f
            cases f
          · intro g
            exfalso
            omega
      rw [← hB]
      exact rright_2 t2 t3 t4 t5 t6 t7 t8 W _ _ _ _ _ _ hw rfl rfl rfl (fun w => shift_any 2 w) (fun w => rplace_16_32 t2 w hv.1) (fun w => rplace_16_32 t3 w hp) HL
    · have hB : (if (decide (t2 % 1048576 = 0) && decide (t2 < 4294967296)) && (lfB t5 t6 && (!(decide (t4 < 0)) && !(decide (15 < t4)))) then (decide (t3 % 1048576 = 0) && decide (t3 < 4294967296)) else false) = riF ⟨3, t2, t3, t4, t5, t6, t7, t8⟩ := by
        apply Bool.eq_iff_iff.2
        rw [hri]
        have e4 : byN 3 = 1048576 := rfl
        simp only [RR, e4, show ¬ ((3 : Int) = 4) from by decide, if_false]
        split
        · rename_i h
          simp only [Bool.and_eq_true, decide_eq_true_eq, lfB_iff, Bool.not_eq_true', decide_eq_false_iff_not, beq_iff_eq] at h ⊢
          omega
        · rename_i h
          simp only [Bool.and_eq_true, decide_eq_true_eq, lfB_iff, Bool.not_eq_true', decide_eq_false_iff_not] at h
          constructor
          · intro f
            cases f
          · intro g
            exfalso
            omega
      rw [← hB]
      exact rright_3 t2 t3 t4 t5 t6 t7 t8 W _ _ _ _ _ _ hw rfl rfl rfl (fun w => shift_any 3 w) (fun w => rplace_20_32 t2 w hv.1) (fun w => rplace_20_32 t3 w hp) HL
    · have hB : (if (decide (t2 % 16777216 = 0) && decide (t2 < 4294967296)) && (lfB t5 t6 && (!(decide (t4 < 0)) && !(decide (15 < t4)))) then (decide (t3 % 16777216 = 0) && decide (t3 < 1099511627776)) && (t4 == 0) else false) = riF ⟨4, t2, t3, t4, t5, t6, t7, t8⟩ := by
        apply Bool.eq_iff_iff.2
        rw [hri]
        have e4 : byN 4 = 16777216 := rfl
        simp only [RR, e4, if_true]
        split
        · rename_i h
          simp only [Bool.and_eq_true, decide_eq_true_eq, lfB_iff, Bool.not_eq_true', decide_eq_false_iff_not, beq_iff_eq] at h ⊢
          omega
        · rename_i h
          simp only [Bool.and_eq_true, decide_eq_true_eq, lfB_iff, Bool.not_eq_true', decide_eq_false_iff_not] at h
          constructor
          · intro f
            cases f
          · intro g
            exfalso
            omega
      rw [← hB]
      exact rright_4 t2 t3 t4 t5 t6 t7 t8 W _ _ _ _ _ _ hw rfl rfl rfl (fun w => shift_any 4 w) (fun w => rplace_24_32 t2 w hv.1) (fun w => rplace_24_40 t3 w hp) HL
  · have hf : riF t = false := by
      have q : (decide (1 ≤ t.size) && decide (t.size ≤ 4)) = false := by simp; omega
      unfold riF; rw [q]; rfl
    rw [hf]
    have HS := fun w => shift_any t.size w
    rw [show shN t.size = 0 by unfold shN; rw [if_neg (by omega), if_neg (by omega), if_neg (by omega), if_neg (by omega)]] at HS
    exact rright_no t W HS
end Go.Proofs.YtmodcbdgnmjkoabGreatDoor
namespace Go.Proofs.YtmodcbdgnmjkoabGreatDoor
open Go.RowKit
set_option linter.unusedVariables false
set_option linter.unusedSimpArgs false
set_option maxRecDepth 100000 in
theorem rlevel_any (s : Int) (w : World) : Calls Tryz.prog 46 #[.int .i64 s] w fun e w' => e = .returned (.int .i64 (lvF s)) ∧ w = w' := by
  rcases (show s = 1 ∨ s = 2 ∨ s = 3 ∨ s = 4 ∨ (¬ s = 1 ∧ ¬ s = 2 ∧ ¬ s = 3 ∧ ¬ s = 4) by omega) with rfl | rfl | rfl | rfl | ⟨h1, h2, h3, h4⟩
  iterate 4
    · go_enter Tryz.func46, Tryz.ntmps46
      go_wp2
      go_ret
      exact ⟨rfl, rfl⟩
  · have z1 : (s == 1) = false := by simp [h1]
    have z2 : (s == 2) = false := by simp [h2]
    have z3 : (s == 3) = false := by simp [h3]
    have z4 : (s == 4) = false := by simp [h4]
    go_enter Tryz.func46, Tryz.ntmps46
    go_wp2
    go_ret
    exact ⟨by simp [lvF, h1, h2, h3, h4], rfl⟩
/-- Besides, the box of the fault that is made. -/
structure FK (w wr : World) (t : Tra) (c : Ctx) (b : Nat) : Prop extends CK w wr t c where
  F : Bl wr b 31 [.int .i64 0, .int .i64 (lvF t.size), .int .i64 t.dom]
  ne : w.heap.size + 1 + 1 < b
theorem FK.new {w wr : World} {t : Tra} {c : Ctx} (h : CK w wr t c) : FK w (wr.alloc (.cells #[.int .i64 0, .int .i64 (lvF t.size), .int .i64 t.dom] 31)) t c wr.heap.size := ⟨h.step (below_new _ _), Bl.new _ _ _, h.R.lt⟩
theorem FK.step {w wr wn : World} {t : Tra} {c : Ctx} {b : Nat} (h : FK w wr t c b) (hb : Below wr.heap.size wr wn) : FK w wn t c b := ⟨h.toCK.step hb, h.F.below hb, h.ne⟩
theorem FK.drew {w wr : World} {t : Tra} {c : Ctx} {b : Nat} (h : FK w wr t c b) : FK w wr.drew t c b := ⟨h.toCK.drew, h.F.drew, h.ne⟩
theorem pow4 (a : Int) (n : Nat) : a / 2 ^ (2 * n) / 4 = a / 2 ^ (2 * (n + 1)) := by
  rw [Int.ediv_ediv_of_nonneg (Int.le_of_lt (pow_pos _)), show 2 * (n + 1) = 2 * n + 2 by omega, Int.pow_add]
  rfl
set_option maxRecDepth 100000 in
set_option maxHeartbeats 8000000 in
theorem rcheck_core (t : Tra) (on tre afe : Bool) (cn : Int) (pd0 pd1 : Bool) (q0 q1 dacr prrr nmrr asid : Int) (priv : Bool) (k : Int) (ri X : Bool) (ba : Int) (w : World) (ha : 0 ≤ dacr ∧ dacr < 4294967296)
    (hX : alF t.ap t.xn afe priv k = X) (hba : baF t afe dacr priv k = ba) (hri : ri = true → (0 ≤ t.dom ∧ t.dom ≤ 15) ∧ (0 ≤ t.ap ∧ t.ap ≤ 7))
    (HR : ∀ w, Calls Tryz.prog 45 #[.agg #[.int .i64 t.size, .int .u32 t.va, .int .u64 t.pa, .int .i64 t.dom, .int .i64 t.ap, .int .u32 t.bits, .bool t.ng, .bool t.xn]] w fun e w' => e = .returned (.bool ri) ∧ Below w.heap.size w w') :
    Calls Tryz.prog 24 #[.agg #[.int .i64 t.size, .int .u32 t.va, .int .u64 t.pa, .int .i64 t.dom, .int .i64 t.ap, .int .u32 t.bits, .bool t.ng, .bool t.xn], .agg #[.bool on, .bool tre, .bool afe, .int .i64 cn, .bool pd0, .bool pd1, .int .u64 q0, .int .u64 q1, .int .u32 dacr, .int .u32 prrr, .int .u32 nmrr, .int .i64 asid], .bool priv, .int .i64 k] w fun e w' => e = .returned (if on && ri then (if ba = 0 then .agg #[.int .i64 0, .int .i64 0, .int .i64 0] else .agg #[.int .i64 ba, .int .i64 (lvF t.size), .int .i64 t.dom]) else .agg #[.int .i64 0, .int .i64 0, .int .i64 0]) ∧ Below w.heap.size w w' := by
  have HL : Hid (∀ s w, Calls Tryz.prog 46 #[.int .i64 s] w fun e w' => e = .returned (.int .i64 (lvF s)) ∧ w = w') := rlevel_any
  have HA : Hid (∀ w, Calls Tryz.prog 47 #[.agg #[.int .i64 t.ap, .int .u32 t.bits, .bool t.ng, .bool t.xn], .bool afe, .bool priv, .int .i64 k] w fun e w' => e = .returned (.bool X) ∧ Below w.heap.size w w') := fun w => by rw [← hX]; exact rallows_any t.ap t.bits t.ng t.xn afe priv k w
  have HX0 := hidZ (CK.new w t ⟨on, tre, afe, cn, pd0, pd1, q0, q1, dacr, prrr, nmrr, asid⟩)
  have HR1 := hidZ HR
  clear HR
  cases on
  · go_enter Tryz.func24, Tryz.ntmps24
    go_wp2
    refine bodyPost_ret (v := .agg #[.int .i64 0, .int .i64 0, .int .i64 0]) (by simp [results, Tryz.results24, go_sem]) rfl ⟨by simp, ?_⟩
    exact HX0.out.bel
  cases ri
  · go_enter Tryz.func24, Tryz.ntmps24
    go_wp2_with (fail)
    go_at_call 45
    refine (HR1.out _).mono ?_
    rintro e w1 ⟨rfl, hb⟩
    have HX1 := hidZ (HX0.out.step hb)
    clear hb HX0
    have c0 := HX1.out.R.cell
    have f0 := HX1.out.R.frozen
    have l0 := HX1.out.R.lt
    go_wp2
    refine bodyPost_ret (v := .agg #[.int .i64 0, .int .i64 0, .int .i64 0]) (by simp [results, Tryz.results24, go_sem, c0, f0, l0]) rfl ⟨by simp, HX1.out.end3 _ _ _⟩
  obtain ⟨hd, hp⟩ := hri rfl
  have Hba := hidZ hba
  have Hd := hidZ hd
  have Ha := hidZ ha
  have Hp := hidZ hp
  have HX' := hidZ hX
  clear hba hd ha hp hri hX
  go_enter Tryz.func24, Tryz.ntmps24
  go_wp2_with (fail)
  go_at_call 45
  refine (HR1.out _).mono ?_
  rintro e w1 ⟨rfl, hb⟩
  have HS2 := hidZ (HX0.out.step hb)
  have HS := hidZ (HS2.out.drew)
  have K0 : Hid (w1.drew.cell? ⟨w.heap.size, 0, none⟩ = some (.int .i64 t.size) ∧ w1.drew.cell? ⟨w.heap.size, 3, none⟩ = some (.int .i64 t.dom)) := ⟨HS.out.T.cell 0, HS.out.T.cell 3⟩
  have KA : Hid (∀ o, (w1.alloc o).drew.cell? ⟨w.heap.size, 0, none⟩ = some (.int .i64 t.size) ∧ (w1.alloc o).drew.cell? ⟨w.heap.size, 3, none⟩ = some (.int .i64 t.dom)) := fun o => ⟨(HS2.out.step (below_new _ o)).drew.T.cell 0, (HS2.out.step (below_new _ o)).drew.T.cell 3⟩
  have HF0 := hidZ (FK.new HS2.out).drew
  clear hb HX0
  go_wp2
  refine wp_region_held_drew (S := fun w' => w'.cell? ⟨w.heap.size, 0, none⟩ = some (.int .i64 t.size) ∧ w'.cell? ⟨w.heap.size, 3, none⟩ = some (.int .i64 t.dom)) (by kernel_rfl) (by (try dsimp only); exact K0.out) (fun hHeld => ?_)
  refine wpAnyH_take (i := 0) (oi := { dst := some 21, op := Op.fieldAddr 29 (Operand.tmp 4) 0, type := 0, pos := _, after := #[], guard := none }) (v := ?_) rfl (by kernel_rfl) (by kernel_rfl) (by kernel_rfl) (fun _ _ _ h => h) (Or.inl ⟨by rfl, ?_⟩) (by assumption) ?_
  rotate_left
  · (intro w hSw; (try dsimp only at hSw); go_simp; try with_reducible rfl)
  simp only [Act.put, List.setIfInBounds_toArray, List.set_cons_zero, List.set_cons_succ]
  refine wpAnyH_take (i := 1) (oi := { dst := some 22, op := Op.load 3 (Operand.tmp 21), type := 3, pos := _, after := #[{ on := 0, ground := Ground.data }], guard := none }) (v := ?_) rfl (by kernel_rfl) (by kernel_rfl) (by kernel_rfl) (fun _ _ _ h => h) (Or.inl ⟨by rfl, ?_⟩) (by assumption) ?_
  rotate_left
  · (intro w hSw; (try dsimp only at hSw); go_simp; try with_reducible rfl)
  simp only [Act.put, List.setIfInBounds_toArray, List.set_cons_zero, List.set_cons_succ]
  refine wpAnyH_take (i := 3) (oi := { dst := some 24, op := Op.fieldAddr 29 (Operand.tmp 4) 3, type := 0, pos := _, after := #[], guard := none }) (v := ?_) rfl (by kernel_rfl) (by kernel_rfl) (by kernel_rfl) (fun _ _ _ h => h) (Or.inl ⟨by rfl, ?_⟩) (by assumption) ?_
  rotate_left
  · (intro w hSw; (try dsimp only at hSw); go_simp; try with_reducible rfl)
  simp only [Act.put, List.setIfInBounds_toArray, List.set_cons_zero, List.set_cons_succ]
  refine wpAnyH_take (i := 4) (oi := { dst := some 25, op := Op.load 3 (Operand.tmp 24), type := 3, pos := _, after := #[{ on := 3, ground := Ground.data }], guard := none }) (v := ?_) rfl (by kernel_rfl) (by kernel_rfl) (by kernel_rfl) (fun _ _ _ h => h) (Or.inl ⟨by rfl, ?_⟩) (by assumption) ?_
  rotate_left
  · (intro w hSw; (try dsimp only at hSw); go_simp; try with_reducible rfl)
  simp only [Act.put, List.setIfInBounds_toArray, List.set_cons_zero, List.set_cons_succ]
  refine wpAnyH_ready (rs := [2, 6]) (by kernel_rfl) (by simp) ?_
  refine (AllReadyH.cons (o := { dst := some 23, op := Op.call { callee := Callee.value (Operand.func 46), args := #[Operand.tmp 22], argTypes := #[3] }, type := 3, pos := _, after := #[{ on := 1, ground := Ground.data }], guard := none }) rfl (fun K hK => ?_) (AllReadyH.cons (o := { dst := some 9, op := Op.alloc 31, type := 0, pos := _, after := #[], guard := none }) rfl (fun K hK => ?_) AllReadyH.nil))
  · go_simp
    (go_at_call 46; refine (HL.out _ _).mono ?_; rintro e w3 ⟨rfl, rfl⟩)
    refine hK.out _ _ ?_ (fun hHeld => ?_)
    · ((try dsimp only); first | with_reducible exact K0.out | with_reducible exact KA.out _)
    clear hK K
    try simp only [Act.put, List.setIfInBounds_toArray, List.set_cons_zero, List.set_cons_succ]
    refine wpAnyH_take (i := 5) (oi := { dst := some 26, op := Op.build 31 #[(1, Operand.tmp 23), (2, Operand.tmp 25)], type := 31, pos := _, after := #[{ on := 2, ground := Ground.data }, { on := 4, ground := Ground.data }], guard := none }) (v := ?_) rfl (by kernel_rfl) (by kernel_rfl) (by kernel_rfl) (fun _ _ _ h => h) (Or.inl ⟨by rfl, ?_⟩) (by assumption) ?_
    rotate_left
    · (intro w hSw; (try dsimp only at hSw); go_simp; try with_reducible rfl)
    simp only [Act.put, List.setIfInBounds_toArray, List.set_cons_zero, List.set_cons_succ]
    refine wpAnyH_ready (rs := [6]) (by kernel_rfl) (by simp) ?_
    refine (AllReadyH.cons (o := { dst := some 9, op := Op.alloc 31, type := 0, pos := _, after := #[], guard := none }) rfl (fun K hK => ?_) AllReadyH.nil)
    go_simp
    skip
    refine hK.out _ _ ?_ (fun hHeld => ?_)
    · ((try dsimp only); first | with_reducible exact K0.out | with_reducible exact KA.out _)
    clear hK K
    try simp only [Act.put, List.setIfInBounds_toArray, List.set_cons_zero, List.set_cons_succ]
    refine wpAnyH_ready (rs := [7]) (by kernel_rfl) (by simp) ?_
    refine (AllReadyH.cons (o := { dst := none, op := Op.store 31 (Operand.tmp 9) (Operand.tmp 26), type := 0, pos := _, after := #[{ on := 6, ground := Ground.data }, { on := 5, ground := Ground.data }, { on := 2, ground := Ground.chain }, { on := 0, ground := Ground.phase }, { on := 1, ground := Ground.phase }, { on := 2, ground := Ground.phase }, { on := 3, ground := Ground.phase }, { on := 4, ground := Ground.phase }, { on := 5, ground := Ground.phase }, { on := 6, ground := Ground.phase }], guard := none }) rfl (fun K hK => ?_) AllReadyH.nil)
    go_simp
    skip
    refine hK.out _ _ ?_ (fun hHeld => ?_)
    · ((try dsimp only); first | with_reducible exact K0.out | with_reducible exact KA.out _)
    clear hK K
    try simp only [Act.put, List.setIfInBounds_toArray, List.set_cons_zero, List.set_cons_succ]
    refine wpAnyH_done (by kernel_rfl) ?_ _
    have cc := HS2.out.C.cell
    simp only at cc
    have lc : w.heap.size + 1 < w1.heap.size := HS2.out.C.lt
    have nc : ¬ (w.heap.size + 1 = w1.heap.size) := by omega
    clear hHeld K0 KA HS HS2 HR1 HL
    go_wp2
    generalize w1.heap.size = b at *
    clear cc lc nc
    go_loopw [10, 11] (fun v i wr => ∃ n : Nat, (n : Int) ≤ t.dom ∧ v = .int .u32 (dacr / 2 ^ (2 * n)) ∧ i = .int .i64 n ∧ FK w wr t ⟨true, tre, afe, cn, pd0, pd1, q0, q1, dacr, prrr, nmrr, asid⟩ b) (fun _ i _ => (t.dom - intOf i).toNat)
    case atStart => exact ⟨0, Hd.out.1, by simp, rfl, HF0.out⟩
    case round =>
      obtain ⟨n, hn, rfl, rfl, hF⟩ := hrel
      have HF1 := hidZ hF
      have c0 := hF.T.cell
      have c1 := hF.C.cell
      simp only at c1
      clear hF HF0
      have hv0 : 0 ≤ dacr / 2 ^ (2 * n) := (shr_range dacr (2 * n) Ha.out).1
      by_cases h : (n : Int) < t.dom
      · have hw : IntKind.i64.wrap ((n : Int) + 1) = ((n + 1 : Nat) : Int) := by have := Hd.out; rw [IntKind.wrap_i64]; omega
        have hq : (dacr / 2 ^ (2 * n)).tdiv 4 = dacr / 2 ^ (2 * (n + 1)) := by rw [Int.tdiv_eq_ediv_of_nonneg hv0, pow4]
        clear hn
        go_wp2
        go_roundw
        case rel => exact ⟨n + 1, by omega, by rw [Int.emod_eq_of_lt (shr_range dacr (2 * (n + 1)) Ha.out).1 (shr_range dacr (2 * (n + 1)) Ha.out).2], rfl, HF1.out⟩
        case measure => simp [intOf]; omega
      · have he : t.dom = n := by omega
        have hfd : fdF dacr t.dom = dacr / 2 ^ (2 * n) % 4 := by
          unfold fdF
          rw [he, show (2 * (n : Int)).toNat = 2 * n by omega]
        have m2 : (dacr / 2 ^ (2 * n)).tmod 2 = dacr / 2 ^ (2 * n) % 2 := Int.tmod_eq_emod_of_nonneg hv0
        have m4 : (dacr / 2 ^ (2 * n)).tmod 4 = dacr / 2 ^ (2 * n) % 4 := Int.tmod_eq_emod_of_nonneg hv0
        have ma : t.ap.tmod 2 = t.ap % 2 := Int.tmod_eq_emod_of_nonneg Hp.out.1
        have HE := hidZ Hba.out
        unfold baF at HE
        rw [hfd] at HE
        clear he hfd hn Hba
        generalize dacr / 2 ^ (2 * n) = v at *
        have c2 := HF1.out.R.cell
        have f2 := HF1.out.R.frozen
        have l2 := HF1.out.R.lt
        have c3 := HF1.out.F.cell
        have f3 := HF1.out.F.frozen
        have l3 := HF1.out.F.lt
        have ne := HF1.out.ne
        have n1 : ¬ (w.heap.size + 1 + 1 = b) := by omega
        have n2 : ¬ (b = w.heap.size + 1 + 1) := by omega
        have n3 : ¬ (w.heap.size = b) := by omega
        have n4 : ¬ (w.heap.size + 1 = b) := by omega
        have HG : Hid (w.heap.size ≤ b) := by have h5 : w.heap.size ≤ b := by omega
                                              exact h5
        by_cases h1 : afe = true ∧ t.ap % 2 = 0
        · rw [if_pos h1] at HE
          obtain ⟨rfl, h1⟩ := h1
          rw [h1] at ma
          obtain rfl : 7 = ba := HE.out
          clear h1
          go_wp2
          refine bodyPost_ret (v := .agg #[.int .i64 7, .int .i64 (lvF t.size), .int .i64 t.dom]) (by simp [results, Tryz.results24, go_sem, c2, f2, l2, n1, n2]) rfl ⟨by simp, (by (repeat (with_reducible refine Below.setCell ?_ (by first | exact HG.out | (simp; omega)) _)); exact HF1.out.bel)⟩
        · rw [if_neg h1] at HE
          have hg : afe = false ∨ (afe = true ∧ (t.ap % 2 == 0) = false) := by
            cases afe
            · exact Or.inl rfl
            · right
              refine ⟨rfl, ?_⟩
              simpa using h1
          clear h1
          by_cases h2 : v % 2 = 0
          · rw [if_neg (by omega), if_neg (by omega)] at HE
            obtain rfl : 8 = ba := HE.out
            rw [h2] at m2
            clear h2
            rcases hg with rfl | ⟨rfl, q1⟩
            all_goals
              go_wp2
              refine bodyPost_ret (v := .agg #[.int .i64 8, .int .i64 (lvF t.size), .int .i64 t.dom]) (by simp [results, Tryz.results24, go_sem, c2, f2, l2, n1, n2]) rfl ⟨by simp, (by (repeat (with_reducible refine Below.setCell ?_ (by first | exact HG.out | (simp; omega)) _)); exact HF1.out.bel)⟩
          · have q2 : v % 2 = 1 := by omega
            rw [q2] at m2
            by_cases h3 : v % 4 = 3
            · rw [if_pos h3] at HE
              obtain rfl : 0 = ba := HE.out
              rw [h3] at m4
              clear h2 q2 h3
              rcases hg with rfl | ⟨rfl, q1⟩
              all_goals
                go_wp2
                refine bodyPost_ret (v := .agg #[.int .i64 0, .int .i64 0, .int .i64 0]) (by simp [results, Tryz.results24, go_sem, c2, f2, l2, n1, n2]) rfl ⟨by simp, HF1.out.end3 _ _ _⟩
            · have q3 : v % 4 = 1 := by omega
              rw [if_neg h3, if_pos q3] at HE
              rw [q3] at m4
              clear h2 q2 h3 q3
              obtain ⟨X, hX⟩ : ∃ X, alF t.ap t.xn afe priv k = X := ⟨_, rfl⟩
              rw [hX] at HE
              rw [hX] at HX'
              obtain rfl : X = _ := HX'.out
              clear hX HX'
              rcases hg with rfl | ⟨rfl, q1⟩
              all_goals
                cases X
                all_goals
                  simp only [if_true, if_false, Bool.false_eq_true] at HE
                  go_wp2_with (fail)
                  go_at_call 47
                  refine (HA.out _).mono ?_
                  rintro e w5 ⟨rfl, hb⟩
                  have HF2 := hidZ (HF1.out.step hb)
                  clear hb HF1 c0 c1 c2 f2 l2 c3 f3 l3
                  have c2 := HF2.out.R.cell
                  have f2 := HF2.out.R.frozen
                  have l2 := HF2.out.R.lt
                  have c3 := HF2.out.F.cell
                  have f3 := HF2.out.F.frozen
                  have l3 := HF2.out.F.lt
                  first
                  | (obtain rfl : 9 = ba := HE.out
                     go_wp2
                     refine bodyPost_ret (v := .agg #[.int .i64 9, .int .i64 (lvF t.size), .int .i64 t.dom]) (by simp [results, Tryz.results24, go_sem, c2, f2, l2, n1, n2]) rfl ⟨by simp, (by (repeat (with_reducible refine Below.setCell ?_ (by first | exact HG.out | (simp; omega)) _)); exact HF2.out.bel)⟩)
                  | (obtain rfl : 0 = ba := HE.out
                     go_wp2
                     refine bodyPost_ret (v := .agg #[.int .i64 0, .int .i64 0, .int .i64 0]) (by simp [results, Tryz.results24, go_sem, c2, f2, l2, n1, n2]) rfl ⟨by simp, HF2.out.end3 _ _ _⟩)
  · go_simp
    skip
    refine hK.out _ _ ?_ (fun hHeld => ?_)
    · ((try dsimp only); first | with_reducible exact K0.out | with_reducible exact KA.out _)
    clear hK K
    try simp only [Act.put, List.setIfInBounds_toArray, List.set_cons_zero, List.set_cons_succ]
    refine wpAnyH_ready (rs := [2]) (by kernel_rfl) (by simp) ?_
    refine (AllReadyH.cons (o := { dst := some 23, op := Op.call { callee := Callee.value (Operand.func 46), args := #[Operand.tmp 22], argTypes := #[3] }, type := 3, pos := _, after := #[{ on := 1, ground := Ground.data }], guard := none }) rfl (fun K hK => ?_) AllReadyH.nil)
    go_simp
    (go_at_call 46; refine (HL.out _ _).mono ?_; rintro e w3 ⟨rfl, rfl⟩)
    refine hK.out _ _ ?_ (fun hHeld => ?_)
    · ((try dsimp only); first | with_reducible exact K0.out | with_reducible exact KA.out _)
    clear hK K
    try simp only [Act.put, List.setIfInBounds_toArray, List.set_cons_zero, List.set_cons_succ]
    refine wpAnyH_take (i := 5) (oi := { dst := some 26, op := Op.build 31 #[(1, Operand.tmp 23), (2, Operand.tmp 25)], type := 31, pos := _, after := #[{ on := 2, ground := Ground.data }, { on := 4, ground := Ground.data }], guard := none }) (v := ?_) rfl (by kernel_rfl) (by kernel_rfl) (by kernel_rfl) (fun _ _ _ h => h) (Or.inl ⟨by rfl, ?_⟩) (by assumption) ?_
    rotate_left
    · (intro w hSw; (try dsimp only at hSw); go_simp; try with_reducible rfl)
    simp only [Act.put, List.setIfInBounds_toArray, List.set_cons_zero, List.set_cons_succ]
    refine wpAnyH_ready (rs := [7]) (by kernel_rfl) (by simp) ?_
    refine (AllReadyH.cons (o := { dst := none, op := Op.store 31 (Operand.tmp 9) (Operand.tmp 26), type := 0, pos := _, after := #[{ on := 6, ground := Ground.data }, { on := 5, ground := Ground.data }, { on := 2, ground := Ground.chain }, { on := 0, ground := Ground.phase }, { on := 1, ground := Ground.phase }, { on := 2, ground := Ground.phase }, { on := 3, ground := Ground.phase }, { on := 4, ground := Ground.phase }, { on := 5, ground := Ground.phase }, { on := 6, ground := Ground.phase }], guard := none }) rfl (fun K hK => ?_) AllReadyH.nil)
    go_simp
    skip
    refine hK.out _ _ ?_ (fun hHeld => ?_)
    · ((try dsimp only); first | with_reducible exact K0.out | with_reducible exact KA.out _)
    clear hK K
    try simp only [Act.put, List.setIfInBounds_toArray, List.set_cons_zero, List.set_cons_succ]
    refine wpAnyH_done (by kernel_rfl) ?_ _
    have cc := HS2.out.C.cell
    simp only at cc
    have lc : w.heap.size + 1 < w1.heap.size := HS2.out.C.lt
    have nc : ¬ (w.heap.size + 1 = w1.heap.size) := by omega
    clear hHeld K0 KA HS HS2 HR1 HL
    go_wp2
    generalize w1.heap.size = b at *
    clear cc lc nc
    go_loopw [10, 11] (fun v i wr => ∃ n : Nat, (n : Int) ≤ t.dom ∧ v = .int .u32 (dacr / 2 ^ (2 * n)) ∧ i = .int .i64 n ∧ FK w wr t ⟨true, tre, afe, cn, pd0, pd1, q0, q1, dacr, prrr, nmrr, asid⟩ b) (fun _ i _ => (t.dom - intOf i).toNat)
    case atStart => exact ⟨0, Hd.out.1, by simp, rfl, HF0.out⟩
    case round =>
      obtain ⟨n, hn, rfl, rfl, hF⟩ := hrel
      have HF1 := hidZ hF
      have c0 := hF.T.cell
      have c1 := hF.C.cell
      simp only at c1
      clear hF HF0
      have hv0 : 0 ≤ dacr / 2 ^ (2 * n) := (shr_range dacr (2 * n) Ha.out).1
      by_cases h : (n : Int) < t.dom
      · have hw : IntKind.i64.wrap ((n : Int) + 1) = ((n + 1 : Nat) : Int) := by have := Hd.out; rw [IntKind.wrap_i64]; omega
        have hq : (dacr / 2 ^ (2 * n)).tdiv 4 = dacr / 2 ^ (2 * (n + 1)) := by rw [Int.tdiv_eq_ediv_of_nonneg hv0, pow4]
        clear hn
        go_wp2
        go_roundw
        case rel => exact ⟨n + 1, by omega, by rw [Int.emod_eq_of_lt (shr_range dacr (2 * (n + 1)) Ha.out).1 (shr_range dacr (2 * (n + 1)) Ha.out).2], rfl, HF1.out⟩
        case measure => simp [intOf]; omega
      · have he : t.dom = n := by omega
        have hfd : fdF dacr t.dom = dacr / 2 ^ (2 * n) % 4 := by
          unfold fdF
          rw [he, show (2 * (n : Int)).toNat = 2 * n by omega]
        have m2 : (dacr / 2 ^ (2 * n)).tmod 2 = dacr / 2 ^ (2 * n) % 2 := Int.tmod_eq_emod_of_nonneg hv0
        have m4 : (dacr / 2 ^ (2 * n)).tmod 4 = dacr / 2 ^ (2 * n) % 4 := Int.tmod_eq_emod_of_nonneg hv0
        have ma : t.ap.tmod 2 = t.ap % 2 := Int.tmod_eq_emod_of_nonneg Hp.out.1
        have HE := hidZ Hba.out
        unfold baF at HE
        rw [hfd] at HE
        clear he hfd hn Hba
        generalize dacr / 2 ^ (2 * n) = v at *
        have c2 := HF1.out.R.cell
        have f2 := HF1.out.R.frozen
        have l2 := HF1.out.R.lt
        have c3 := HF1.out.F.cell
        have f3 := HF1.out.F.frozen
        have l3 := HF1.out.F.lt
        have ne := HF1.out.ne
        have n1 : ¬ (w.heap.size + 1 + 1 = b) := by omega
        have n2 : ¬ (b = w.heap.size + 1 + 1) := by omega
        have n3 : ¬ (w.heap.size = b) := by omega
        have n4 : ¬ (w.heap.size + 1 = b) := by omega
        have HG : Hid (w.heap.size ≤ b) := by have h5 : w.heap.size ≤ b := by omega
                                              exact h5
        by_cases h1 : afe = true ∧ t.ap % 2 = 0
        · rw [if_pos h1] at HE
          obtain ⟨rfl, h1⟩ := h1
          rw [h1] at ma
          obtain rfl : 7 = ba := HE.out
          clear h1
          go_wp2
          refine bodyPost_ret (v := .agg #[.int .i64 7, .int .i64 (lvF t.size), .int .i64 t.dom]) (by simp [results, Tryz.results24, go_sem, c2, f2, l2, n1, n2]) rfl ⟨by simp, (by (repeat (with_reducible refine Below.setCell ?_ (by first | exact HG.out | (simp; omega)) _)); exact HF1.out.bel)⟩
        · rw [if_neg h1] at HE
          have hg : afe = false ∨ (afe = true ∧ (t.ap % 2 == 0) = false) := by
            cases afe
            · exact Or.inl rfl
            · right
              refine ⟨rfl, ?_⟩
              simpa using h1
          clear h1
          by_cases h2 : v % 2 = 0
          · rw [if_neg (by omega), if_neg (by omega)] at HE
            obtain rfl : 8 = ba := HE.out
            rw [h2] at m2
            clear h2
            rcases hg with rfl | ⟨rfl, q1⟩
            all_goals
              go_wp2
              refine bodyPost_ret (v := .agg #[.int .i64 8, .int .i64 (lvF t.size), .int .i64 t.dom]) (by simp [results, Tryz.results24, go_sem, c2, f2, l2, n1, n2]) rfl ⟨by simp, (by (repeat (with_reducible refine Below.setCell ?_ (by first | exact HG.out | (simp; omega)) _)); exact HF1.out.bel)⟩
          · have q2 : v % 2 = 1 := by omega
            rw [q2] at m2
            by_cases h3 : v % 4 = 3
            · rw [if_pos h3] at HE
              obtain rfl : 0 = ba := HE.out
              rw [h3] at m4
              clear h2 q2 h3
              rcases hg with rfl | ⟨rfl, q1⟩
              all_goals
                go_wp2
                refine bodyPost_ret (v := .agg #[.int .i64 0, .int .i64 0, .int .i64 0]) (by simp [results, Tryz.results24, go_sem, c2, f2, l2, n1, n2]) rfl ⟨by simp, HF1.out.end3 _ _ _⟩
            · have q3 : v % 4 = 1 := by omega
              rw [if_neg h3, if_pos q3] at HE
              rw [q3] at m4
              clear h2 q2 h3 q3
              obtain ⟨X, hX⟩ : ∃ X, alF t.ap t.xn afe priv k = X := ⟨_, rfl⟩
              rw [hX] at HE
              rw [hX] at HX'
              obtain rfl : X = _ := HX'.out
              clear hX HX'
              rcases hg with rfl | ⟨rfl, q1⟩
              all_goals
                cases X
                all_goals
                  simp only [if_true, if_false, Bool.false_eq_true] at HE
                  go_wp2_with (fail)
                  go_at_call 47
                  refine (HA.out _).mono ?_
                  rintro e w5 ⟨rfl, hb⟩
                  have HF2 := hidZ (HF1.out.step hb)
                  clear hb HF1 c0 c1 c2 f2 l2 c3 f3 l3
                  have c2 := HF2.out.R.cell
                  have f2 := HF2.out.R.frozen
                  have l2 := HF2.out.R.lt
                  have c3 := HF2.out.F.cell
                  have f3 := HF2.out.F.frozen
                  have l3 := HF2.out.F.lt
                  first
                  | (obtain rfl : 9 = ba := HE.out
                     go_wp2
                     refine bodyPost_ret (v := .agg #[.int .i64 9, .int .i64 (lvF t.size), .int .i64 t.dom]) (by simp [results, Tryz.results24, go_sem, c2, f2, l2, n1, n2]) rfl ⟨by simp, (by (repeat (with_reducible refine Below.setCell ?_ (by first | exact HG.out | (simp; omega)) _)); exact HF2.out.bel)⟩)
                  | (obtain rfl : 0 = ba := HE.out
                     go_wp2
                     refine bodyPost_ret (v := .agg #[.int .i64 0, .int .i64 0, .int .i64 0]) (by simp [results, Tryz.results24, go_sem, c2, f2, l2, n1, n2]) rfl ⟨by simp, HF2.out.end3 _ _ _⟩)
theorem rcheck_any (t : Tra) (c : Ctx) (priv : Bool) (k : Int) (w : World) (hf : Ft t) (ha : 0 ≤ c.dacr ∧ c.dacr < 4294967296) :
    Calls Tryz.prog 24 #[.agg #[.int .i64 t.size, .int .u32 t.va, .int .u64 t.pa, .int .i64 t.dom, .int .i64 t.ap, .int .u32 t.bits, .bool t.ng, .bool t.xn], .agg #[.bool c.on, .bool c.tre, .bool c.afe, .int .i64 c.n, .bool c.pd0, .bool c.pd1, .int .u64 c.b0, .int .u64 c.b1, .int .u32 c.dacr, .int .u32 c.prrr, .int .u32 c.nmrr, .int .i64 c.asid], .bool priv, .int .i64 k] w fun e w' => e = .returned (.agg #[.int .i64 (chF t c priv k).k, .int .i64 (chF t c priv k).l, .int .i64 (chF t c priv k).d]) ∧ Below w.heap.size w w' := by
  have h := rcheck_core t c.on c.tre c.afe c.n c.pd0 c.pd1 c.b0 c.b1 c.dacr c.prrr c.nmrr c.asid priv k (riF t) _ (baF t c.afe c.dacr priv k) w ha rfl rfl (fun hr => ri_range hf hr)
    (fun w => rright_any t w hf.va ⟨hf.pa, hf.bt⟩)
  refine h.mono ?_
  rintro e w' ⟨rfl, hb⟩
  refine ⟨?_, hb⟩
  unfold chF
  cases hq : (c.on && riF t) with
  | false => rfl
  | true =>
    rw [if_pos rfl, if_pos rfl]
    by_cases hz : baF t c.afe c.dacr priv k = 0
    · rw [if_pos hz, if_pos hz]
      rfl
    · rw [if_neg hz, if_neg hz]
end Go.Proofs.YtmodcbdgnmjkoabGreatDoor
namespace Go.Proofs.YtmodcbdgnmjkoabGreatDoor
open Go.RowKit
open Mm (Turn gr RM valV errV Byts)
set_option linter.unusedVariables false
set_option linter.unusedSimpArgs false
theorem Fa.not_z {F : Fa} (h : ¬ F.k = 0) : F.same fZ = false := by
  cases hq : F.same fZ with
  | false => rfl
  | true => exact absurd (by rw [(Fa.same_iff _ _).1 hq]; rfl) h
theorem ch_z {t : Tra} {c : Ctx} {priv : Bool} {k : Int} (h : (chF t c priv k).k = 0) : chF t c priv k = fZ := by
  unfold chF at h ⊢
  split
  · rename_i h1
    rw [if_pos h1] at h
    split
    · rfl
    · rename_i h2
      rw [if_neg h2] at h
      exact absurd h h2
  · rfl
set_option maxRecDepth 100000 in
set_option maxHeartbeats 4000000 in
theorem vgo_bad1 (c : Ctx) (va : Int) (priv : Bool) (k : Int) (w : World) (rv : Value) (U : Tra) (F : Fa) (hk : ∀ w, (Op.equalIn 10000 31 (.agg #[.int .i64 F.k, .int .i64 F.l, .int .i64 F.d]) (.agg #[.int .i64 0, .int .i64 0, .int .i64 0])).run Tryz.prog w = .ok false w) (hv : 0 ≤ va ∧ va < 4294967296) (ht : TW w)
    (HC : Hid (Calls Tryz.prog 5 #[rv, .agg #[.bool c.on, .bool c.tre, .bool c.afe, .int .i64 c.n, .bool c.pd0, .bool c.pd1, .int .u64 c.b0, .int .u64 c.b1, .int .u32 c.dacr, .int .u32 c.prrr, .int .u32 c.nmrr, .int .i64 c.asid], .int .u32 va] ((w.alloc (.cells #[.bool c.on, .bool c.tre, .bool c.afe, .int .i64 c.n, .bool c.pd0, .bool c.pd1, .int .u64 c.b0, .int .u64 c.b1, .int .u32 c.dacr, .int .u32 c.prrr, .int .u32 c.nmrr, .int .i64 c.asid] 25)).alloc (.cells #[.int .i64 0, .int .i64 0, .int .i64 0] 31)) fun e w' => e = .returned (.tuple #[.agg #[.int .i64 U.size, .int .u32 U.va, .int .u64 U.pa, .int .i64 U.dom, .int .i64 U.ap, .int .u32 U.bits, .bool U.ng, .bool U.xn], .agg #[.int .i64 F.k, .int .i64 F.l, .int .i64 F.d]]) ∧ Below ((w.alloc (.cells #[.bool c.on, .bool c.tre, .bool c.afe, .int .i64 c.n, .bool c.pd0, .bool c.pd1, .int .u64 c.b0, .int .u64 c.b1, .int .u32 c.dacr, .int .u32 c.prrr, .int .u32 c.nmrr, .int .i64 c.asid] 25)).alloc (.cells #[.int .i64 0, .int .i64 0, .int .i64 0] 31)).heap.size ((w.alloc (.cells #[.bool c.on, .bool c.tre, .bool c.afe, .int .i64 c.n, .bool c.pd0, .bool c.pd1, .int .u64 c.b0, .int .u64 c.b1, .int .u32 c.dacr, .int .u32 c.prrr, .int .u32 c.nmrr, .int .i64 c.asid] 25)).alloc (.cells #[.int .i64 0, .int .i64 0, .int .i64 0] 31)) w')) :
    Calls Tryz.prog 12 #[rv, .agg #[.bool c.on, .bool c.tre, .bool c.afe, .int .i64 c.n, .bool c.pd0, .bool c.pd1, .int .u64 c.b0, .int .u64 c.b1, .int .u32 c.dacr, .int .u32 c.prrr, .int .u32 c.nmrr, .int .i64 c.asid], .int .u32 va, .bool priv, .int .i64 k] w fun e w' => e = .returned (.tuple #[.int .u64 0, .agg #[.int .i64 F.k, .int .i64 F.l, .int .i64 F.d]]) ∧ Below w.heap.size w w' := by
  have HB := hidW (Below.step (below_new w (.cells #[.bool c.on, .bool c.tre, .bool c.afe, .int .i64 c.n, .bool c.pd0, .bool c.pd1, .int .u64 c.b0, .int .u64 c.b1, .int .u32 c.dacr, .int .u32 c.prrr, .int .u32 c.nmrr, .int .i64 c.asid] 25)) (below_new _ (.cells #[.int .i64 0, .int .i64 0, .int .i64 0] 31)))
  have HT := hidW (ht.below HB.out)
  have HX : Hid (Bl ((w.alloc (.cells #[.bool c.on, .bool c.tre, .bool c.afe, .int .i64 c.n, .bool c.pd0, .bool c.pd1, .int .u64 c.b0, .int .u64 c.b1, .int .u32 c.dacr, .int .u32 c.prrr, .int .u32 c.nmrr, .int .i64 c.asid] 25)).alloc (.cells #[.int .i64 0, .int .i64 0, .int .i64 0] 31)) w.heap.size 25 [.bool c.on, .bool c.tre, .bool c.afe, .int .i64 c.n, .bool c.pd0, .bool c.pd1, .int .u64 c.b0, .int .u64 c.b1, .int .u32 c.dacr, .int .u32 c.prrr, .int .u32 c.nmrr, .int .i64 c.asid]) := (Bl.new _ _ _).below (below_new _ _)
  have HR : Hid (Bl ((w.alloc (.cells #[.bool c.on, .bool c.tre, .bool c.afe, .int .i64 c.n, .bool c.pd0, .bool c.pd1, .int .u64 c.b0, .int .u64 c.b1, .int .u32 c.dacr, .int .u32 c.prrr, .int .u32 c.nmrr, .int .i64 c.asid] 25)).alloc (.cells #[.int .i64 0, .int .i64 0, .int .i64 0] 31)) (w.heap.size + 1) 31 [.int .i64 0, .int .i64 0, .int .i64 0]) := Bl.new1 _ _ _ _
  have hsz : ((w.alloc (.cells #[.bool c.on, .bool c.tre, .bool c.afe, .int .i64 c.n, .bool c.pd0, .bool c.pd1, .int .u64 c.b0, .int .u64 c.b1, .int .u32 c.dacr, .int .u32 c.prrr, .int .u32 c.nmrr, .int .i64 c.asid] 25)).alloc (.cells #[.int .i64 0, .int .i64 0, .int .i64 0] 31)).heap.size = w.heap.size + 1 + 1 := by simp
  have c0 := HX.out.cell
  clear ht
  go_enter Tryz.func12, Tryz.ntmps12
  go_wp2_with fail
  generalize hw0 : ((w.alloc (.cells #[.bool c.on, .bool c.tre, .bool c.afe, .int .i64 c.n, .bool c.pd0, .bool c.pd1, .int .u64 c.b0, .int .u64 c.b1, .int .u32 c.dacr, .int .u32 c.prrr, .int .u32 c.nmrr, .int .i64 c.asid] 25)).alloc (.cells #[.int .i64 0, .int .i64 0, .int .i64 0] 31)) = w0 at *
  clear hw0
  go_at_call 5
  refine HC.out.mono ?_
  rintro e v1 ⟨rfl, hb⟩
  have hb' := Below.step hb (Below.step (below_new v1 (.cells #[.int .i64 U.size, .int .u32 U.va, .int .u64 U.pa, .int .i64 U.dom, .int .i64 U.ap, .int .u32 U.bits, .bool U.ng, .bool U.xn] 29)) (below_new _ (.cells #[.int .i64 F.k, .int .i64 F.l, .int .i64 F.d] 31)))
  have HT1 := hidW (HT.out.below hb')
  have HX1 := hidW (HX.out.below hb')
  have HR1 := hidW (HR.out.below hb')
  have HB1 := hidW (Below.step HB.out hb')
  have hz := hb.size
  have HU : Hid (Bl ((v1.alloc (.cells #[.int .i64 U.size, .int .u32 U.va, .int .u64 U.pa, .int .i64 U.dom, .int .i64 U.ap, .int .u32 U.bits, .bool U.ng, .bool U.xn] 29)).alloc (.cells #[.int .i64 F.k, .int .i64 F.l, .int .i64 F.d] 31)) v1.heap.size 29 [.int .i64 U.size, .int .u32 U.va, .int .u64 U.pa, .int .i64 U.dom, .int .i64 U.ap, .int .u32 U.bits, .bool U.ng, .bool U.xn]) := (Bl.new _ _ _).below (below_new _ _)
  have HV : Hid (Bl ((v1.alloc (.cells #[.int .i64 U.size, .int .u32 U.va, .int .u64 U.pa, .int .i64 U.dom, .int .i64 U.ap, .int .u32 U.bits, .bool U.ng, .bool U.xn] 29)).alloc (.cells #[.int .i64 F.k, .int .i64 F.l, .int .i64 F.d] 31)) (v1.heap.size + 1) 31 [.int .i64 F.k, .int .i64 F.l, .int .i64 F.d]) := Bl.new1 _ _ _ _
  clear hb hb' HT HX HR HB HC c0
  have cU := HU.out.cell
  have cV := HV.out.cell
  have cX := HX1.out.cell
  have fV := HV.out.frozen
  have lV := HV.out.lt
  go_wp2_with fail
  generalize hx : w.heap.size = x at *
  generalize hww : (v1.alloc (.cells #[.int .i64 U.size, .int .u32 U.va, .int .u64 U.pa, .int .i64 U.dom, .int .i64 U.ap, .int .u32 U.bits, .bool U.ng, .bool U.xn] 29)).alloc (.cells #[.int .i64 F.k, .int .i64 F.l, .int .i64 F.d] 31) = w2 at *
  clear hww
  generalize hr : x + 1 = r at *
  generalize hy : v1.heap.size = y at *
  generalize hq : y + 1 = q at *
  have h1 : ¬ y = r := by omega
  have h2 : ¬ q = r := by omega
  have h3 : ¬ y = q := by omega
  have h4 : x ≤ q := by omega
  have h5 : x ≤ r := by omega
  clear hz hsz
  have HP0 : Hid (w2.drew.cell? ⟨q, 0, none⟩ = some (.int .i64 F.k)) := HV.out.drew.cell 0
  have HS0 : Hid (∀ v0 v1 v2, (((w2.setCell ⟨r, 0, none⟩ v0).setCell ⟨r, 1, none⟩ v1).setCell ⟨r, 2, none⟩ v2).drew.cell? ⟨q, 0, none⟩ = some (.int .i64 F.k)) := fun v0 v1 v2 => (Bl.keep3 HV.out h2 v0 v1 v2).drew.cell 0
  have HP1 : Hid (w2.drew.cell? ⟨q, 1, none⟩ = some (.int .i64 F.l)) := HV.out.drew.cell 1
  have HS1 : Hid (∀ v0 v1 v2, (((w2.setCell ⟨r, 0, none⟩ v0).setCell ⟨r, 1, none⟩ v1).setCell ⟨r, 2, none⟩ v2).drew.cell? ⟨q, 1, none⟩ = some (.int .i64 F.l)) := fun v0 v1 v2 => (Bl.keep3 HV.out h2 v0 v1 v2).drew.cell 1
  have HP2 : Hid (w2.drew.cell? ⟨q, 2, none⟩ = some (.int .i64 F.d)) := HV.out.drew.cell 2
  have HS2 : Hid (∀ v0 v1 v2, (((w2.setCell ⟨r, 0, none⟩ v0).setCell ⟨r, 1, none⟩ v1).setCell ⟨r, 2, none⟩ v2).drew.cell? ⟨q, 2, none⟩ = some (.int .i64 F.d)) := fun v0 v1 v2 => (Bl.keep3 HV.out h2 v0 v1 v2).drew.cell 2
  have cR := HR1.out.cell
  have fR := HR1.out.frozen
  have lR := HR1.out.lt
  go_region_held3 (fun w' => w'.cell? ⟨q, 0, none⟩ = some (.int .i64 F.k) ∧ w'.cell? ⟨q, 1, none⟩ = some (.int .i64 F.l) ∧ w'.cell? ⟨q, 2, none⟩ = some (.int .i64 F.d)) (first | (with_reducible exact ⟨HP0.out, HP1.out, HP2.out⟩) | (with_reducible exact ⟨HS0.out _ _ _, HS1.out _ _ _, HS2.out _ _ _⟩)) (first | fail)
  go_wp2
  refine bodyPost_ret (v := .tuple #[.int .u64 0, .agg #[.int .i64 F.k, .int .i64 F.l, .int .i64 F.d]]) (by simp [results, Tryz.results12, go_sem, cR, fR, lR]) rfl ⟨rfl, ?_⟩
  rw [hx]
  exact below_drew (Below.setCell (Below.setCell (Below.setCell HB1.out h5 _) h5 _) h5 _)
set_option maxRecDepth 100000 in
set_option maxHeartbeats 4000000 in
theorem vgo_bad2 (c : Ctx) (va : Int) (priv : Bool) (k : Int) (w : World) (rv : Value) (U : Tra) (F G : Fa) (hk : ∀ w, (Op.equalIn 10000 31 (.agg #[.int .i64 F.k, .int .i64 F.l, .int .i64 F.d]) (.agg #[.int .i64 0, .int .i64 0, .int .i64 0])).run Tryz.prog w = .ok true w) (hg : ∀ w, (Op.equalIn 10000 31 (.agg #[.int .i64 G.k, .int .i64 G.l, .int .i64 G.d]) (.agg #[.int .i64 0, .int .i64 0, .int .i64 0])).run Tryz.prog w = .ok false w) (hv : 0 ≤ va ∧ va < 4294967296) (ht : TW w)
    (HC : Hid (Calls Tryz.prog 5 #[rv, .agg #[.bool c.on, .bool c.tre, .bool c.afe, .int .i64 c.n, .bool c.pd0, .bool c.pd1, .int .u64 c.b0, .int .u64 c.b1, .int .u32 c.dacr, .int .u32 c.prrr, .int .u32 c.nmrr, .int .i64 c.asid], .int .u32 va] ((w.alloc (.cells #[.bool c.on, .bool c.tre, .bool c.afe, .int .i64 c.n, .bool c.pd0, .bool c.pd1, .int .u64 c.b0, .int .u64 c.b1, .int .u32 c.dacr, .int .u32 c.prrr, .int .u32 c.nmrr, .int .i64 c.asid] 25)).alloc (.cells #[.int .i64 0, .int .i64 0, .int .i64 0] 31)) fun e w' => e = .returned (.tuple #[.agg #[.int .i64 U.size, .int .u32 U.va, .int .u64 U.pa, .int .i64 U.dom, .int .i64 U.ap, .int .u32 U.bits, .bool U.ng, .bool U.xn], .agg #[.int .i64 F.k, .int .i64 F.l, .int .i64 F.d]]) ∧ Below ((w.alloc (.cells #[.bool c.on, .bool c.tre, .bool c.afe, .int .i64 c.n, .bool c.pd0, .bool c.pd1, .int .u64 c.b0, .int .u64 c.b1, .int .u32 c.dacr, .int .u32 c.prrr, .int .u32 c.nmrr, .int .i64 c.asid] 25)).alloc (.cells #[.int .i64 0, .int .i64 0, .int .i64 0] 31)).heap.size ((w.alloc (.cells #[.bool c.on, .bool c.tre, .bool c.afe, .int .i64 c.n, .bool c.pd0, .bool c.pd1, .int .u64 c.b0, .int .u64 c.b1, .int .u32 c.dacr, .int .u32 c.prrr, .int .u32 c.nmrr, .int .i64 c.asid] 25)).alloc (.cells #[.int .i64 0, .int .i64 0, .int .i64 0] 31)) w'))
    (HK : Hid (∀ w, TW w → Calls Tryz.prog 24 #[.agg #[.int .i64 U.size, .int .u32 U.va, .int .u64 U.pa, .int .i64 U.dom, .int .i64 U.ap, .int .u32 U.bits, .bool U.ng, .bool U.xn], .agg #[.bool c.on, .bool c.tre, .bool c.afe, .int .i64 c.n, .bool c.pd0, .bool c.pd1, .int .u64 c.b0, .int .u64 c.b1, .int .u32 c.dacr, .int .u32 c.prrr, .int .u32 c.nmrr, .int .i64 c.asid], .bool priv, .int .i64 k] w fun e w' => e = .returned (.agg #[.int .i64 G.k, .int .i64 G.l, .int .i64 G.d]) ∧ Below w.heap.size w w')) :
    Calls Tryz.prog 12 #[rv, .agg #[.bool c.on, .bool c.tre, .bool c.afe, .int .i64 c.n, .bool c.pd0, .bool c.pd1, .int .u64 c.b0, .int .u64 c.b1, .int .u32 c.dacr, .int .u32 c.prrr, .int .u32 c.nmrr, .int .i64 c.asid], .int .u32 va, .bool priv, .int .i64 k] w fun e w' => e = .returned (.tuple #[.int .u64 0, .agg #[.int .i64 G.k, .int .i64 G.l, .int .i64 G.d]]) ∧ Below w.heap.size w w' := by
  have HB := hidW (Below.step (below_new w (.cells #[.bool c.on, .bool c.tre, .bool c.afe, .int .i64 c.n, .bool c.pd0, .bool c.pd1, .int .u64 c.b0, .int .u64 c.b1, .int .u32 c.dacr, .int .u32 c.prrr, .int .u32 c.nmrr, .int .i64 c.asid] 25)) (below_new _ (.cells #[.int .i64 0, .int .i64 0, .int .i64 0] 31)))
  have HT := hidW (ht.below HB.out)
  have HX : Hid (Bl ((w.alloc (.cells #[.bool c.on, .bool c.tre, .bool c.afe, .int .i64 c.n, .bool c.pd0, .bool c.pd1, .int .u64 c.b0, .int .u64 c.b1, .int .u32 c.dacr, .int .u32 c.prrr, .int .u32 c.nmrr, .int .i64 c.asid] 25)).alloc (.cells #[.int .i64 0, .int .i64 0, .int .i64 0] 31)) w.heap.size 25 [.bool c.on, .bool c.tre, .bool c.afe, .int .i64 c.n, .bool c.pd0, .bool c.pd1, .int .u64 c.b0, .int .u64 c.b1, .int .u32 c.dacr, .int .u32 c.prrr, .int .u32 c.nmrr, .int .i64 c.asid]) := (Bl.new _ _ _).below (below_new _ _)
  have HR : Hid (Bl ((w.alloc (.cells #[.bool c.on, .bool c.tre, .bool c.afe, .int .i64 c.n, .bool c.pd0, .bool c.pd1, .int .u64 c.b0, .int .u64 c.b1, .int .u32 c.dacr, .int .u32 c.prrr, .int .u32 c.nmrr, .int .i64 c.asid] 25)).alloc (.cells #[.int .i64 0, .int .i64 0, .int .i64 0] 31)) (w.heap.size + 1) 31 [.int .i64 0, .int .i64 0, .int .i64 0]) := Bl.new1 _ _ _ _
  have hsz : ((w.alloc (.cells #[.bool c.on, .bool c.tre, .bool c.afe, .int .i64 c.n, .bool c.pd0, .bool c.pd1, .int .u64 c.b0, .int .u64 c.b1, .int .u32 c.dacr, .int .u32 c.prrr, .int .u32 c.nmrr, .int .i64 c.asid] 25)).alloc (.cells #[.int .i64 0, .int .i64 0, .int .i64 0] 31)).heap.size = w.heap.size + 1 + 1 := by simp
  have c0 := HX.out.cell
  clear ht
  go_enter Tryz.func12, Tryz.ntmps12
  go_wp2_with fail
  generalize hw0 : ((w.alloc (.cells #[.bool c.on, .bool c.tre, .bool c.afe, .int .i64 c.n, .bool c.pd0, .bool c.pd1, .int .u64 c.b0, .int .u64 c.b1, .int .u32 c.dacr, .int .u32 c.prrr, .int .u32 c.nmrr, .int .i64 c.asid] 25)).alloc (.cells #[.int .i64 0, .int .i64 0, .int .i64 0] 31)) = w0 at *
  clear hw0
  go_at_call 5
  refine HC.out.mono ?_
  rintro e v1 ⟨rfl, hb⟩
  have hb' := Below.step hb (Below.step (below_new v1 (.cells #[.int .i64 U.size, .int .u32 U.va, .int .u64 U.pa, .int .i64 U.dom, .int .i64 U.ap, .int .u32 U.bits, .bool U.ng, .bool U.xn] 29)) (below_new _ (.cells #[.int .i64 F.k, .int .i64 F.l, .int .i64 F.d] 31)))
  have HT1 := hidW (HT.out.below hb')
  have HX1 := hidW (HX.out.below hb')
  have HR1 := hidW (HR.out.below hb')
  have HB1 := hidW (Below.step HB.out hb')
  have hz := hb.size
  have HU : Hid (Bl ((v1.alloc (.cells #[.int .i64 U.size, .int .u32 U.va, .int .u64 U.pa, .int .i64 U.dom, .int .i64 U.ap, .int .u32 U.bits, .bool U.ng, .bool U.xn] 29)).alloc (.cells #[.int .i64 F.k, .int .i64 F.l, .int .i64 F.d] 31)) v1.heap.size 29 [.int .i64 U.size, .int .u32 U.va, .int .u64 U.pa, .int .i64 U.dom, .int .i64 U.ap, .int .u32 U.bits, .bool U.ng, .bool U.xn]) := (Bl.new _ _ _).below (below_new _ _)
  have HV : Hid (Bl ((v1.alloc (.cells #[.int .i64 U.size, .int .u32 U.va, .int .u64 U.pa, .int .i64 U.dom, .int .i64 U.ap, .int .u32 U.bits, .bool U.ng, .bool U.xn] 29)).alloc (.cells #[.int .i64 F.k, .int .i64 F.l, .int .i64 F.d] 31)) (v1.heap.size + 1) 31 [.int .i64 F.k, .int .i64 F.l, .int .i64 F.d]) := Bl.new1 _ _ _ _
  clear hb hb' HT HX HR HB HC c0
  have cU := HU.out.cell
  have cV := HV.out.cell
  have cX := HX1.out.cell
  go_wp2_with fail
  generalize hx : w.heap.size = x at *
  generalize hww : (v1.alloc (.cells #[.int .i64 U.size, .int .u32 U.va, .int .u64 U.pa, .int .i64 U.dom, .int .i64 U.ap, .int .u32 U.bits, .bool U.ng, .bool U.xn] 29)).alloc (.cells #[.int .i64 F.k, .int .i64 F.l, .int .i64 F.d] 31) = w1 at *
  clear hww
  generalize hr : x + 1 = r at *
  generalize hy : v1.heap.size = y at *
  generalize hq : y + 1 = q at *
  have h1 : ¬ y = r := by omega
  have h2 : ¬ q = r := by omega
  have h3 : ¬ y = q := by omega
  have h4 : x ≤ q := by omega
  have h5 : x ≤ r := by omega
  clear hz hsz
  go_at_call 24
  refine (HK.out _ HT1.out).mono ?_
  rintro e w3 ⟨rfl, hb⟩
  have HT := hidW (HT1.out.below hb)
  have HR2 := hidW (HR1.out.below hb)
  have HB2 := hidW (below_at hx HB1.out hb)
  have HU2 := hidW (HU.out.below hb)
  have HV2 := hidW (HV.out.below hb)
  clear hb HT1 HX1 HR1 HB1 HU HV HK cU cV cX
  have cU := HU2.out.cell
  have cV := HV2.out.cell
  have fV := HV2.out.frozen
  have lV := HV2.out.lt
  have hqr := (fun e => h2 e.symm : ¬ r = q)
  have hqy := (fun e => h3 e.symm : ¬ q = y)
  go_wp2_with fail
  have HV := hidW (HV2.out.set3 (.int .i64 G.k) (.int .i64 G.l) (.int .i64 G.d))
  have HR1 := hidW (HR2.out.keep3 hqr (.int .i64 G.k) (.int .i64 G.l) (.int .i64 G.d))
  have HB1 : Hid (Below x w (((w3.setCell ⟨q, 0, none⟩ (.int .i64 G.k)).setCell ⟨q, 1, none⟩ (.int .i64 G.l)).setCell ⟨q, 2, none⟩ (.int .i64 G.d))) := Below.setCell (Below.setCell (Below.setCell HB2.out h4 _) h4 _) h4 _
  clear cU cV fV lV HU2 HV2 HR2 HB2
  generalize ((w3.setCell ⟨q, 0, none⟩ (.int .i64 G.k)).setCell ⟨q, 1, none⟩ (.int .i64 G.l)).setCell ⟨q, 2, none⟩ (.int .i64 G.d) = w2 at *
  have HP0 : Hid (w2.drew.cell? ⟨q, 0, none⟩ = some (.int .i64 G.k)) := HV.out.drew.cell 0
  have HS0 : Hid (∀ v0 v1 v2, (((w2.setCell ⟨r, 0, none⟩ v0).setCell ⟨r, 1, none⟩ v1).setCell ⟨r, 2, none⟩ v2).drew.cell? ⟨q, 0, none⟩ = some (.int .i64 G.k)) := fun v0 v1 v2 => (Bl.keep3 HV.out h2 v0 v1 v2).drew.cell 0
  have HP1 : Hid (w2.drew.cell? ⟨q, 1, none⟩ = some (.int .i64 G.l)) := HV.out.drew.cell 1
  have HS1 : Hid (∀ v0 v1 v2, (((w2.setCell ⟨r, 0, none⟩ v0).setCell ⟨r, 1, none⟩ v1).setCell ⟨r, 2, none⟩ v2).drew.cell? ⟨q, 1, none⟩ = some (.int .i64 G.l)) := fun v0 v1 v2 => (Bl.keep3 HV.out h2 v0 v1 v2).drew.cell 1
  have HP2 : Hid (w2.drew.cell? ⟨q, 2, none⟩ = some (.int .i64 G.d)) := HV.out.drew.cell 2
  have HS2 : Hid (∀ v0 v1 v2, (((w2.setCell ⟨r, 0, none⟩ v0).setCell ⟨r, 1, none⟩ v1).setCell ⟨r, 2, none⟩ v2).drew.cell? ⟨q, 2, none⟩ = some (.int .i64 G.d)) := fun v0 v1 v2 => (Bl.keep3 HV.out h2 v0 v1 v2).drew.cell 2
  have cR := HR1.out.cell
  have fR := HR1.out.frozen
  have lR := HR1.out.lt
  go_region_held3 (fun w' => w'.cell? ⟨q, 0, none⟩ = some (.int .i64 G.k) ∧ w'.cell? ⟨q, 1, none⟩ = some (.int .i64 G.l) ∧ w'.cell? ⟨q, 2, none⟩ = some (.int .i64 G.d)) (first | (with_reducible exact ⟨HP0.out, HP1.out, HP2.out⟩) | (with_reducible exact ⟨HS0.out _ _ _, HS1.out _ _ _, HS2.out _ _ _⟩)) (first | fail)
  go_wp2
  refine bodyPost_ret (v := .tuple #[.int .u64 0, .agg #[.int .i64 G.k, .int .i64 G.l, .int .i64 G.d]]) (by simp [results, Tryz.results12, go_sem, cR, fR, lR]) rfl ⟨rfl, ?_⟩
  rw [hx]
  exact below_drew (Below.setCell (Below.setCell (Below.setCell HB1.out h5 _) h5 _) h5 _)
set_option maxRecDepth 100000 in
set_option maxHeartbeats 4000000 in
theorem vgo_fine (c : Ctx) (va : Int) (priv : Bool) (k : Int) (w : World) (rv : Value) (U : Tra) (F G : Fa) (hk : ∀ w, (Op.equalIn 10000 31 (.agg #[.int .i64 F.k, .int .i64 F.l, .int .i64 F.d]) (.agg #[.int .i64 0, .int .i64 0, .int .i64 0])).run Tryz.prog w = .ok true w) (hg : ∀ w, (Op.equalIn 10000 31 (.agg #[.int .i64 G.k, .int .i64 G.l, .int .i64 G.d]) (.agg #[.int .i64 0, .int .i64 0, .int .i64 0])).run Tryz.prog w = .ok true w) (hm : IntKind.u32.wrap (va - U.va) = va - U.va) (hu : IntKind.u64.wrap (va - U.va) = va - U.va) (ha : IntKind.u64.wrap (U.pa + (va - U.va)) = U.pa + (va - U.va)) (hv : 0 ≤ va ∧ va < 4294967296) (ht : TW w)
    (HC : Hid (Calls Tryz.prog 5 #[rv, .agg #[.bool c.on, .bool c.tre, .bool c.afe, .int .i64 c.n, .bool c.pd0, .bool c.pd1, .int .u64 c.b0, .int .u64 c.b1, .int .u32 c.dacr, .int .u32 c.prrr, .int .u32 c.nmrr, .int .i64 c.asid], .int .u32 va] ((w.alloc (.cells #[.bool c.on, .bool c.tre, .bool c.afe, .int .i64 c.n, .bool c.pd0, .bool c.pd1, .int .u64 c.b0, .int .u64 c.b1, .int .u32 c.dacr, .int .u32 c.prrr, .int .u32 c.nmrr, .int .i64 c.asid] 25)).alloc (.cells #[.int .i64 0, .int .i64 0, .int .i64 0] 31)) fun e w' => e = .returned (.tuple #[.agg #[.int .i64 U.size, .int .u32 U.va, .int .u64 U.pa, .int .i64 U.dom, .int .i64 U.ap, .int .u32 U.bits, .bool U.ng, .bool U.xn], .agg #[.int .i64 F.k, .int .i64 F.l, .int .i64 F.d]]) ∧ Below ((w.alloc (.cells #[.bool c.on, .bool c.tre, .bool c.afe, .int .i64 c.n, .bool c.pd0, .bool c.pd1, .int .u64 c.b0, .int .u64 c.b1, .int .u32 c.dacr, .int .u32 c.prrr, .int .u32 c.nmrr, .int .i64 c.asid] 25)).alloc (.cells #[.int .i64 0, .int .i64 0, .int .i64 0] 31)).heap.size ((w.alloc (.cells #[.bool c.on, .bool c.tre, .bool c.afe, .int .i64 c.n, .bool c.pd0, .bool c.pd1, .int .u64 c.b0, .int .u64 c.b1, .int .u32 c.dacr, .int .u32 c.prrr, .int .u32 c.nmrr, .int .i64 c.asid] 25)).alloc (.cells #[.int .i64 0, .int .i64 0, .int .i64 0] 31)) w'))
    (HK : Hid (∀ w, TW w → Calls Tryz.prog 24 #[.agg #[.int .i64 U.size, .int .u32 U.va, .int .u64 U.pa, .int .i64 U.dom, .int .i64 U.ap, .int .u32 U.bits, .bool U.ng, .bool U.xn], .agg #[.bool c.on, .bool c.tre, .bool c.afe, .int .i64 c.n, .bool c.pd0, .bool c.pd1, .int .u64 c.b0, .int .u64 c.b1, .int .u32 c.dacr, .int .u32 c.prrr, .int .u32 c.nmrr, .int .i64 c.asid], .bool priv, .int .i64 k] w fun e w' => e = .returned (.agg #[.int .i64 G.k, .int .i64 G.l, .int .i64 G.d]) ∧ Below w.heap.size w w')) :
    Calls Tryz.prog 12 #[rv, .agg #[.bool c.on, .bool c.tre, .bool c.afe, .int .i64 c.n, .bool c.pd0, .bool c.pd1, .int .u64 c.b0, .int .u64 c.b1, .int .u32 c.dacr, .int .u32 c.prrr, .int .u32 c.nmrr, .int .i64 c.asid], .int .u32 va, .bool priv, .int .i64 k] w fun e w' => e = .returned (.tuple #[.int .u64 (U.pa + (va - U.va)), .agg #[.int .i64 fZ.k, .int .i64 fZ.l, .int .i64 fZ.d]]) ∧ Below w.heap.size w w' := by
  have HB := hidW (Below.step (below_new w (.cells #[.bool c.on, .bool c.tre, .bool c.afe, .int .i64 c.n, .bool c.pd0, .bool c.pd1, .int .u64 c.b0, .int .u64 c.b1, .int .u32 c.dacr, .int .u32 c.prrr, .int .u32 c.nmrr, .int .i64 c.asid] 25)) (below_new _ (.cells #[.int .i64 0, .int .i64 0, .int .i64 0] 31)))
  have HT := hidW (ht.below HB.out)
  have HX : Hid (Bl ((w.alloc (.cells #[.bool c.on, .bool c.tre, .bool c.afe, .int .i64 c.n, .bool c.pd0, .bool c.pd1, .int .u64 c.b0, .int .u64 c.b1, .int .u32 c.dacr, .int .u32 c.prrr, .int .u32 c.nmrr, .int .i64 c.asid] 25)).alloc (.cells #[.int .i64 0, .int .i64 0, .int .i64 0] 31)) w.heap.size 25 [.bool c.on, .bool c.tre, .bool c.afe, .int .i64 c.n, .bool c.pd0, .bool c.pd1, .int .u64 c.b0, .int .u64 c.b1, .int .u32 c.dacr, .int .u32 c.prrr, .int .u32 c.nmrr, .int .i64 c.asid]) := (Bl.new _ _ _).below (below_new _ _)
  have HR : Hid (Bl ((w.alloc (.cells #[.bool c.on, .bool c.tre, .bool c.afe, .int .i64 c.n, .bool c.pd0, .bool c.pd1, .int .u64 c.b0, .int .u64 c.b1, .int .u32 c.dacr, .int .u32 c.prrr, .int .u32 c.nmrr, .int .i64 c.asid] 25)).alloc (.cells #[.int .i64 0, .int .i64 0, .int .i64 0] 31)) (w.heap.size + 1) 31 [.int .i64 0, .int .i64 0, .int .i64 0]) := Bl.new1 _ _ _ _
  have hsz : ((w.alloc (.cells #[.bool c.on, .bool c.tre, .bool c.afe, .int .i64 c.n, .bool c.pd0, .bool c.pd1, .int .u64 c.b0, .int .u64 c.b1, .int .u32 c.dacr, .int .u32 c.prrr, .int .u32 c.nmrr, .int .i64 c.asid] 25)).alloc (.cells #[.int .i64 0, .int .i64 0, .int .i64 0] 31)).heap.size = w.heap.size + 1 + 1 := by simp
  have c0 := HX.out.cell
  clear ht
  go_enter Tryz.func12, Tryz.ntmps12
  go_wp2_with fail
  generalize hw0 : ((w.alloc (.cells #[.bool c.on, .bool c.tre, .bool c.afe, .int .i64 c.n, .bool c.pd0, .bool c.pd1, .int .u64 c.b0, .int .u64 c.b1, .int .u32 c.dacr, .int .u32 c.prrr, .int .u32 c.nmrr, .int .i64 c.asid] 25)).alloc (.cells #[.int .i64 0, .int .i64 0, .int .i64 0] 31)) = w0 at *
  clear hw0
  go_at_call 5
  refine HC.out.mono ?_
  rintro e v1 ⟨rfl, hb⟩
  have hb' := Below.step hb (Below.step (below_new v1 (.cells #[.int .i64 U.size, .int .u32 U.va, .int .u64 U.pa, .int .i64 U.dom, .int .i64 U.ap, .int .u32 U.bits, .bool U.ng, .bool U.xn] 29)) (below_new _ (.cells #[.int .i64 F.k, .int .i64 F.l, .int .i64 F.d] 31)))
  have HT1 := hidW (HT.out.below hb')
  have HX1 := hidW (HX.out.below hb')
  have HR1 := hidW (HR.out.below hb')
  have HB1 := hidW (Below.step HB.out hb')
  have hz := hb.size
  have HU : Hid (Bl ((v1.alloc (.cells #[.int .i64 U.size, .int .u32 U.va, .int .u64 U.pa, .int .i64 U.dom, .int .i64 U.ap, .int .u32 U.bits, .bool U.ng, .bool U.xn] 29)).alloc (.cells #[.int .i64 F.k, .int .i64 F.l, .int .i64 F.d] 31)) v1.heap.size 29 [.int .i64 U.size, .int .u32 U.va, .int .u64 U.pa, .int .i64 U.dom, .int .i64 U.ap, .int .u32 U.bits, .bool U.ng, .bool U.xn]) := (Bl.new _ _ _).below (below_new _ _)
  have HV : Hid (Bl ((v1.alloc (.cells #[.int .i64 U.size, .int .u32 U.va, .int .u64 U.pa, .int .i64 U.dom, .int .i64 U.ap, .int .u32 U.bits, .bool U.ng, .bool U.xn] 29)).alloc (.cells #[.int .i64 F.k, .int .i64 F.l, .int .i64 F.d] 31)) (v1.heap.size + 1) 31 [.int .i64 F.k, .int .i64 F.l, .int .i64 F.d]) := Bl.new1 _ _ _ _
  clear hb hb' HT HX HR HB HC c0
  have cU := HU.out.cell
  have cV := HV.out.cell
  have cX := HX1.out.cell
  go_wp2_with fail
  generalize hx : w.heap.size = x at *
  generalize hww : (v1.alloc (.cells #[.int .i64 U.size, .int .u32 U.va, .int .u64 U.pa, .int .i64 U.dom, .int .i64 U.ap, .int .u32 U.bits, .bool U.ng, .bool U.xn] 29)).alloc (.cells #[.int .i64 F.k, .int .i64 F.l, .int .i64 F.d] 31) = w1 at *
  clear hww
  generalize hr : x + 1 = r at *
  generalize hy : v1.heap.size = y at *
  generalize hq : y + 1 = q at *
  have h1 : ¬ y = r := by omega
  have h2 : ¬ q = r := by omega
  have h3 : ¬ y = q := by omega
  have h4 : x ≤ q := by omega
  have h5 : x ≤ r := by omega
  clear hz hsz
  go_at_call 24
  refine (HK.out _ HT1.out).mono ?_
  rintro e w3 ⟨rfl, hb⟩
  have HT := hidW (HT1.out.below hb)
  have HR2 := hidW (HR1.out.below hb)
  have HB2 := hidW (below_at hx HB1.out hb)
  have HU2 := hidW (HU.out.below hb)
  have HV2 := hidW (HV.out.below hb)
  clear hb HT1 HX1 HR1 HB1 HU HV HK cU cV cX
  have cU := HU2.out.cell
  have cV := HV2.out.cell
  have fV := HV2.out.frozen
  have lV := HV2.out.lt
  have hqr := (fun e => h2 e.symm : ¬ r = q)
  have hqy := (fun e => h3 e.symm : ¬ q = y)
  have HV := hidW (HV2.out.set3 (.int .i64 G.k) (.int .i64 G.l) (.int .i64 G.d))
  have HR1 := hidW (HR2.out.keep3 hqr (.int .i64 G.k) (.int .i64 G.l) (.int .i64 G.d))
  have cR := HR2.out.cell
  have fR := HR2.out.frozen
  have lR := HR2.out.lt
  have cR1 := HR1.out.cell
  have fR1 := HR1.out.frozen
  have lR1 := HR1.out.lt
  go_wp2
  refine bodyPost_ret (v := .tuple #[.int .u64 (U.pa + (va - U.va)), .agg #[.int .i64 fZ.k, .int .i64 fZ.l, .int .i64 fZ.d]]) (by simp [results, Tryz.results12, go_sem, fZ, cR, fR, lR, cR1, fR1, lR1]) rfl ⟨rfl, ?_⟩
  rw [hx]
  exact Below.setCell (Below.setCell (Below.setCell (Below.setCell (Below.setCell (Below.setCell HB2.out h4 _) h4 _) h4 _) h5 _) h5 _) h5 _
theorem vgo_any (c : Ctx) (va : Int) (priv : Bool) (k : Int) (w : World) {S : Nat → Prop} {rv : Value} {M : Mo} (h : MemR w S rv M) (ht : TW w) (hc : c.Ok) (hv : 0 ≤ va ∧ va < 4294967296) :
    Calls Tryz.prog 12 #[rv, .agg #[.bool c.on, .bool c.tre, .bool c.afe, .int .i64 c.n, .bool c.pd0, .bool c.pd1, .int .u64 c.b0, .int .u64 c.b1, .int .u32 c.dacr, .int .u32 c.prrr, .int .u32 c.nmrr, .int .i64 c.asid], .int .u32 va, .bool priv, .int .i64 k] w fun e w' => e = .returned (.tuple #[.int .u64 (goF M c va priv k).1, .agg #[.int .i64 ((goF M c va priv k).2).k, .int .i64 ((goF M c va priv k).2).l, .int .i64 ((goF M c va priv k).2).d]]) ∧ Below w.heap.size w w' := by
  have b0 : Below w.heap.size w ((w.alloc (.cells #[.bool c.on, .bool c.tre, .bool c.afe, .int .i64 c.n, .bool c.pd0, .bool c.pd1, .int .u64 c.b0, .int .u64 c.b1, .int .u32 c.dacr, .int .u32 c.prrr, .int .u32 c.nmrr, .int .i64 c.asid] 25)).alloc (.cells #[.int .i64 0, .int .i64 0, .int .i64 0] 31)) := Below.step (below_new _ _) (below_new _ _)
  have HC := hidW (vwalk_any c va _ (h.below b0) (ht.below b0) hc hv)
  have HF : (wk M c va).2.k = 0 → (wk M c va).2 = fZ ∧ Fnd (wk M c va).1 va := fun hk => by
    obtain ⟨h1, h2, _⟩ := found h.ok hc hv rfl hk
    exact ⟨h1, h2⟩
  unfold goF
  generalize wk M c va = R at *
  obtain ⟨U, F⟩ := R
  dsimp only at HF ⊢
  by_cases hk : F.k = 0
  · obtain ⟨hF, hf⟩ := HF hk
    have HK := hidW (fun w (hw : TW w) => rcheck_any U c priv k w (hf.ft hv) hc.dacr)
    have hrg := hf.rng hv
    have hpa := hf.pa
    have q1 : ∀ w, (Op.equalIn 10000 31 (.agg #[.int .i64 F.k, .int .i64 F.l, .int .i64 F.d]) (.agg #[.int .i64 0, .int .i64 0, .int .i64 0])).run Tryz.prog w = .ok true w := fun w => by
      have h := eqF F fZ w
      rw [hF, Fa.same_self] at h
      rw [hF]; exact h
    rw [if_pos hk]
    by_cases hg : (chF U c priv k).k = 0
    · rw [if_pos hg]
      have q2 : ∀ w, (Op.equalIn 10000 31 (.agg #[.int .i64 (chF U c priv k).k, .int .i64 (chF U c priv k).l, .int .i64 (chF U c priv k).d]) (.agg #[.int .i64 0, .int .i64 0, .int .i64 0])).run Tryz.prog w = .ok true w := fun w => by
        have h := eqF (chF U c priv k) fZ w
        rw [ch_z hg, Fa.same_self] at h
        rw [ch_z hg]; exact h
      exact vgo_fine c va priv k w rv U F (chF U c priv k) q1 q2 (by rw [IntKind.wrap_u32]; omega) (by rw [IntKind.wrap_u64]; omega) (by rw [IntKind.wrap_u64]; omega) hv ht HC HK
    · rw [if_neg hg]
      have q2 : ∀ w, (Op.equalIn 10000 31 (.agg #[.int .i64 (chF U c priv k).k, .int .i64 (chF U c priv k).l, .int .i64 (chF U c priv k).d]) (.agg #[.int .i64 0, .int .i64 0, .int .i64 0])).run Tryz.prog w = .ok false w := fun w => by
        have h := eqF (chF U c priv k) fZ w
        rw [Fa.not_z hg] at h
        exact h
      exact vgo_bad2 c va priv k w rv U F (chF U c priv k) q1 q2 hv ht HC HK
  · rw [if_neg hk]
    have q1 : ∀ w, (Op.equalIn 10000 31 (.agg #[.int .i64 F.k, .int .i64 F.l, .int .i64 F.d]) (.agg #[.int .i64 0, .int .i64 0, .int .i64 0])).run Tryz.prog w = .ok false w := fun w => by
      have h := eqF F fZ w
      rw [Fa.not_z hk] at h
      exact h
    exact vgo_bad1 c va priv k w rv U F q1 hv ht HC
end Go.Proofs.YtmodcbdgnmjkoabGreatDoor
namespace Go.Proofs.YtmodcbdgnmjkoabGreatDoor
open Go.ChangeShapes Go.WideShapes Go.ChangeAt Go.RowKit Go.Deep
set_option linter.unusedVariables false
set_option linter.unusedSimpArgs false
theorem cells_int : Tryz.prog.cellsOf 3 = 1 := by kernel_rfl
theorem cells_bool : Tryz.prog.cellsOf 4 = 1 := by kernel_rfl
theorem cells_u32 : Tryz.prog.cellsOf 23 = 1 := by kernel_rfl
theorem cells_leaf : Tryz.prog.cellsOf 27 = 4 := by kernel_rfl
theorem cells_may : Tryz.prog.cellsOf 130 = 2 := by kernel_rfl
theorem cells_row : Tryz.prog.cellsOf 146 = 4 := by kernel_rfl
set_option linter.unusedVariables false
set_option linter.unusedSimpArgs false
theorem cells_i : Tryz.prog.cellsOf 3 = 1 := by kernel_rfl
theorem cells_b : Tryz.prog.cellsOf 4 = 1 := by kernel_rfl
theorem cells_u8 : Tryz.prog.cellsOf 5 = 1 := by kernel_rfl
theorem cells_u64 : Tryz.prog.cellsOf 22 = 1 := by kernel_rfl
theorem cells_tra : Tryz.prog.cellsOf 29 = 8 := by kernel_rfl
theorem cells_ctx : Tryz.prog.cellsOf 25 = 12 := by kernel_rfl
theorem cells_a6 : Tryz.prog.cellsOf 76 = 6 := by kernel_rfl
variable {H : Type} {enc : TypeId × Value → H} {w : World} {base : Nat} {sp : Nat → Bool} {held : Bool}
/-- What it reads as. -/
def ctxD (m : Ctx) : DataW H := .agg [.lit (.bool m.on), .lit (.bool m.tre), .lit (.bool m.afe), .lit (.int .i64 m.n), .lit (.bool m.pd0), .lit (.bool m.pd1), .lit (.int .u64 m.b0), .lit (.int .u64 m.b1), .lit (.int .u32 m.dacr), .lit (.int .u32 m.prrr), .lit (.int .u32 m.nmrr), .lit (.int .i64 m.asid)]
structure CtxWf (m : Ctx) : Prop where
  n : (Lit.int .i64 m.n).wf = true
  b0 : (Lit.int .u64 m.b0).wf = true
  b1 : (Lit.int .u64 m.b1).wf = true
  dacr : (Lit.int .u32 m.dacr).wf = true
  prrr : (Lit.int .u32 m.prrr).wf = true
  nmrr : (Lit.int .u32 m.nmrr).wf = true
  asid : (Lit.int .i64 m.asid).wf = true
set_option maxRecDepth 100000 in
theorem shut_ctx {m : Ctx} (h : CtxWf m) : DataW.Trod enc Tryz.prog w base sp held 25 (.agg #[.bool m.on, .bool m.tre, .bool m.afe, .int .i64 m.n, .bool m.pd0, .bool m.pd1, .int .u64 m.b0, .int .u64 m.b1, .int .u32 m.dacr, .int .u32 m.prrr, .int .u32 m.nmrr, .int .i64 m.asid]) (ctxD m) [] := by
  obtain ⟨h0, h1, h2, h3, h4, h5, h6⟩ := h
  exact ⟨2, by simp [DataW.trod, Value.cells, Tryz.underlying25, Tryz.underlying4, Tryz.underlying3, Tryz.underlying23, Tryz.underlying22, cells_ctx, cells_int, cells_bool, cells_u32, cells_u64, h0, h1, h2, h3, h4, h5, h6, ctxD]⟩
set_option maxRecDepth 100000 in
theorem open_ctx {r : Reach} {b0 : Nat} {v : Value} {d : DataW H} {ps : List MemPlace} (hv : Value.okWide Tryz.prog w r b0 25 v) (h : DataW.Trod enc Tryz.prog w base sp held 25 v d ps) :
    ∃ m : Ctx, v = .agg #[.bool m.on, .bool m.tre, .bool m.afe, .int .i64 m.n, .bool m.pd0, .bool m.pd1, .int .u64 m.b0, .int .u64 m.b1, .int .u32 m.dacr, .int .u32 m.prrr, .int .u32 m.nmrr, .int .i64 m.asid] ∧ d = ctxD m ∧ ps = [] ∧ CtxWf m := by
  obtain ⟨cs, rfl, hsz⟩ := okWide_struct Tryz.underlying25 hv
  obtain ⟨v0, v1, v2, v3, v4, v5, v6, v7, v8, v9, v10, v11, rfl⟩ : ∃ v0 v1 v2 v3 v4 v5 v6 v7 v8 v9 v10 v11, cs = #[v0, v1, v2, v3, v4, v5, v6, v7, v8, v9, v10, v11] := by
    obtain ⟨l⟩ := cs
    match l, hsz.trans cells_ctx with
    | [v0, v1, v2, v3, v4, v5, v6, v7, v8, v9, v10, v11], _ => exact ⟨v0, v1, v2, v3, v4, v5, v6, v7, v8, v9, v10, v11, rfl⟩
  obtain ⟨fuel, hf⟩ := h
  obtain ⟨xs, n, _, hx, _, hlen, hq⟩ := DataW.trod_struct Tryz.underlying25 hf
  obtain ⟨y0, y1, y2, y3, y4, y5, y6, y7, y8, y9, y10, y11, rfl⟩ : ∃ y0 y1 y2 y3 y4 y5 y6 y7 y8 y9 y10 y11, xs = [y0, y1, y2, y3, y4, y5, y6, y7, y8, y9, y10, y11] := by
    match xs, hlen with
    | [y0, y1, y2, y3, y4, y5, y6, y7, y8, y9, y10, y11], _ => exact ⟨y0, y1, y2, y3, y4, y5, y6, y7, y8, y9, y10, y11, rfl⟩
  have h0 : DataW.trod enc Tryz.prog w base sp held n 4 [v0] = some y0 := by simpa [Value.cells, cells_bool] using hq 0 _ rfl
  have h1 : DataW.trod enc Tryz.prog w base sp held n 4 [v1] = some y1 := by simpa [Value.cells, cells_bool] using hq 1 _ rfl
  have h2 : DataW.trod enc Tryz.prog w base sp held n 4 [v2] = some y2 := by simpa [Value.cells, cells_bool] using hq 2 _ rfl
  have h3 : DataW.trod enc Tryz.prog w base sp held n 3 [v3] = some y3 := by simpa [Value.cells, cells_int] using hq 3 _ rfl
  have h4 : DataW.trod enc Tryz.prog w base sp held n 4 [v4] = some y4 := by simpa [Value.cells, cells_bool] using hq 4 _ rfl
  have h5 : DataW.trod enc Tryz.prog w base sp held n 4 [v5] = some y5 := by simpa [Value.cells, cells_bool] using hq 5 _ rfl
  have h6 : DataW.trod enc Tryz.prog w base sp held n 22 [v6] = some y6 := by simpa [Value.cells, cells_u64] using hq 6 _ rfl
  have h7 : DataW.trod enc Tryz.prog w base sp held n 22 [v7] = some y7 := by simpa [Value.cells, cells_u64] using hq 7 _ rfl
  have h8 : DataW.trod enc Tryz.prog w base sp held n 23 [v8] = some y8 := by simpa [Value.cells, cells_u32] using hq 8 _ rfl
  have h9 : DataW.trod enc Tryz.prog w base sp held n 23 [v9] = some y9 := by simpa [Value.cells, cells_u32] using hq 9 _ rfl
  have h10 : DataW.trod enc Tryz.prog w base sp held n 23 [v10] = some y10 := by simpa [Value.cells, cells_u32] using hq 10 _ rfl
  have h11 : DataW.trod enc Tryz.prog w base sp held n 3 [v11] = some y11 := by simpa [Value.cells, cells_int] using hq 11 _ rfl
  obtain ⟨i0, e0, r0⟩ := DataW.trod_bool Tryz.underlying4 h0
  obtain ⟨i1, e1, r1⟩ := DataW.trod_bool Tryz.underlying4 h1
  obtain ⟨i2, e2, r2⟩ := DataW.trod_bool Tryz.underlying4 h2
  obtain ⟨i3, e3, r3, w3⟩ := DataW.trod_int Tryz.underlying3 h3
  obtain ⟨i4, e4, r4⟩ := DataW.trod_bool Tryz.underlying4 h4
  obtain ⟨i5, e5, r5⟩ := DataW.trod_bool Tryz.underlying4 h5
  obtain ⟨i6, e6, r6, w6⟩ := DataW.trod_int Tryz.underlying22 h6
  obtain ⟨i7, e7, r7, w7⟩ := DataW.trod_int Tryz.underlying22 h7
  obtain ⟨i8, e8, r8, w8⟩ := DataW.trod_int Tryz.underlying23 h8
  obtain ⟨i9, e9, r9, w9⟩ := DataW.trod_int Tryz.underlying23 h9
  obtain ⟨i10, e10, r10, w10⟩ := DataW.trod_int Tryz.underlying23 h10
  obtain ⟨i11, e11, r11, w11⟩ := DataW.trod_int Tryz.underlying3 h11
  simp only [List.cons.injEq, and_true] at e0 e1 e2 e3 e4 e5 e6 e7 e8 e9 e10 e11
  subst e0 e1 e2 e3 e4 e5 e6 e7 e8 e9 e10 e11 r0 r1 r2 r3 r4 r5 r6 r7 r8 r9 r10 r11
  obtain ⟨hd, hp⟩ := Prod.mk.inj hx
  exact ⟨⟨i0, i1, i2, i3, i4, i5, i6, i7, i8, i9, i10, i11⟩, rfl, hd, hp, ⟨w3, w6, w7, w8, w9, w10, w11⟩⟩
def traD (t : Tra) : DataW H := .agg [.lit (.int .i64 t.size), .lit (.int .u32 t.va), .lit (.int .u64 t.pa), .lit (.int .i64 t.dom), .agg [.lit (.int .i64 t.ap), .lit (.int .u32 t.bits), .lit (.bool t.ng), .lit (.bool t.xn)]]
structure TraWf (t : Tra) : Prop where
  s : (Lit.int .i64 t.size).wf = true
  v : (Lit.int .u32 t.va).wf = true
  p : (Lit.int .u64 t.pa).wf = true
  d : (Lit.int .i64 t.dom).wf = true
  a : (Lit.int .i64 t.ap).wf = true
  t : (Lit.int .u32 t.bits).wf = true
set_option maxRecDepth 100000 in
theorem shut_tra {t : Tra} (h : TraWf t) : DataW.Trod enc Tryz.prog w base sp held 29 (.agg #[.int .i64 t.size, .int .u32 t.va, .int .u64 t.pa, .int .i64 t.dom, .int .i64 t.ap, .int .u32 t.bits, .bool t.ng, .bool t.xn]) (traD t) [] := by
  obtain ⟨h1, h2, h3, h4, h5, h6⟩ := h
  exact ⟨3, by simp [DataW.trod, Value.cells, Tryz.underlying29, Tryz.underlying27, Tryz.underlying3, Tryz.underlying4, Tryz.underlying23, Tryz.underlying22, cells_tra, cells_leaf, cells_i, cells_b, cells_u32, cells_u64, h1, h2, h3, h4, h5, h6, traD]⟩

theorem array8 {cs : Array Value} (h : cs.size = 8) : ∃ a b c d e f g i, cs = #[a, b, c, d, e, f, g, i] := by
  obtain ⟨l⟩ := cs
  match l, h with
  | [a, b, c, d, e, f, g, i], _ => exact ⟨a, b, c, d, e, f, g, i, rfl⟩

theorem open_leaf4 {fuel : Nat} {a b c d : Value} {x : DataW H × List MemPlace} (h : DataW.trod enc Tryz.prog w base sp held fuel 27 [a, b, c, d] = some x) :
    ∃ (n m : Int) (p q : Bool), a = .int .i64 n ∧ b = .int .u32 m ∧ c = .bool p ∧ d = .bool q ∧ x = (.agg [.lit (.int .i64 n), .lit (.int .u32 m), .lit (.bool p), .lit (.bool q)], []) ∧ (Lit.int .i64 n).wf = true ∧ (Lit.int .u32 m).wf = true := by
  obtain ⟨y0, y1, y2, y3, n, rfl, _, h0, h1, h2, h3⟩ := Go.Joins.trod_struct4 Tryz.underlying27 h
  simp only [cells_i, cells_u32, cells_b, List.drop_zero, List.drop_succ_cons, List.take_succ_cons, List.take_zero] at h0 h1 h2 h3
  obtain ⟨i0, e0, r0, w0⟩ := DataW.trod_int Tryz.underlying3 h0
  obtain ⟨i1, e1, r1, w1⟩ := DataW.trod_int Tryz.underlying23 h1
  obtain ⟨i2, e2, r2⟩ := DataW.trod_bool Tryz.underlying4 h2
  obtain ⟨i3, e3, r3⟩ := DataW.trod_bool Tryz.underlying4 h3
  simp only [List.cons.injEq, and_true] at e0 e1 e2 e3
  subst e0 e1 e2 e3 r0 r1 r2 r3
  exact ⟨i0, i1, i2, i3, rfl, rfl, rfl, rfl, rfl, w0, w1⟩
set_option maxRecDepth 100000 in
theorem open_tra {r : Reach} {b0 : Nat} {v : Value} {d : DataW H} {ps : List MemPlace} (hv : Value.okWide Tryz.prog w r b0 29 v) (h : DataW.Trod enc Tryz.prog w base sp held 29 v d ps) :
    ∃ t : Tra, v = .agg #[.int .i64 t.size, .int .u32 t.va, .int .u64 t.pa, .int .i64 t.dom, .int .i64 t.ap, .int .u32 t.bits, .bool t.ng, .bool t.xn] ∧ d = traD t ∧ ps = [] ∧ TraWf t := by
  obtain ⟨cs, rfl, hsz⟩ := okWide_struct Tryz.underlying29 hv
  obtain ⟨v0, v1, v2, v3, v4, v5, v6, v7, rfl⟩ := array8 (hsz.trans cells_tra)
  obtain ⟨fuel, hf⟩ := h
  obtain ⟨xs, n, _, hx, _, hlen, hq⟩ := DataW.trod_struct Tryz.underlying29 hf
  obtain ⟨y0, y1, y2, y3, y4, rfl⟩ : ∃ y0 y1 y2 y3 y4, xs = [y0, y1, y2, y3, y4] := by
    match xs, hlen with
    | [y0, y1, y2, y3, y4], _ => exact ⟨y0, y1, y2, y3, y4, rfl⟩
  · skip
    have h0 : DataW.trod enc Tryz.prog w base sp held n 3 [v0] = some y0 := by simpa [Value.cells, cells_i] using hq 0 _ rfl
    have h1 : DataW.trod enc Tryz.prog w base sp held n 23 [v1] = some y1 := by simpa [Value.cells, cells_u32] using hq 1 _ rfl
    have h2 : DataW.trod enc Tryz.prog w base sp held n 22 [v2] = some y2 := by simpa [Value.cells, cells_u64] using hq 2 _ rfl
    have h3 : DataW.trod enc Tryz.prog w base sp held n 3 [v3] = some y3 := by simpa [Value.cells, cells_i] using hq 3 _ rfl
    have h4 : DataW.trod enc Tryz.prog w base sp held n 27 [v4, v5, v6, v7] = some y4 := by simpa [Value.cells, cells_leaf] using hq 4 _ rfl
    obtain ⟨i0, e0, r0, w0⟩ := DataW.trod_int Tryz.underlying3 h0
    obtain ⟨i1, e1, r1, w1⟩ := DataW.trod_int Tryz.underlying23 h1
    obtain ⟨i2, e2, r2, w2⟩ := DataW.trod_int Tryz.underlying22 h2
    obtain ⟨i3, e3, r3, w3⟩ := DataW.trod_int Tryz.underlying3 h3
    obtain ⟨i4, i5, i6, i7, rfl, rfl, rfl, rfl, r4, w4, w5⟩ := open_leaf4 h4
    simp only [List.cons.injEq, and_true] at e0 e1 e2 e3
    subst e0 e1 e2 e3 r0 r1 r2 r3 r4
    obtain ⟨hd, hp⟩ := Prod.mk.inj hx
    exact ⟨⟨i0, i1, i2, i3, i4, i5, i6, i7⟩, rfl, hd, hp, ⟨w0, w1, w2, w3, w4, w5⟩⟩

def mayD (a b : Bool) : DataW Unit := .agg [.lit (.bool a), .lit (.bool b)]
def rowD (r : Row) : DataW Unit := .agg [mayD r.pr r.pw, mayD r.ur r.uw]
/-- A listed variable. -/
theorem laid_mem {P : Program} {W : World} {n : String} {d : DataW Unit} : ∀ {L : List (String × DataW Unit)} {ps : List MemPlace}, DataW.LaidVars P W L ps → (n, d) ∈ L →
    ∃ g t cs fuel p, P.globalNamed n = some g ∧ (P.globals[g]?).map (·.type) = some t ∧ W.var? P n = some cs ∧ DataW.trod (fun _ => ()) P W 0 (fun _ => true) false fuel t cs.toList = some (d, p)
  | [], _, _, hm => by cases hm
  | (n', d') :: L, ps, h, hm => by
    obtain ⟨g, t, cs, fuel, p, q, h1, h2, h3, h4, h5, _⟩ := h
    rcases List.mem_cons.1 hm with he | hm
    · cases he
      exact ⟨g, t, cs, fuel, p, h1, h2, h3, h4⟩
    · exact laid_mem h5 hm
/-- An element of an array. -/
theorem arr_at {P : Program} {W : World} {fuel : Nat} {t e : TypeId} {m c : Nat} {cs : List Value} {x : DataW Unit × List MemPlace} (h : DataW.trod (fun _ => ()) P W 0 (fun _ => true) false fuel t cs = some x)
    (ht : P.underlying t = some (.array m e)) (hce : P.cellsOf e = c) (hct : P.cellsOf t = m * c) :
    cs.length = m * c ∧ ∃ ds, x.1 = .agg ds ∧ ds.length = m ∧ ∀ i, i < m → ∃ f' y, ds[i]? = some y.1 ∧ DataW.trod (fun _ => ()) P W 0 (fun _ => true) false f' e ((cs.drop (i * c)).take c) = some y := by
  cases fuel with
  | zero => simp [DataW.trod] at h
  | succ fuel =>
    simp only [DataW.trod, ht, hct, hce] at h
    split at h
    · rename_i hl
      obtain ⟨xs, hx1, rfl⟩ := Option.map_eq_some_iff.1 h
      refine ⟨by simpa using hl, xs.map (·.1), by simp, ?_, fun i hi => ?_⟩
      · have := Lib.mapM_length hx1
        simpa using this
      · obtain ⟨b, hb, hf⟩ := Lib.mapM_at hx1 i i (by simp [hi])
        exact ⟨fuel, b, by simp [hb], hf⟩
    · cases h
/-- An element of a listed array. -/
theorem tab_at {W : World} {L : List (String × DataW Unit)} {ps : List MemPlace} (h : DataW.LaidVars Tryz.prog W L ps) {n : String} {g : Nat} {t e : TypeId} {m c : Nat} (ds : List (DataW Unit))
    (hm : (n, DataW.agg ds) ∈ L) (hg : Tryz.prog.globalNamed n = some g) (hty : (Tryz.prog.globals[g]?).map (·.type) = some t)
    (ht : Tryz.prog.underlying t = some (.array m e)) (hce : Tryz.prog.cellsOf e = c) (hct : Tryz.prog.cellsOf t = m * c) (i : Nat) (hi : i < m) :
    ∃ cs fuel x, (∀ j v, j < c → cs[j]? = some v → W.cell? ⟨g, i * c + j, none⟩ = some v) ∧ ds[i]? = some x.1 ∧ DataW.trod (fun _ => ()) Tryz.prog W 0 (fun _ => true) false fuel e cs = some x := by
  obtain ⟨g', t', cs, fuel, p, h1, h2, h3, h4⟩ := laid_mem h hm
  obtain rfl := Option.some.inj (hg.symm.trans h1)
  obtain rfl := Option.some.inj (hty.symm.trans h2)
  obtain ⟨_, ds', he, _, hat⟩ := arr_at h4 ht hce hct
  obtain rfl : ds = ds' := by simpa using he
  obtain ⟨f', y, hy, hf⟩ := hat i hi
  refine ⟨_, f', y, ?_, hy, hf⟩
  intro j v hj hv
  rw [World.var?_cell hg h3 (i * c + j), ← Array.getElem?_toList]
  simpa [List.getElem?_take, List.getElem?_drop, hj] using hv
set_option maxRecDepth 100000 in
theorem may_cells {W : World} {fuel : Nat} {cs : List Value} {x : DataW Unit × List MemPlace} (h : DataW.trod (fun _ => ()) Tryz.prog W 0 (fun _ => true) false fuel 130 cs = some x) :
    ∃ a b : Bool, cs = [.bool a, .bool b] ∧ x.1 = mayD a b := by
  obtain ⟨y0, y1, n, hx, hl, h0, h1⟩ := trod_struct2 Tryz.underlying130 h
  rw [cells_may] at hl
  obtain ⟨a, b, rfl⟩ : ∃ a b, cs = [a, b] := by
    match cs, hl with
    | [a, b], _ => exact ⟨a, b, rfl⟩
  simp only [cells_bool, List.drop_zero, List.drop_succ_cons, List.take_succ_cons, List.take_zero] at h0 h1
  obtain ⟨i0, e0, r0⟩ := DataW.trod_bool Tryz.underlying4 h0
  obtain ⟨i1, e1, r1⟩ := DataW.trod_bool Tryz.underlying4 h1
  simp only [List.cons.injEq, and_true] at e0 e1
  subst e0 e1 r0 r1
  exact ⟨i0, i1, rfl, by rw [hx]; rfl⟩
set_option maxRecDepth 100000 in
theorem row_cells {W : World} {fuel : Nat} {cs : List Value} {x : DataW Unit × List MemPlace} (h : DataW.trod (fun _ => ()) Tryz.prog W 0 (fun _ => true) false fuel 146 cs = some x) :
    ∃ r : Row, cs = [.bool r.pr, .bool r.pw, .bool r.ur, .bool r.uw] ∧ x.1 = rowD r := by
  obtain ⟨y0, y1, n, hx, hl, h0, h1⟩ := trod_struct2 Tryz.underlying146 h
  rw [cells_row] at hl
  obtain ⟨a, b, c, d, rfl⟩ : ∃ a b c d, cs = [a, b, c, d] := by
    match cs, hl with
    | [a, b, c, d], _ => exact ⟨a, b, c, d, rfl⟩
  simp only [cells_may, List.drop_zero, List.drop_succ_cons, List.take_succ_cons, List.take_zero] at h0 h1
  obtain ⟨a1, b1, e0, r0⟩ := may_cells h0
  obtain ⟨a2, b2, e1, r1⟩ := may_cells h1
  simp only [List.cons.injEq, and_true] at e0 e1
  obtain ⟨rfl, rfl⟩ := e0
  obtain ⟨rfl, rfl⟩ := e1
  exact ⟨⟨a1, b1, a2, b2⟩, rfl, by rw [hx]; simp only [r0, r1]; rfl⟩
/-- A listed table of permissions. -/
theorem perm_of {W : World} {L : List (String × DataW Unit)} {ps : List MemPlace} (h : DataW.LaidVars Tryz.prog W L ps) {n : String} {g : Nat} {t : TypeId} {m : Nat} (l : List Row)
    (hm : (n, DataW.agg (l.map rowD)) ∈ L) (hg : Tryz.prog.globalNamed n = some g) (hty : (Tryz.prog.globals[g]?).map (·.type) = some t)
    (ht : Tryz.prog.underlying t = some (.array m 146)) (hct : Tryz.prog.cellsOf t = m * 4) (hl : l.length = m) : ∀ q r, l[q]? = some r → RoB W g (q * 4) r := by
  intro q r hr
  have hi : q < m := by rw [← hl]; exact (List.getElem?_eq_some_iff.1 hr).1
  obtain ⟨cs, fuel, x, h1, h2, h3⟩ := tab_at h _ hm hg hty ht cells_row hct q hi
  obtain ⟨r', rfl, hx⟩ := row_cells h3
  rw [hx] at h2
  simp [hr] at h2
  obtain rfl : r = r' := by
    obtain ⟨a1, a2, a3, a4⟩ := r
    obtain ⟨b1, b2, b3, b4⟩ := r'
    simpa [rowD, mayD, and_assoc] using h2
  exact ⟨h1 0 _ (by decide) rfl, h1 1 _ (by decide) rfl, h1 2 _ (by decide) rfl, h1 3 _ (by decide) rfl⟩
/-- A listed table of numbers. -/
theorem tab_of {k : IntKind} {W : World} {L : List (String × DataW Unit)} {ps : List MemPlace} (h : DataW.LaidVars Tryz.prog W L ps) {n : String} {g : Nat} {t e : TypeId} {m : Nat} (l : List Int)
    (hm : (n, DataW.agg (l.map fun z => .lit (.int k z))) ∈ L) (hg : Tryz.prog.globalNamed n = some g) (hty : (Tryz.prog.globals[g]?).map (·.type) = some t)
    (ht : Tryz.prog.underlying t = some (.array m e)) (he : Tryz.prog.underlying e = some (.int k)) (hce : Tryz.prog.cellsOf e = 1) (hct : Tryz.prog.cellsOf t = m) : Tb k W g l := by
  obtain ⟨g', t', cs, fuel, p, h1, h2, h3, h4⟩ := laid_mem h hm
  obtain rfl := Option.some.inj (hg.symm.trans h1)
  obtain rfl := Option.some.inj (hty.symm.trans h2)
  have hcs := Lib.cells_of_tab (zs := l) ht he hce hct h4
  intro i v hv
  rw [World.var?_cell hg h3 i, ← Array.getElem?_toList, hcs]
  simp [hv]
/-- A listed table of tables of six numbers. -/
theorem tab2_of {W : World} {L : List (String × DataW Unit)} {ps : List MemPlace} (h : DataW.LaidVars Tryz.prog W L ps) {n : String} {g : Nat} {t : TypeId} (ls : List (List Int))
    (hm : (n, DataW.agg (ls.map fun l => .agg (l.map fun z => .lit (.int .u8 z)))) ∈ L) (hg : Tryz.prog.globalNamed n = some g) (hty : (Tryz.prog.globals[g]?).map (·.type) = some t)
    (ht : Tryz.prog.underlying t = some (.array 6 76)) (hct : Tryz.prog.cellsOf t = 36) (i j : Nat) (l : List Int) (v : Int) (hl : ls[i]? = some l) (hv : l[j]? = some v) (hj : j < 6) (hi : i < 6) : W.cell? ⟨g, i * 6 + j, none⟩ = some (.int .u8 v) := by
  obtain ⟨g', t', cs, fuel, p, h1, h2, h3, h4⟩ := laid_mem h hm
  obtain rfl := Option.some.inj (hg.symm.trans h1)
  obtain rfl := Option.some.inj (hty.symm.trans h2)
  rw [World.var?_cell hg h3 (i * 6 + j), ← Array.getElem?_toList]
  cases fuel with
  | zero => simp [DataW.trod] at h4
  | succ fuel =>
    simp only [DataW.trod, ht, hct, cells_a6] at h4
    split at h4
    · obtain ⟨xs, hx1, hx⟩ := Option.map_eq_some_iff.1 h4
      have hxs : xs.map (·.1) = ls.map fun l => (DataW.agg (l.map fun z => .lit (.int .u8 z)) : DataW Unit) := by
        have := congrArg Prod.fst hx
        simpa using this
      obtain ⟨b, hb, hf⟩ := Lib.mapM_at hx1 i i (by simp [hi])
      have hb1 : b.1 = DataW.agg (l.map fun z => .lit (.int .u8 z)) := by
        have e1 : (xs.map (·.1))[i]? = some b.1 := by simp [hb]
        rw [hxs] at e1
        simp [hl] at e1
        exact e1.symm
      obtain ⟨b1, b2⟩ := b
      simp only at hb1
      subst hb1
      have hcs := Lib.cells_of_tab (zs := l) Tryz.underlying76 Tryz.underlying5 cells_u8 cells_a6 hf
      have e2 := congrArg (·[j]?) hcs
      simp only [List.getElem?_take, List.getElem?_drop, List.getElem?_map, hv, if_pos hj, Option.map_some] at e2
      exact e2
    · cases h4

theorem CtxWf.ok {c : Ctx} (h : CtxWf c) : c.Ok := by
  have h1 := bounds_i64 h.n
  have h2 := bounds_u64 h.b0
  have h3 := bounds_u64 h.b1
  have h4 := bounds_u32 h.dacr
  exact ⟨by omega, by omega, by omega, by omega⟩
theorem add_add' (a : Addr) (m n : Nat) : (a.add m).add n = a.add (m + n) := by
  unfold Addr.add
  split <;> split <;> simp_all <;> omega
/-- A slice of whatever has k cells, opened. -/
theorem open_rows {α : Type} {W : World} (E : TypeId) (k : Nat) (hk : 0 < k) (hE : Tryz.prog.cellsOf E = k) (en : α → List Value) (ok : α → Prop) (d0 : α)
    (dec : ∀ {fuel : Nat} {cs : List Value} {x : DataW H × List MemPlace}, DataW.trod enc Tryz.prog W 0 (fun _ => true) true fuel E cs = some x → ∃ o, cs = en o ∧ ok o) (hen : ∀ o, (en o).length = k)
    {T : TypeId} (hT : Tryz.prog.underlying T = some (.slice E)) {fuel : Nat} {a : Option Addr} {len cap : Nat} {x : DataW H × List MemPlace}
    (h : DataW.trod enc Tryz.prog W 0 (fun _ => true) true fuel T (Value.slice a len cap).cells.toList = some x) :
    ∃ ops : List α, ops.length = len ∧ (∀ i o, ops[i]? = some o → ∃ b off, a = some ⟨b, off, none⟩ ∧ b < W.heap.size ∧ ∀ j v, (en o)[j]? = some v → W.cell? ⟨b, off + i * k + j, none⟩ = some v) ∧ (∀ o ∈ ops, ok o) ∧ ops.length ≤ maxLen := by
  rcases open_slice hT h with ⟨hcs, rfl⟩ | ⟨a', len', cap', m, n, D, Pl, hcs, hb, hl, hm, hmm, rfl, hx⟩
  · simp [Value.cells] at hcs
    obtain ⟨rfl, rfl, rfl⟩ := hcs
    exact ⟨[], rfl, ⟨fun i o ho => (by simp at ho), ⟨fun o ho => (by cases ho), Nat.zero_le _⟩⟩⟩
  · simp [Value.cells] at hcs
    obtain ⟨rfl, rfl, rfl⟩ := hcs
    have hlm : len ≤ m := by rw [hmm]; split <;> omega
    have first : ∀ i, i < len → ∃ o, ok o ∧ ∀ j v, (en o)[j]? = some v → W.cell? (a'.add (i * k + j)) = some v := by
      intro i hi
      obtain ⟨cs', h1, h2⟩ := hx i (by omega)
      rw [hE] at h1
      obtain ⟨_, hlen, hcell⟩ := World.cells?_some h1
      obtain ⟨o, rfl, ho⟩ := dec h2
      refine ⟨o, ho, fun j v hv => ?_⟩
      have hj : j < k := by
        have := (List.getElem?_eq_some_iff.1 hv).1
        rw [hen] at this; exact this
      have ej := hcell j hj
      rw [add_add', hv] at ej
      exact ej
    have hat : ∀ i o, (∀ j v, (en o)[j]? = some v → W.cell? (a'.add (i * k + j)) = some v) → ∃ v, W.cell? (a'.add (i * k)) = some v := by
      intro i o ho
      obtain ⟨v, hv⟩ : ∃ v, (en o)[0]? = some v := ⟨_, List.getElem?_eq_getElem (by rw [hen]; exact hk)⟩
      exact ⟨v, by have := ho 0 v hv; simpa using this⟩
    have each : ∀ i : Nat, ∃ o : α, i < len → (∃ b off, some a' = some (⟨b, off, none⟩ : Addr) ∧ b < W.heap.size ∧ ∀ j v, (en o)[j]? = some v → W.cell? ⟨b, off + i * k + j, none⟩ = some v) ∧ ok o := by
      intro i
      by_cases hi : i < len
      · obtain ⟨o, ho, hc⟩ := first i hi
        obtain ⟨o0, _, hc0⟩ := first 0 (by omega)
        obtain ⟨v0, e0⟩ := hat i o hc
        obtain ⟨v1, e1⟩ := hat 0 o0 hc0
        have hb0 := World.block_lt_of_cell? W _ e0
        obtain ⟨b, off, spot⟩ := a'
        have hsp : spot = none := by
          have := World.cell?_spot e1
          simpa [Addr.add] using this
        subst hsp
        rw [Addr.add_lit] at hb0
        refine ⟨o, fun _ => ⟨⟨b, off, rfl, hb0, fun j v hv => ?_⟩, ho⟩⟩
        have ej := hc j v hv
        rw [Addr.add_lit, ← Nat.add_assoc] at ej
        exact ej
      · exact ⟨d0, fun h => absurd h hi⟩
    obtain ⟨f, hf⟩ := Classical.skolem.1 each
    refine ⟨(List.range len).map f, by simp, fun i o ho => ?_, fun o ho => ?_, ?_⟩
    · have hi : i < len := by
        have := (List.getElem?_eq_some_iff.1 ho).1
        simpa using this
      rw [List.getElem?_map, List.getElem?_range hi] at ho
      simp at ho
      subst ho
      exact (hf i hi).1
    · obtain ⟨i, hi, rfl⟩ := List.mem_map.1 ho
      exact (hf i (List.mem_range.1 hi)).2
    · simp only [List.length_map, List.length_range]
      omega
set_option maxRecDepth 100000 in
theorem u32_cells {W : World} {fuel : Nat} {cs : List Value} {x : DataW H × List MemPlace} (h : DataW.trod enc Tryz.prog W base sp held fuel 23 cs = some x) :
    ∃ o : Int, cs = [.int .u32 o] ∧ (0 ≤ o ∧ o < 4294967296) := by
  obtain ⟨i0, e0, _, w0⟩ := DataW.trod_int Tryz.underlying23 h
  have b0 := bounds_u32 w0
  exact ⟨i0, e0, by omega, by omega⟩
set_option maxRecDepth 100000 in
theorem tra_cells {W : World} {fuel : Nat} {cs : List Value} {x : DataW H × List MemPlace} (h : DataW.trod enc Tryz.prog W base sp held fuel 29 cs = some x) :
    ∃ t : Tra, cs = [.int .i64 t.size, .int .u32 t.va, .int .u64 t.pa, .int .i64 t.dom, .int .i64 t.ap, .int .u32 t.bits, .bool t.ng, .bool t.xn] ∧ TraWf t := by
  obtain ⟨xs, n, _, hx, hl, hlen, hq⟩ := DataW.trod_struct Tryz.underlying29 h
  rw [cells_tra] at hl
  obtain ⟨v0, v1, v2, v3, v4, v5, v6, v7, rfl⟩ : ∃ v0 v1 v2 v3 v4 v5 v6 v7, cs = [v0, v1, v2, v3, v4, v5, v6, v7] := by
    match cs, hl with
    | [v0, v1, v2, v3, v4, v5, v6, v7], _ => exact ⟨v0, v1, v2, v3, v4, v5, v6, v7, rfl⟩
  obtain ⟨y0, y1, y2, y3, y4, rfl⟩ : ∃ y0 y1 y2 y3 y4, xs = [y0, y1, y2, y3, y4] := by
    match xs, hlen with
    | [y0, y1, y2, y3, y4], _ => exact ⟨y0, y1, y2, y3, y4, rfl⟩
  have h0 : DataW.trod enc Tryz.prog W base sp held n 3 [v0] = some y0 := by simpa [Value.cells, cells_i] using hq 0 _ rfl
  have h1 : DataW.trod enc Tryz.prog W base sp held n 23 [v1] = some y1 := by simpa [Value.cells, cells_u32] using hq 1 _ rfl
  have h2 : DataW.trod enc Tryz.prog W base sp held n 22 [v2] = some y2 := by simpa [Value.cells, cells_u64] using hq 2 _ rfl
  have h3 : DataW.trod enc Tryz.prog W base sp held n 3 [v3] = some y3 := by simpa [Value.cells, cells_i] using hq 3 _ rfl
  have h4 : DataW.trod enc Tryz.prog W base sp held n 27 [v4, v5, v6, v7] = some y4 := by simpa [Value.cells, cells_leaf] using hq 4 _ rfl
  obtain ⟨i0, e0, _, w0⟩ := DataW.trod_int Tryz.underlying3 h0
  obtain ⟨i1, e1, _, w1⟩ := DataW.trod_int Tryz.underlying23 h1
  obtain ⟨i2, e2, _, w2⟩ := DataW.trod_int Tryz.underlying22 h2
  obtain ⟨i3, e3, _, w3⟩ := DataW.trod_int Tryz.underlying3 h3
  obtain ⟨i4, i5, i6, i7, rfl, rfl, rfl, rfl, _, w4, w5⟩ := open_leaf4 h4
  simp only [List.cons.injEq, and_true] at e0 e1 e2 e3
  subst e0 e1 e2 e3
  exact ⟨⟨i0, i1, i2, i3, i4, i5, i6, i7⟩, rfl, ⟨w0, w1, w2, w3, w4, w5⟩⟩
theorem open_tras {W : World} {fuel : Nat} {a : Option Addr} {len cap : Nat} {x : DataW H × List MemPlace} (h : DataW.trod enc Tryz.prog W 0 (fun _ => true) true fuel 65 (Value.slice a len cap).cells.toList = some x) :
    ∃ ts : List Tra, ts.length = len ∧ (∀ i o, ts[i]? = some o → ∃ b off, a = some ⟨b, off, none⟩ ∧ b < W.heap.size ∧ ∀ j v, ([.int .i64 o.size, .int .u32 o.va, .int .u64 o.pa, .int .i64 o.dom, .int .i64 o.ap, .int .u32 o.bits, .bool o.ng, .bool o.xn])[j]? = some v → W.cell? ⟨b, off + i * 8 + j, none⟩ = some v) ∧ (∀ o ∈ ts, TraWf o) ∧ ts.length ≤ maxLen :=
  open_rows 29 8 (by omega) cells_tra (fun o : Tra => [.int .i64 o.size, .int .u32 o.va, .int .u64 o.pa, .int .i64 o.dom, .int .i64 o.ap, .int .u32 o.bits, .bool o.ng, .bool o.xn]) _ ⟨0, 0, 0, 0, 0, 0, false, false⟩ (fun h => tra_cells h) (fun _ => rfl) Tryz.underlying65 h
end Go.Proofs.YtmodcbdgnmjkoabGreatDoor
namespace Go.Proofs.YtmodcbdgnmjkoabGreatDoor
open Go.RowKit Go.Shelf
open Mm (Turn gr RowAt)
set_option linter.unusedVariables false
set_option linter.unusedSimpArgs false
attribute [local go_sem] Oper.semAt_some
def sq2 : Code → Code
  | .seq _ y => y
  | c => c
def sq1 : Code → Code
  | .seq x _ => x
  | c => c
theorem wp_parts {F : Fence} {n : Nat} {P : Program} {c : Code} {Q : Exit → Act → World → Prop} {a : Act} {w : World} (hc : ∃ x y, c = .seq x y)
    (h : ∀ K : Act → World → Prop, (∀ a w, (sq2 c).wpIn F n P Q a w → K a w) → (sq1 c).wpIn F n P (Exit.then K Q) a w) : c.wpIn F n P Q a w := by
  obtain ⟨x, y, rfl⟩ := hc
  exact wpIn_seq_k h
def putTail : Nat → Code → Code → Code
  | 0, _, t => t
  | n + 1, .seq x y, t => .seq x (putTail n y t)
  | _ + 1, c, _ => c
theorem wp_cut {P : Program} {Q : Exit → Act → World → Prop} {a : Act} {w : World} (k : Nat) (c t : Code) (h : putTail k c t = c) (g : ∀ C : Code, (∀ a w, t.wp P Q a w → C.wp P Q a w) → (putTail k c C).wp P Q a w) : c.wp P Q a w := by
  rw [← h]
  exact g t (fun _ _ h => h)
theorem results_ret {fn : Func} {q : Tmp} (h : fn.results = #[.cell q 4]) (tmps : Array Value) (w : World) (b : Nat) (v : Bool) (hp : tmps.getD q undef = .pointer (some ⟨b, 0, none⟩)) (hb : Bl w b 4 [.bool v]) :
    (results fn tmps).run Tryz.prog w = .ok (.bool v) w := by
  have hp' : tmps[q]?.getD undef = .pointer (some ⟨b, 0, none⟩) := by simpa using hp
  have hc := hb.cell 0
  simp only [List.getElem?_cons_zero] at hc
  simp only [results, h]
  go_simp
theorem leaves_ret {fn : Func} {q : Tmp} (h : fn.results = #[.cell q 4]) (tmps : Array Value) (W Y : World) (D b : Nat) (hp : tmps.getD q undef = .pointer (some ⟨b, 0, none⟩)) (hb : Bl Y b 4 [.bool true]) (hK : Y.heap[D]? = some (.deferred (some []))) (hbel : Below W.heap.size W Y) (hD : W.heap.size ≤ D) :
    LeavesInM Fence.wide 3 Tryz.prog fn tmps (fun e W' => e = .returned (.bool true) ∧ Below W.heap.size W W') [{ target := .collected D, args := #[] }] .returning Y := by
  refine ⟨by simp, .inl ⟨_, _, rfl, run_takeDeferred hK, ?_⟩⟩
  have hne : b ≠ D := by
    rintro rfl
    rw [show Y.heap[b]? = _ from hb] at hK
    cases hK
  refine ⟨_, results_ret h _ _ b true hp ?_, rfl, ?_⟩
  · exact ((grownBy_putObj' Y D _).block b hb.lt (by intro e; cases e; exact hne rfl)).trans hb
  · exact hbel.trans (belowK_b (w := W) (Nat.le_refl _) _ D _ _ hD hK rfl rfl)
theorem set_at {W : World} {b : Nat} {o : Obj} {q : Nat} (v : Value) (h : W.heap[b]? = some o) (hne : b ≠ q) : (W.setCell ⟨q, 0, none⟩ v).heap[b]? = some o := by
  rw [Below.heap_setCell W ⟨q, 0, none⟩ v b hne]
  exact h
/-- Without a memory there is no block. -/
theorem gaL_nil (c : Ctx) (va : Int) : gaL nilMo c va = [] := by
  unfold gaL
  split
  · rename_i h
    obtain ⟨_, he, _⟩ := w1_kind h
    exact absurd he (by show ¬ (30 : Int) = 0; decide)
  · rfl
theorem blL_nil (c : Ctx) : blL nilMo c = [] := by
  have h1 : ∀ va n, wiT nilMo c va n = [] := fun va n => by
    unfold wiT
    rw [List.flatMap_eq_nil_iff]
    exact fun i _ => gaL_nil c _
  have h2 : ∀ va, wiL nilMo c va = [] := fun va => by
    unfold wiL
    rw [h1]
    simp [soT, nd]
  unfold blL
  split
  · unfold blT
    rw [List.flatMap_eq_nil_iff]
    exact fun i _ => h2 _
  · rfl
theorem smF_nil (c : Ctx) (hc : c.Ok) (t : Tra) (hf : Fz t) : smF nilMo c t = false := by
  cases h : smF nilMo c t with
  | false => rfl
  | true =>
    have h0 := h
    unfold smF at h0
    simp only [Bool.and_eq_true] at h0
    obtain ⟨hon, hri, _⟩ := h0
    have hb : 0 < byN t.size := by rcases ri_size hri with h | h | h | h <;> rw [h] <;> decide
    have hw := sm_at nilMo_ok hc hf h (k := 0) ⟨Int.le_refl _, hb⟩
    rw [Int.add_zero] at hw
    rcases (found nilMo_ok hc hf.va hw rfl).2.2 with ⟨h1, _⟩ | ⟨_, _, h1, _⟩ | ⟨_, s, _, _, h1, _⟩
    · rw [hon] at h1; cases h1
    · exact absurd h1 (by show ¬ (30 : Int) = 0; decide)
    · exact absurd h1 (by show ¬ (30 : Int) = 0; decide)
/-- The tables. -/
structure TN (w : World) : Prop where
  c : TC w
  s : TS w
theorem TN.below {w w' : World} (h : TN w) (hb : Below w.heap.size w w') : TN w' := ⟨h.c.below hb, h.s.below hb⟩
def nnF (f : Func) : Code := sq2 (sq2 (sq2 (sq2 (sq2 (sq2 (f.body.getD .skip))))))
def nnE (f : Func) : Code := sq2 (nnF f)
theorem memN (w : World) : MemP w (fun _ => False) .nilIface nilMo := .inr ⟨rfl, rfl, fun _ h => h⟩
theorem memRN (w : World) : MemR w (fun _ => False) (.pointer none) nilMo := .inr ⟨rfl, rfl, fun _ h => h⟩
set_option maxRecDepth 100000 in
set_option maxHeartbeats 16000000 in
theorem nnE_any {t0 t2 t4 t5 t7 t8 t9 t10 t12 t13 t14 t15 t16 t17 t18 t19 t20 t21 t22 t23 t24 t25 t26 t27 t28 t29 t30 t31 t32 t33 t34 t35 t36 t37 t38 t39 t40 t41 t42 t43 t44 t45 t46 t47 t48 t49 t50 t51 t52 t53 t54 t55 t56 t57 t58 t59 t60 t61 t62 t63 t64 t65 t66 t67 t68 t69 t70 t71 t72 t73 t74 t75 t76 : Value} (W : World) (bc br b1 b2 : Nat) (c : Ctx) (va : Int) (hv : 0 ≤ va ∧ va < 4294967296) (hc : c.Ok) (tW : TN W) (D : Nat) (Y : World) (hbel : Below W.heap.size W Y) (hC : Bl Y bc 25 [.bool c.on, .bool c.tre, .bool c.afe, .int .i64 c.n, .bool c.pd0, .bool c.pd1, .int .u64 c.b0, .int .u64 c.b1, .int .u32 c.dacr, .int .u32 c.prrr, .int .u32 c.nmrr, .int .i64 c.asid]) (hR : Bl Y br 4 [.bool false]) (hbr : W.heap.size ≤ br) (hD : W.heap.size ≤ D) (hK : Y.heap[D]? = some (.deferred (some []))) :
    (nnE Tryz.f3).wpIn Fence.wide 3 Tryz.prog (bodyPostM Fence.wide 3 Tryz.prog Tryz.f3 fun e W' => e = .returned (.bool true) ∧ Below W.heap.size W W') { tmps := #[t0, .int .u32 va, t2, .pointer (some ⟨bc, 0, none⟩), t4, t5, .pointer (some ⟨br, 0, none⟩), t7, t8, t9, t10, .func (.func 21) #[] #[.pointer (some ⟨b2, 0, none⟩), .pointer (some ⟨b1, 0, none⟩)], t12, t13, t14, t15, t16, t17, t18, t19, t20, t21, t22, t23, t24, t25, t26, t27, t28, t29, t30, t31, t32, t33, t34, t35, t36, t37, t38, t39, t40, t41, t42, t43, t44, t45, t46, t47, t48, t49, t50, t51, t52, t53, t54, t55, t56, t57, t58, t59, t60, t61, t62, t63, t64, t65, t66, t67, t68, t69, t70, t71, t72, t73, t74, t75, t76], defers := [{ target := .collected D, args := #[] }] } Y := by
  generalize hQ : (bodyPostM Fence.wide 3 Tryz.prog Tryz.f3 fun e W' => e = .returned (.bool true) ∧ Below W.heap.size W W') = Q
  simp only [nnE, nnF, sq2, Tryz.f3, Option.getD]
  have HQ := hidW hQ
  have hne : br ≠ D := by
    rintro rfl
    rw [show Y.heap[br]? = _ from hR] at hK
    cases hK
  have HE : Hid (∀ Z, Below Y.heap.size Y Z → ∀ tmps, tmps.getD 6 undef = .pointer (some ⟨br, 0, none⟩) → LeavesInM Fence.wide 3 Tryz.prog Tryz.f3 tmps (fun e W' => e = .returned (.bool true) ∧ Below W.heap.size W W') [{ target := .collected D, args := #[] }] .returning (Z.setCell ⟨br, 0, none⟩ (.bool true))) := by
    refine hidW (fun Z hZ tmps ht => leaves_ret (q := 6) rfl tmps W _ D br ht ((hR.below hZ).put' 0 _) (set_at _ ((hZ.block D (Array.getElem?_eq_some_iff.1 hK).1).trans hK) (fun e => hne e.symm)) ?_ hD)
    exact (Below.step hbel hZ).setCell hbr _
  have HG := hidW (go_any c va true 2 Y (memN Y) (tW.below hbel).c hc hv)
  have cC := hC.cell
  have HC := hidW hC
  have HR := hidW hR
  have HBL := hidW hbel
  obtain ⟨X, hX⟩ : ∃ X, goF nilMo c va true 2 = X := ⟨_, rfl⟩
  obtain ⟨x1, F⟩ := X
  rw [hX] at HG
  have eF := eqF F F
  rw [Fa.same_self] at eF
  clear hQ hK hC hR hbel
  gi_wp2_with fail
  refine ⟨trivial, (callsIn_wide.2 HG.out).mono ?_⟩
  rintro e w1 ⟨rfl, hb1⟩
  have hb1' := Below.step hb1 (below_new w1 (.cells #[.int .i64 F.k, .int .i64 F.l, .int .i64 F.d] 31))
  have HB1 := hidW hb1'
  have cC1 := (HC.out.below hb1').cell
  have HF1 : Hid (Bl (w1.alloc (.cells #[.int .i64 F.k, .int .i64 F.l, .int .i64 F.d] 31)) w1.heap.size 31 [.int .i64 F.k, .int .i64 F.l, .int .i64 F.d]) := hidW (Bl.new w1 _ _)
  have HV := hidW (vgo_any c va true 2 _ (memRN _) (tW.below (Below.step HBL.out hb1')).s.tw hc hv)
  rw [hX] at HV
  clear hb1 hb1' cC HG
  gi_wp2_with fail
  generalize w1.alloc (.cells #[.int .i64 F.k, .int .i64 F.l, .int .i64 F.d] 31) = w1' at *
  generalize w1.heap.size = f1 at *
  refine ⟨trivial, (callsIn_wide.2 HV.out).mono ?_⟩
  rintro e w2 ⟨rfl, hb2⟩
  have hb2' := Below.step hb2 (below_new w2 (.cells #[.int .i64 F.k, .int .i64 F.l, .int .i64 F.d] 31))
  have HB2 := hidW (Below.step HB1.out hb2')
  have c1 := (HF1.out.below hb2').cell
  have cR := ((HR.out.below HB2.out)).cell 0
  have fR := ((HR.out.below HB2.out)).frozen 0
  simp only [List.getElem?_cons_zero] at cR
  clear hb2 hb2' cC1 HV
  gi_wp2
  rw [← HQ.out]
  exact HE.out _ HB2.out _ rfl
set_option maxRecDepth 100000 in
set_option maxHeartbeats 16000000 in
theorem nnF_any {t0 t2 t4 t5 t7 t8 t9 t10 t12 t13 t14 t15 t16 t17 t18 t19 t20 t21 t22 t23 t24 t25 t26 t27 t28 t29 t30 t31 t32 t33 t34 t35 t36 t37 t38 t39 t40 t41 t42 t43 t44 t45 t46 t47 t48 t49 t50 t51 t52 t53 t54 t55 t56 t57 t58 t59 t60 t61 t62 t63 t64 t65 t66 t67 t68 t69 t70 t71 t72 t73 t74 t75 t76 : Value} (W : World) (bc br b1 b2 : Nat) (c : Ctx) (va : Int) (hv : 0 ≤ va ∧ va < 4294967296) (hc : c.Ok) (tW : TN W) (w : World) (hbel : Below W.heap.size W w) (hC : Bl w bc 25 [.bool c.on, .bool c.tre, .bool c.afe, .int .i64 c.n, .bool c.pd0, .bool c.pd1, .int .u64 c.b0, .int .u64 c.b1, .int .u32 c.dacr, .int .u32 c.prrr, .int .u32 c.nmrr, .int .i64 c.asid]) (hR : Bl w br 4 [.bool false]) (hbr : W.heap.size ≤ br) (h1 : Bl w b1 48 [.nilIface]) (h2 : Bl w b2 25 [.bool c.on, .bool c.tre, .bool c.afe, .int .i64 c.n, .bool c.pd0, .bool c.pd1, .int .u64 c.b0, .int .u64 c.b1, .int .u32 c.dacr, .int .u32 c.prrr, .int .u32 c.nmrr, .int .i64 c.asid]) :
    (nnF Tryz.f3).wpIn Fence.wide 3 Tryz.prog (bodyPostM Fence.wide 3 Tryz.prog Tryz.f3 fun e W' => e = .returned (.bool true) ∧ Below W.heap.size W W') { tmps := #[t0, .int .u32 va, t2, .pointer (some ⟨bc, 0, none⟩), t4, t5, .pointer (some ⟨br, 0, none⟩), t7, t8, t9, t10, .func (.func 21) #[] #[.pointer (some ⟨b2, 0, none⟩), .pointer (some ⟨b1, 0, none⟩)], t12, t13, t14, t15, t16, t17, t18, t19, t20, t21, t22, t23, t24, t25, t26, t27, t28, t29, t30, t31, t32, t33, t34, t35, t36, t37, t38, t39, t40, t41, t42, t43, t44, t45, t46, t47, t48, t49, t50, t51, t52, t53, t54, t55, t56, t57, t58, t59, t60, t61, t62, t63, t64, t65, t66, t67, t68, t69, t70, t71, t72, t73, t74, t75, t76], defers := [] } w := by
  generalize hQ : (bodyPostM Fence.wide 3 Tryz.prog Tryz.f3 fun e W' => e = .returned (.bool true) ∧ Below W.heap.size W W') = Q
  refine wp_parts ⟨_, _, rfl⟩ (fun K hK => ?_)
  have HK : Hid (∀ a w, (nnE Tryz.f3).wpIn Fence.wide 3 Tryz.prog Q a w → K a w) := hidW hK
  clear hK
  simp only [nnF, sq2, sq1, Tryz.f3, Option.getD]
  have HQ := hidW hQ
  clear hQ
  gi_wp2_with fail
  have hIt : It (fun _ => False) (fun _ => False) .nilIface nilMo c b2 b1 w := by
    refine ⟨memN w, (tW.below hbel).s.tw, ?_, h2, fun h => h, h1, fun h => h⟩
    rintro b (hb | hb)
    · exact hb.elim
    · exact ⟨(tW.below hbel).s.tw.solid hb, fun h => h⟩
  refine wpIn_rangeFunc_ownH rfl (by decide) (gf := 21) (lb := #[.pointer (some ⟨b2, 0, none⟩), .pointer (some ⟨b1, 0, none⟩)]) rfl trivial (enters_of Tryz.func21 (by kernel_rfl) rfl)
    (blocks_stops 2 b2 b1 (fun _ => False) (fun _ => False) .nilIface nilMo c w hIt (fun _ h => h.elim) hc)
    (fun h k => h.trans k) (fun W l o o' _ h h1 h2 => KpX.put W l o o' h h1 h2) (Below.refl _ _) (fun _ => rfl)
    (fun _ Z => Below w.heap.size w Z) (fun _ _ _ => False)
    (ownFrom_below (Nat.le_refl _) (Nat.le_refl _)) (fun c => ownFrom_pure _ (fun _ => False)) (Below.refl _ _)
    (fun _ _ _ => True) (fun x a' => ownFrom_pure _ (fun _ => True))
    ?assign ?body ?done ?stop
  case assign =>
    rintro l pre x Z K hZ hK'
    exact wpIn_skip (hK' _ _ (KeepsFrom.refl _ _) (KpX.refl _ _) hZ trivial)
  case body =>
    rintro l pre x a' Z _ _ _ _ hlt
    rw [show (blL nilMo c).length = 0 by rw [blL_nil]; rfl] at hlt
    exact absurd hlt (by simp)
  case stop =>
    rintro D2 c pre Z _ _ h _
    exact h.elim
  case done =>
    rintro D xs Z hD _ hZ hK2
    refine HK.out _ _ ?_
    rw [← HQ.out]
    exact nnE_any W bc br b1 b2 c va hv hc tW D Z (Below.step hbel hZ) (hC.below hZ) (hR.below hZ) hbr (by have := hbel.size; omega) hK2
theorem func_nil (fn : Fn) (a b : Array Value) (w : World) : (binOp .eql 41 (.func fn a b) .nilFunc).run Tryz.prog w = .ok (.bool false) w := by
  have h : ∀ d : Nat, (Op.equalIn (d + 1) 41 (.func fn a b) .nilFunc).run Tryz.prog w = .ok false w := fun d => by
    simp [Op.equalIn, run_underlying Tryz.underlying41]
  simp only [binOp]
  simp [Op.equal, Op.maxDepth, h 9999]
theorem below_dn (w : World) (q : Nat) : Below w.heap.size w (w.drewN q) := (Turn.drewN (Turn.refl (fun _ => False) w) q).to (fun _ h => h.elim) (Nat.le_refl _)
theorem same_b (W : World) {v u : Value} {bs : List Int} (hv : Us W v bs) (hu : Us W u bs) (hl : bs.length ≤ 9223372036854775807) :
    Calls Tryz.prog 6 #[v, u] W fun e W' => e = .returned (.bool true) ∧ Below W.heap.size W W' := by
  refine (same_any W hv hu hl).mono ?_
  rintro e W' ⟨rfl, q, rfl⟩
  exact ⟨rfl, below_dn W q⟩
set_option maxRecDepth 100000 in
set_option maxHeartbeats 16000000 in
theorem law_none (W : World) (c : Ctx) (hc : c.Ok) (va : Int) (hv : 0 ≤ va ∧ va < 4294967296) (t : Tra) (hf : Fz t) (tW : TN W) :
    Calls Tryz.prog 3 #[.agg #[.bool c.on, .bool c.tre, .bool c.afe, .int .i64 c.n, .bool c.pd0, .bool c.pd1, .int .u64 c.b0, .int .u64 c.b1, .int .u32 c.dacr, .int .u32 c.prrr, .int .u32 c.nmrr, .int .i64 c.asid], .int .u32 va, .agg #[.int .i64 t.size, .int .u32 t.va, .int .u64 t.pa, .int .i64 t.dom, .int .i64 t.ap, .int .u32 t.bits, .bool t.ng, .bool t.xn]] W fun e W' => e = .returned (.bool true) ∧ Below W.heap.size W W' := by
  have b2 : Below W.heap.size W (((W.alloc (.cells #[.bool c.on, .bool c.tre, .bool c.afe, .int .i64 c.n, .bool c.pd0, .bool c.pd1, .int .u64 c.b0, .int .u64 c.b1, .int .u32 c.dacr, .int .u32 c.prrr, .int .u32 c.nmrr, .int .i64 c.asid] 25)).alloc (.cells #[.int .i64 t.size, .int .u32 t.va, .int .u64 t.pa, .int .i64 t.dom, .int .i64 t.ap, .int .u32 t.bits, .bool t.ng, .bool t.xn] 29)).alloc (.cells #[.bool false] 4)) := Below.step (Below.step (below_new W _) (below_new _ _)) (below_new _ _)
  have HBC : Hid (Bl (((W.alloc (.cells #[.bool c.on, .bool c.tre, .bool c.afe, .int .i64 c.n, .bool c.pd0, .bool c.pd1, .int .u64 c.b0, .int .u64 c.b1, .int .u32 c.dacr, .int .u32 c.prrr, .int .u32 c.nmrr, .int .i64 c.asid] 25)).alloc (.cells #[.int .i64 t.size, .int .u32 t.va, .int .u64 t.pa, .int .i64 t.dom, .int .i64 t.ap, .int .u32 t.bits, .bool t.ng, .bool t.xn] 29)).alloc (.cells #[.bool false] 4)) W.heap.size 25 [.bool c.on, .bool c.tre, .bool c.afe, .int .i64 c.n, .bool c.pd0, .bool c.pd1, .int .u64 c.b0, .int .u64 c.b1, .int .u32 c.dacr, .int .u32 c.prrr, .int .u32 c.nmrr, .int .i64 c.asid]) := hidW (((Bl.new W _ _).below (below_new _ _)).below (below_new _ _))
  have HBT : Hid (Bl (((W.alloc (.cells #[.bool c.on, .bool c.tre, .bool c.afe, .int .i64 c.n, .bool c.pd0, .bool c.pd1, .int .u64 c.b0, .int .u64 c.b1, .int .u32 c.dacr, .int .u32 c.prrr, .int .u32 c.nmrr, .int .i64 c.asid] 25)).alloc (.cells #[.int .i64 t.size, .int .u32 t.va, .int .u64 t.pa, .int .i64 t.dom, .int .i64 t.ap, .int .u32 t.bits, .bool t.ng, .bool t.xn] 29)).alloc (.cells #[.bool false] 4)) (W.heap.size + 1) 29 [.int .i64 t.size, .int .u32 t.va, .int .u64 t.pa, .int .i64 t.dom, .int .i64 t.ap, .int .u32 t.bits, .bool t.ng, .bool t.xn]) := hidW ((Bl.new1 W _ _ _).below (below_new _ _))
  have HBR : Hid (Bl (((W.alloc (.cells #[.bool c.on, .bool c.tre, .bool c.afe, .int .i64 c.n, .bool c.pd0, .bool c.pd1, .int .u64 c.b0, .int .u64 c.b1, .int .u32 c.dacr, .int .u32 c.prrr, .int .u32 c.nmrr, .int .i64 c.asid] 25)).alloc (.cells #[.int .i64 t.size, .int .u32 t.va, .int .u64 t.pa, .int .i64 t.dom, .int .i64 t.ap, .int .u32 t.bits, .bool t.ng, .bool t.xn] 29)).alloc (.cells #[.bool false] 4)) (W.heap.size + 1 + 1) 4 [.bool false]) := hidW (by
    have := Bl.new1 (W.alloc (.cells #[.bool c.on, .bool c.tre, .bool c.afe, .int .i64 c.n, .bool c.pd0, .bool c.pd1, .int .u64 c.b0, .int .u64 c.b1, .int .u32 c.dacr, .int .u32 c.prrr, .int .u32 c.nmrr, .int .i64 c.asid] 25)) (.cells #[.int .i64 t.size, .int .u32 t.va, .int .u64 t.pa, .int .i64 t.dom, .int .i64 t.ap, .int .u32 t.bits, .bool t.ng, .bool t.xn] 29) 4 [.bool false]
    rwa [show (W.alloc (.cells #[.bool c.on, .bool c.tre, .bool c.afe, .int .i64 c.n, .bool c.pd0, .bool c.pd1, .int .u64 c.b0, .int .u64 c.b1, .int .u32 c.dacr, .int .u32 c.prrr, .int .u32 c.nmrr, .int .i64 c.asid] 25)).heap.size = W.heap.size + 1 by simp] at this)
  have HB0 := hidW b2
  have hs3 : (((W.alloc (.cells #[.bool c.on, .bool c.tre, .bool c.afe, .int .i64 c.n, .bool c.pd0, .bool c.pd1, .int .u64 c.b0, .int .u64 c.b1, .int .u32 c.dacr, .int .u32 c.prrr, .int .u32 c.nmrr, .int .i64 c.asid] 25)).alloc (.cells #[.int .i64 t.size, .int .u32 t.va, .int .u64 t.pa, .int .i64 t.dom, .int .i64 t.ap, .int .u32 t.bits, .bool t.ng, .bool t.xn] 29)).alloc (.cells #[.bool false] 4)).heap.size = W.heap.size + 3 := by simp
  have HW := hidW (walk_pure c va _ (memN _) (tW.below b2).s.tw hc hv)
  have HSN := hidW (smF_nil c hc t hf)
  obtain ⟨U, F, hwk⟩ : ∃ U F, wk nilMo c va = (U, F) := ⟨_, _, rfl⟩
  rw [hwk] at HW
  have HWK := hidW hwk
  clear b2 hwk
  refine (callsIn_wide (n := 3)).1 ?_
  refine callsIn_of_wp_marks Tryz.func3 rfl trivial ?_ rfl
  simp only [Tryz.ntmps3, List.size_toArray, List.length_cons, List.length_nil, Nat.reduceAdd, Nat.reduceSub, Array.replicate_succ, Array.replicate_zero, List.push_toArray, List.append_toArray, List.nil_append, List.cons_append]
  refine wpIn_wide.2 ?_
  refine wp_cut 6 _ (nnF Tryz.f3) (by kernel_rfl) (fun C hC => ?_)
  have HC := hidW hC
  clear hC
  simp only [putTail]
  go_wp2_with fail
  generalize ((W.alloc (.cells #[.bool c.on, .bool c.tre, .bool c.afe, .int .i64 c.n, .bool c.pd0, .bool c.pd1, .int .u64 c.b0, .int .u64 c.b1, .int .u32 c.dacr, .int .u32 c.prrr, .int .u32 c.nmrr, .int .i64 c.asid] 25)).alloc (.cells #[.int .i64 t.size, .int .u32 t.va, .int .u64 t.pa, .int .i64 t.dom, .int .i64 t.ap, .int .u32 t.bits, .bool t.ng, .bool t.xn] 29)).alloc (.cells #[.bool false] 4) = w3 at *
  go_at_call 4
  refine HW.out.mono ?_
  rintro e wa ⟨rfl, hb⟩
  have hb' := Below.step hb (Below.step (below_new wa (.cells #[.int .i64 U.size, .int .u32 U.va, .int .u64 U.pa, .int .i64 U.dom, .int .i64 U.ap, .int .u32 U.bits, .bool U.ng, .bool U.xn] 29)) (below_new _ (.cells #[.int .i64 F.k, .int .i64 F.l, .int .i64 F.d] 31)))
  have HBa := hidW hb'
  have HT1 : Hid (Bl ((wa.alloc (.cells #[.int .i64 U.size, .int .u32 U.va, .int .u64 U.pa, .int .i64 U.dom, .int .i64 U.ap, .int .u32 U.bits, .bool U.ng, .bool U.xn] 29)).alloc (.cells #[.int .i64 F.k, .int .i64 F.l, .int .i64 F.d] 31)) wa.heap.size 29 [.int .i64 U.size, .int .u32 U.va, .int .u64 U.pa, .int .i64 U.dom, .int .i64 U.ap, .int .u32 U.bits, .bool U.ng, .bool U.xn]) := hidW ((Bl.new wa 29 [.int .i64 U.size, .int .u32 U.va, .int .u64 U.pa, .int .i64 U.dom, .int .i64 U.ap, .int .u32 U.bits, .bool U.ng, .bool U.xn]).below (below_new _ _))
  have HF1 : Hid (Bl ((wa.alloc (.cells #[.int .i64 U.size, .int .u32 U.va, .int .u64 U.pa, .int .i64 U.dom, .int .i64 U.ap, .int .u32 U.bits, .bool U.ng, .bool U.xn] 29)).alloc (.cells #[.int .i64 F.k, .int .i64 F.l, .int .i64 F.d] 31)) (wa.heap.size + 1) 31 [.int .i64 F.k, .int .i64 F.l, .int .i64 F.d]) := hidW (Bl.new1 wa _ 31 [.int .i64 F.k, .int .i64 F.l, .int .i64 F.d])
  have cC := (HBC.out.below hb').cell
  have HV := hidW (vwalk_any c va _ (memRN _) (tW.below (Below.step HB0.out hb')).s.tw hc hv)
  rw [HWK.out] at HV
  clear hb hb' HW
  go_wp2_with fail
  generalize (wa.alloc (.cells #[.int .i64 U.size, .int .u32 U.va, .int .u64 U.pa, .int .i64 U.dom, .int .i64 U.ap, .int .u32 U.bits, .bool U.ng, .bool U.xn] 29)).alloc (.cells #[.int .i64 F.k, .int .i64 F.l, .int .i64 F.d] 31) = wa' at *
  generalize wa.heap.size + 1 = g2 at *
  generalize wa.heap.size = g1 at *
  go_at_call 5
  refine HV.out.mono ?_
  rintro e wb ⟨rfl, hb⟩
  have hb' := Below.step hb (Below.step (below_new wb (.cells #[.int .i64 U.size, .int .u32 U.va, .int .u64 U.pa, .int .i64 U.dom, .int .i64 U.ap, .int .u32 U.bits, .bool U.ng, .bool U.xn] 29)) (below_new _ (.cells #[.int .i64 F.k, .int .i64 F.l, .int .i64 F.d] 31)))
  have HBb := hidW (Below.step HBa.out hb')
  have HT1b := hidW (HT1.out.below hb')
  have HF1b := hidW (HF1.out.below hb')
  have HT2 : Hid (Bl ((wb.alloc (.cells #[.int .i64 U.size, .int .u32 U.va, .int .u64 U.pa, .int .i64 U.dom, .int .i64 U.ap, .int .u32 U.bits, .bool U.ng, .bool U.xn] 29)).alloc (.cells #[.int .i64 F.k, .int .i64 F.l, .int .i64 F.d] 31)) wb.heap.size 29 [.int .i64 U.size, .int .u32 U.va, .int .u64 U.pa, .int .i64 U.dom, .int .i64 U.ap, .int .u32 U.bits, .bool U.ng, .bool U.xn]) := hidW ((Bl.new wb 29 [.int .i64 U.size, .int .u32 U.va, .int .u64 U.pa, .int .i64 U.dom, .int .i64 U.ap, .int .u32 U.bits, .bool U.ng, .bool U.xn]).below (below_new _ _))
  have HF2 : Hid (Bl ((wb.alloc (.cells #[.int .i64 U.size, .int .u32 U.va, .int .u64 U.pa, .int .i64 U.dom, .int .i64 U.ap, .int .u32 U.bits, .bool U.ng, .bool U.xn] 29)).alloc (.cells #[.int .i64 F.k, .int .i64 F.l, .int .i64 F.d] 31)) (wb.heap.size + 1) 31 [.int .i64 F.k, .int .i64 F.l, .int .i64 F.d]) := hidW (Bl.new1 wb _ 31 [.int .i64 F.k, .int .i64 F.l, .int .i64 F.d])
  clear hb hb' HV cC HBa HT1 HF1
  go_wp2_with fail
  generalize (wb.alloc (.cells #[.int .i64 U.size, .int .u32 U.va, .int .u64 U.pa, .int .i64 U.dom, .int .i64 U.ap, .int .u32 U.bits, .bool U.ng, .bool U.xn] 29)).alloc (.cells #[.int .i64 F.k, .int .i64 F.l, .int .i64 F.d] 31) = wr at *
  generalize wb.heap.size + 1 = g4 at *
  generalize wb.heap.size = g3 at *
  have HRD := hidW (fun ww (hb : Below wr.heap.size wr ww) => reads_any c va ww (memN ww) (tW.below (Below.step HB0.out (Below.step HBb.out hb))).s.tw hc hv)
  have HVD := hidW (fun ww (hb : Below wr.heap.size wr ww) => vreads_any c va ww (memRN ww) (tW.below (Below.step HB0.out (Below.step HBb.out hb))).s.tw hc hv)
  have HSM := hidW (fun ww (hb : Below wr.heap.size wr ww) => sameP_any c t ww (memN ww) hf (tW.below (Below.step HB0.out (Below.step HBb.out hb))).s hc)
  rw [HSN.out] at HSM
  have HLN : Hid ((rdL nilMo c va).length ≤ 9223372036854775807) := hidW (by
    unfold rdL r1
    split
    · split <;> split <;> simp
    · simp)
  generalize rdL nilMo c va = L at *
  have eT := eqT U U
  rw [Tra.same_self] at eT
  have eF := eqF F F
  rw [Fa.same_self] at eF
  have hS : ∀ W', Below wr.heap.size wr W' → (W'.cell? ⟨g1, 0, none⟩ = some (.int .i64 U.size) ∧ W'.cell? ⟨g1, 1, none⟩ = some (.int .u32 U.va) ∧ W'.cell? ⟨g1, 2, none⟩ = some (.int .u64 U.pa) ∧ W'.cell? ⟨g1, 3, none⟩ = some (.int .i64 U.dom) ∧ W'.cell? ⟨g1, 4, none⟩ = some (.int .i64 U.ap) ∧ W'.cell? ⟨g1, 5, none⟩ = some (.int .u32 U.bits) ∧ W'.cell? ⟨g1, 6, none⟩ = some (.bool U.ng) ∧ W'.cell? ⟨g1, 7, none⟩ = some (.bool U.xn) ∧ W'.cell? ⟨g3, 0, none⟩ = some (.int .i64 U.size) ∧ W'.cell? ⟨g3, 1, none⟩ = some (.int .u32 U.va) ∧ W'.cell? ⟨g3, 2, none⟩ = some (.int .u64 U.pa) ∧ W'.cell? ⟨g3, 3, none⟩ = some (.int .i64 U.dom) ∧ W'.cell? ⟨g3, 4, none⟩ = some (.int .i64 U.ap) ∧ W'.cell? ⟨g3, 5, none⟩ = some (.int .u32 U.bits) ∧ W'.cell? ⟨g3, 6, none⟩ = some (.bool U.ng) ∧ W'.cell? ⟨g3, 7, none⟩ = some (.bool U.xn) ∧ W'.cell? ⟨g2, 0, none⟩ = some (.int .i64 F.k) ∧ W'.cell? ⟨g2, 1, none⟩ = some (.int .i64 F.l) ∧ W'.cell? ⟨g2, 2, none⟩ = some (.int .i64 F.d) ∧ W'.cell? ⟨g4, 0, none⟩ = some (.int .i64 F.k) ∧ W'.cell? ⟨g4, 1, none⟩ = some (.int .i64 F.l) ∧ W'.cell? ⟨g4, 2, none⟩ = some (.int .i64 F.d) ∧ W'.cell? ⟨W.heap.size, 0, none⟩ = some (.bool c.on) ∧ W'.cell? ⟨W.heap.size, 1, none⟩ = some (.bool c.tre) ∧ W'.cell? ⟨W.heap.size, 2, none⟩ = some (.bool c.afe) ∧ W'.cell? ⟨W.heap.size, 3, none⟩ = some (.int .i64 c.n) ∧ W'.cell? ⟨W.heap.size, 4, none⟩ = some (.bool c.pd0) ∧ W'.cell? ⟨W.heap.size, 5, none⟩ = some (.bool c.pd1) ∧ W'.cell? ⟨W.heap.size, 6, none⟩ = some (.int .u64 c.b0) ∧ W'.cell? ⟨W.heap.size, 7, none⟩ = some (.int .u64 c.b1) ∧ W'.cell? ⟨W.heap.size, 8, none⟩ = some (.int .u32 c.dacr) ∧ W'.cell? ⟨W.heap.size, 9, none⟩ = some (.int .u32 c.prrr) ∧ W'.cell? ⟨W.heap.size, 10, none⟩ = some (.int .u32 c.nmrr) ∧ W'.cell? ⟨W.heap.size, 11, none⟩ = some (.int .i64 c.asid) ∧ W'.cell? ⟨W.heap.size + 1, 0, none⟩ = some (.int .i64 t.size) ∧ W'.cell? ⟨W.heap.size + 1, 1, none⟩ = some (.int .u32 t.va) ∧ W'.cell? ⟨W.heap.size + 1, 2, none⟩ = some (.int .u64 t.pa) ∧ W'.cell? ⟨W.heap.size + 1, 3, none⟩ = some (.int .i64 t.dom) ∧ W'.cell? ⟨W.heap.size + 1, 4, none⟩ = some (.int .i64 t.ap) ∧ W'.cell? ⟨W.heap.size + 1, 5, none⟩ = some (.int .u32 t.bits) ∧ W'.cell? ⟨W.heap.size + 1, 6, none⟩ = some (.bool t.ng) ∧ W'.cell? ⟨W.heap.size + 1, 7, none⟩ = some (.bool t.xn)) := fun W' hb => by
    have x1 := (HT1b.out.below hb).cell
    have x3 := (HT2.out.below hb).cell
    have x2 := (HF1b.out.below hb).cell
    have x4 := (HF2.out.below hb).cell
    have xc := (HBC.out.below (Below.step HBb.out hb)).cell
    have xt := (HBT.out.below (Below.step HBb.out hb)).cell
    exact ⟨x1 0, x1 1, x1 2, x1 3, x1 4, x1 5, x1 6, x1 7, x3 0, x3 1, x3 2, x3 3, x3 4, x3 5, x3 6, x3 7, x2 0, x2 1, x2 2, x4 0, x4 1, x4 2, xc 0, xc 1, xc 2, xc 3, xc 4, xc 5, xc 6, xc 7, xc 8, xc 9, xc 10, xc 11, xt 0, xt 1, xt 2, xt 3, xt 4, xt 5, xt 6, xt 7⟩
  have HB1 := hidW (Below.refl wr.heap.size wr)
  have hs1 := HB1.out.size
  clear HT1b HT2 HF1b HF2 HBT HWK HSN
  go_region_held3 (fun w' => w'.cell? ⟨g1, 0, none⟩ = some (.int .i64 U.size) ∧ w'.cell? ⟨g1, 1, none⟩ = some (.int .u32 U.va) ∧ w'.cell? ⟨g1, 2, none⟩ = some (.int .u64 U.pa) ∧ w'.cell? ⟨g1, 3, none⟩ = some (.int .i64 U.dom) ∧ w'.cell? ⟨g1, 4, none⟩ = some (.int .i64 U.ap) ∧ w'.cell? ⟨g1, 5, none⟩ = some (.int .u32 U.bits) ∧ w'.cell? ⟨g1, 6, none⟩ = some (.bool U.ng) ∧ w'.cell? ⟨g1, 7, none⟩ = some (.bool U.xn) ∧ w'.cell? ⟨g3, 0, none⟩ = some (.int .i64 U.size) ∧ w'.cell? ⟨g3, 1, none⟩ = some (.int .u32 U.va) ∧ w'.cell? ⟨g3, 2, none⟩ = some (.int .u64 U.pa) ∧ w'.cell? ⟨g3, 3, none⟩ = some (.int .i64 U.dom) ∧ w'.cell? ⟨g3, 4, none⟩ = some (.int .i64 U.ap) ∧ w'.cell? ⟨g3, 5, none⟩ = some (.int .u32 U.bits) ∧ w'.cell? ⟨g3, 6, none⟩ = some (.bool U.ng) ∧ w'.cell? ⟨g3, 7, none⟩ = some (.bool U.xn) ∧ w'.cell? ⟨g2, 0, none⟩ = some (.int .i64 F.k) ∧ w'.cell? ⟨g2, 1, none⟩ = some (.int .i64 F.l) ∧ w'.cell? ⟨g2, 2, none⟩ = some (.int .i64 F.d) ∧ w'.cell? ⟨g4, 0, none⟩ = some (.int .i64 F.k) ∧ w'.cell? ⟨g4, 1, none⟩ = some (.int .i64 F.l) ∧ w'.cell? ⟨g4, 2, none⟩ = some (.int .i64 F.d) ∧ w'.cell? ⟨W.heap.size, 0, none⟩ = some (.bool c.on) ∧ w'.cell? ⟨W.heap.size, 1, none⟩ = some (.bool c.tre) ∧ w'.cell? ⟨W.heap.size, 2, none⟩ = some (.bool c.afe) ∧ w'.cell? ⟨W.heap.size, 3, none⟩ = some (.int .i64 c.n) ∧ w'.cell? ⟨W.heap.size, 4, none⟩ = some (.bool c.pd0) ∧ w'.cell? ⟨W.heap.size, 5, none⟩ = some (.bool c.pd1) ∧ w'.cell? ⟨W.heap.size, 6, none⟩ = some (.int .u64 c.b0) ∧ w'.cell? ⟨W.heap.size, 7, none⟩ = some (.int .u64 c.b1) ∧ w'.cell? ⟨W.heap.size, 8, none⟩ = some (.int .u32 c.dacr) ∧ w'.cell? ⟨W.heap.size, 9, none⟩ = some (.int .u32 c.prrr) ∧ w'.cell? ⟨W.heap.size, 10, none⟩ = some (.int .u32 c.nmrr) ∧ w'.cell? ⟨W.heap.size, 11, none⟩ = some (.int .i64 c.asid) ∧ w'.cell? ⟨W.heap.size + 1, 0, none⟩ = some (.int .i64 t.size) ∧ w'.cell? ⟨W.heap.size + 1, 1, none⟩ = some (.int .u32 t.va) ∧ w'.cell? ⟨W.heap.size + 1, 2, none⟩ = some (.int .u64 t.pa) ∧ w'.cell? ⟨W.heap.size + 1, 3, none⟩ = some (.int .i64 t.dom) ∧ w'.cell? ⟨W.heap.size + 1, 4, none⟩ = some (.int .i64 t.ap) ∧ w'.cell? ⟨W.heap.size + 1, 5, none⟩ = some (.int .u32 t.bits) ∧ w'.cell? ⟨W.heap.size + 1, 6, none⟩ = some (.bool t.ng) ∧ w'.cell? ⟨W.heap.size + 1, 7, none⟩ = some (.bool t.xn)) (exact hS _ (by ((repeat (first | (with_reducible refine Below.setCell ?_ (by first | exact Nat.le_refl _ | (dsimp only; omega)) _) | (with_reducible refine Below.alloc ?_ (by first | omega | (simp; omega) | simp) _) | (with_reducible refine below_drew ?_))); (first | (with_reducible exact HB1.out) | (with_reducible exact Below.refl _ _))))) (first | (go_at_call 7; refine (HRD.out _ (by ((repeat (first | (with_reducible refine Below.setCell ?_ (by first | exact Nat.le_refl _ | (dsimp only; omega)) _) | (with_reducible refine Below.alloc ?_ (by first | omega | (simp; omega) | simp) _) | (with_reducible refine below_drew ?_))); (first | (with_reducible exact HB1.out) | (with_reducible exact Below.refl _ _))))).mono ?_; rintro e w1 ⟨v1, rfl, hu1, hb⟩; have HB2 : Hid (Below wr.heap.size wr w1) := Below.step (by ((repeat (first | (with_reducible refine Below.setCell ?_ (by first | exact Nat.le_refl _ | (dsimp only; omega)) _) | (with_reducible refine Below.alloc ?_ (by first | omega | (simp; omega) | simp) _) | (with_reducible refine below_drew ?_))); (first | (with_reducible exact HB1.out) | (with_reducible exact Below.refl _ _)))) hb; have HB1 := HB2; have hs1 := HB1.out.size; clear hb) | (go_at_call 8; refine (HVD.out _ (by ((repeat (first | (with_reducible refine Below.setCell ?_ (by first | exact Nat.le_refl _ | (dsimp only; omega)) _) | (with_reducible refine Below.alloc ?_ (by first | omega | (simp; omega) | simp) _) | (with_reducible refine below_drew ?_))); (first | (with_reducible exact HB1.out) | (with_reducible exact Below.refl _ _))))).mono ?_; rintro e w2 ⟨v2, rfl, hu2, hb⟩; have hu1 := Us.below hu1 hb; have HB2 : Hid (Below wr.heap.size wr w2) := Below.step (by ((repeat (first | (with_reducible refine Below.setCell ?_ (by first | exact Nat.le_refl _ | (dsimp only; omega)) _) | (with_reducible refine Below.alloc ?_ (by first | omega | (simp; omega) | simp) _) | (with_reducible refine below_drew ?_))); (first | (with_reducible exact HB1.out) | (with_reducible exact Below.refl _ _)))) hb; have HB1 := HB2; have hs1 := HB1.out.size; clear hb) | (go_at_call 6; refine (same_b _ hu1 hu2 HLN.out).mono ?_; rintro e w4 ⟨rfl, hb⟩; have HB2 : Hid (Below wr.heap.size wr w4) := Below.step (by ((repeat (first | (with_reducible refine Below.setCell ?_ (by first | exact Nat.le_refl _ | (dsimp only; omega)) _) | (with_reducible refine Below.alloc ?_ (by first | omega | (simp; omega) | simp) _) | (with_reducible refine below_drew ?_))); (first | (with_reducible exact HB1.out) | (with_reducible exact Below.refl _ _)))) hb; have HB1 := HB2; have hs1 := HB1.out.size; clear hb) | (go_at_call 9; refine (HSM.out _ (by ((repeat (first | (with_reducible refine Below.setCell ?_ (by first | exact Nat.le_refl _ | (dsimp only; omega)) _) | (with_reducible refine Below.alloc ?_ (by first | omega | (simp; omega) | simp) _) | (with_reducible refine below_drew ?_))); (first | (with_reducible exact HB1.out) | (with_reducible exact Below.refl _ _))))).mono ?_; rintro e w5 ⟨rfl, hb⟩; have HB2 : Hid (Below wr.heap.size wr w5) := Below.step (by ((repeat (first | (with_reducible refine Below.setCell ?_ (by first | exact Nat.le_refl _ | (dsimp only; omega)) _) | (with_reducible refine Below.alloc ?_ (by first | omega | (simp; omega) | simp) _) | (with_reducible refine below_drew ?_))); (first | (with_reducible exact HB1.out) | (with_reducible exact Below.refl _ _)))) hb; have HB1 := HB2; have hs1 := HB1.out.size; clear hb))
  have cC := (HBC.out.below (Below.step HBb.out HB1.out)).cell
  have HB5 := hidW (Below.step HBb.out HB1.out)
  clear hS HB1 hs1 HRD HVD HSM
  go_wp2_with fail
  go_at_call 10
  refine (blocks_any .nilIface (.inr rfl) c _).mono ?_
  rintro e w9 ⟨rfl, rfl⟩
  clear cC
  have hfn := func_nil
  go_wp2
  refine HC.out _ _ ?_
  have b1 : Bl ((w5.alloc (.cells #[.nilIface] 48)).alloc (.cells #[.bool c.on, .bool c.tre, .bool c.afe, .int .i64 c.n, .bool c.pd0, .bool c.pd1, .int .u64 c.b0, .int .u64 c.b1, .int .u32 c.dacr, .int .u32 c.prrr, .int .u32 c.nmrr, .int .i64 c.asid] 25)) w5.heap.size 48 [.nilIface] := (Bl.new w5 _ _).below (below_new _ _)
  have b2 : Bl ((w5.alloc (.cells #[.nilIface] 48)).alloc (.cells #[.bool c.on, .bool c.tre, .bool c.afe, .int .i64 c.n, .bool c.pd0, .bool c.pd1, .int .u64 c.b0, .int .u64 c.b1, .int .u32 c.dacr, .int .u32 c.prrr, .int .u32 c.nmrr, .int .i64 c.asid] 25)) (w5.heap.size + 1) 25 [.bool c.on, .bool c.tre, .bool c.afe, .int .i64 c.n, .bool c.pd0, .bool c.pd1, .int .u64 c.b0, .int .u64 c.b1, .int .u32 c.dacr, .int .u32 c.prrr, .int .u32 c.nmrr, .int .i64 c.asid] := Bl.new1 w5 _ _ _
  have hB : Below w5.heap.size w5 ((w5.alloc (.cells #[.nilIface] 48)).alloc (.cells #[.bool c.on, .bool c.tre, .bool c.afe, .int .i64 c.n, .bool c.pd0, .bool c.pd1, .int .u64 c.b0, .int .u64 c.b1, .int .u32 c.dacr, .int .u32 c.prrr, .int .u32 c.nmrr, .int .i64 c.asid] 25)) := Below.step (below_new _ _) (below_new _ _)
  have hB3 := Below.step HB5.out hB
  exact wpIn_wide.1 (nnF_any W W.heap.size (W.heap.size + 1 + 1) w5.heap.size (w5.heap.size + 1) c va hv hc tW _ (Below.step HB0.out hB3) (HBC.out.below hB3) (HBR.out.below hB3) (by omega) b1 b2)
end Go.Proofs.YtmodcbdgnmjkoabGreatDoor

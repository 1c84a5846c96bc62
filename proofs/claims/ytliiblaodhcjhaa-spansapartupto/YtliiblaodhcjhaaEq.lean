import Derived.Test.YtliiblaodhcjhaaStre
namespace Go.Proofs.Ytliiblaodhcjhaa
open Go.RowKit
set_option linter.unusedVariables false

def sameS (s t : Sp Int) : Bool := s.lo == t.lo && s.hi == t.hi && s.val == t.val
theorem sameS_iff {s t : Sp Int} : sameS s t = true ↔ s = t := by
  cases s; cases t; simp [sameS, and_assoc]

set_option maxHeartbeats 2000000 in
theorem eqc_any (s t : Sp Int) (w : World) : Calls Try.prog 47 #[.agg #[.int .u64 s.lo, .int .u64 s.hi, .int .i64 s.val], .agg #[.int .u64 t.lo, .int .u64 t.hi, .int .i64 t.val]] w fun e w' => e = .returned (.bool (sameS s t)) ∧ Below w.heap.size w w' := by
  have hb := below_alloc (below_alloc (Below.refl w.heap.size w) (.cells #[.int .u64 s.lo, .int .u64 s.hi, .int .i64 s.val] 44)) (.cells #[.int .u64 t.lo, .int .u64 t.hi, .int .i64 t.val] 44)
  rw [sameS]
  by_cases h1 : s.lo = t.lo
  · have e1 : (s.lo == t.lo) = true := by simp [h1]
    by_cases h2 : s.hi = t.hi
    · have e2 : (s.hi == t.hi) = true := by simp [h2]
      rw [e1, e2]
      clear h1 h2
      go_enter Try.func47, Try.ntmps47
      go_wp2_with (fail)
      refine (same_any s.val t.val _).mono ?_
      rintro e w5 ⟨rfl, hb5⟩
      have hb6 := below_go hb hb5
      clear hb5 hb
      go_wp2
      go_ret
      exact ⟨by by_cases h : s.val = t.val <;> simp [h], hb6⟩
    · have e2 : (s.hi == t.hi) = false := by simp [h2]
      rw [e1, e2]
      clear h1 h2
      go_enter Try.func47, Try.ntmps47
      go_wp2
      go_ret
      exact ⟨rfl, hb⟩
  · have e1 : (s.lo == t.lo) = false := by simp [h1]
    rw [e1]
    clear h1
    go_enter Try.func47, Try.ntmps47
    go_wp2
    go_ret
    exact ⟨rfl, hb⟩

/-- Two lists are alike up to a place. -/
def EqTo (L M : List (Sp Int)) (i : Nat) : Prop := ∀ j s t, j < i → L[j]? = some s → M[j]? = some t → s = t
theorem EqTo.all {L M : List (Sp Int)} (h : EqTo L M L.length) (hl : L.length = M.length) : L = M := by
  refine List.ext_getElem? (fun j => ?_)
  by_cases hj : j < L.length
  · obtain ⟨s, hs⟩ : ∃ s, L[j]? = some s := ⟨_, List.getElem?_eq_getElem hj⟩
    obtain ⟨t, ht⟩ : ∃ t, M[j]? = some t := ⟨_, List.getElem?_eq_getElem (by omega)⟩
    rw [hs, ht, h j s t hj hs ht]
  · rw [List.getElem?_eq_none (by omega), List.getElem?_eq_none (by omega)]

set_option maxHeartbeats 4000000 in
set_option maxRecDepth 100000 in
theorem eqf_any (W : World) (v u : Value) (L M : List (Sp Int)) (h : Tl W v L) (h2 : Tl W u M) (hsz : L.length ≤ 9000000) (hsz2 : M.length ≤ 9000000) (r : Bool) (hr : r = true ↔ L = M) :
    Calls Try.prog 45 #[v, u, .func (.func 47) #[] #[]] W fun e W' => e = .returned (.bool r) ∧ Below W.heap.size W W' := by
  have eg : ∀ args w, (callFunc 47 args).run Try.prog w = .ok (.enter 47 args) w := enters_of Try.func47 (by kernel_rfl) rfl
  have HR : Hid (r = true ↔ L = M) := hr
  obtain ⟨va, vc, rfl, h2a, h3a, h4a⟩ := h
  obtain ⟨ua, uc, rfl, h2b, h3b, h4b⟩ := h2
  have HV : Hid (∀ i s, L[i]? = some s → ∃ g off, va = some ⟨g, off, none⟩ ∧ g < W.heap.size ∧ W.cell? ⟨g, off + i * 3, none⟩ = some (.int .u64 s.lo) ∧ W.cell? ⟨g, off + i * 3 + 1, none⟩ = some (.int .u64 s.hi) ∧ W.cell? ⟨g, off + i * 3 + 2, none⟩ = some (.int .i64 s.val)) := h4a
  have HU : Hid (∀ i s, M[i]? = some s → ∃ g off, ua = some ⟨g, off, none⟩ ∧ g < W.heap.size ∧ W.cell? ⟨g, off + i * 3, none⟩ = some (.int .u64 s.lo) ∧ W.cell? ⟨g, off + i * 3 + 1, none⟩ = some (.int .u64 s.hi) ∧ W.cell? ⟨g, off + i * 3 + 2, none⟩ = some (.int .i64 s.val)) := h4b
  clear h4a h4b hr
  generalize hn : L.length = n at *
  have HN : Hid (L.length = n) := hn
  clear hn
  generalize hm : M.length = m at *
  have HM : Hid (M.length = m) := hm
  clear hm
  by_cases hlen : n = m
  · have hlz : ¬ ((n : Int) ≠ (m : Int)) := by omega
    subst hlen
    go_enter Try.func45, Try.ntmps45
    go_wp2
    go_loopw [17] (fun si wr => ∃ (i : Nat), i ≤ n ∧ si = .int .i64 i ∧ Hid (EqTo L M i) ∧ Hid (Below W.heap.size W wr)) (fun si _ => n - (intOf si).toNat)
    case atStart => exact ⟨0, Nat.zero_le _, rfl, (fun j s t hj => by omega), Below.refl _ _⟩
    case round =>
      obtain ⟨i, hi, rfl, HE, HB⟩ := hrel
      by_cases hlt : i < n
      · obtain ⟨s, hs⟩ : ∃ s, L[i]? = some s := ⟨_, List.getElem?_eq_getElem (by rw [HN.out]; exact hlt)⟩
        obtain ⟨t, ht⟩ : ∃ t, M[i]? = some t := ⟨_, List.getElem?_eq_getElem (by rw [HM.out]; exact hlt)⟩
        obtain ⟨g, off, rfl, hgl, q0, q1, q2⟩ := HV.out i s hs
        obtain ⟨gg, off2, rfl, hgg, z0, z1, z2⟩ := HU.out i t ht
        have HBo := HB.out
        have hsz3 := HBo.size
        obtain ⟨hcc, _⟩ := bcell HBo
        rw [← hcc _ _ hgl] at q0 q1 q2
        rw [← hcc _ _ hgg] at z0 z1 z2
        have hgl' : g < wr.heap.size := by omega
        have hgg' : gg < wr.heap.size := by omega
        have hltz : (i : Int) < (n : Int) := by omega
        have hi0 : (0 : Int) ≤ (i : Int) := by omega
        have hb2 := below_alloc (below_alloc HBo (.cells #[.int .u64 s.lo, .int .u64 s.hi, .int .i64 s.val] 44)) (.cells #[.int .u64 t.lo, .int .u64 t.hi, .int .i64 t.val] 44)
        have HST : Hid (L[i]? = some s ∧ M[i]? = some t) := ⟨hs, ht⟩
        have hC := eqc_any s t ((wr.alloc (.cells #[.int .u64 s.lo, .int .u64 s.hi, .int .i64 s.val] 44)).alloc (.cells #[.int .u64 t.lo, .int .u64 t.hi, .int .i64 t.val] 44))
        clear hcc hs ht hgl hgg hsz3
        by_cases hst : s = t
        · have HE2 : Hid (EqTo L M (i + 1)) := fun j a b hj ha hb => by
            by_cases e : j = i
            · subst e
              rw [HST.out.1] at ha
              rw [HST.out.2] at hb
              cases ha
              cases hb
              exact hst
            · exact HE.out j a b (by omega) ha hb
          rw [show sameS s t = true from sameS_iff.2 hst] at hC
          clear hst
          go_wp2_with (go_at_fn 47; refine hC.mono ?_; rintro e w3 ⟨rfl, hb3⟩; have hB3 := below_go hb2 hb3)
          go_roundw
          case rel => exact ⟨i + 1, by omega, by go_num, HE2, hB3⟩
          case measure => simp [intOf]; omega
        · have HF : Hid (r = false) := by
            cases r with
            | false => rfl
            | true =>
              have := HR.out.1 rfl
              subst this
              have h1 := HST.out.1
              rw [HST.out.2] at h1
              cases h1
              exact absurd rfl hst
          rw [show sameS s t = false by cases h : sameS s t with | false => rfl | true => exact absurd (sameS_iff.1 h) hst] at hC
          clear hst
          go_wp2_with (go_at_fn 47; refine hC.mono ?_; rintro e w3 ⟨rfl, hb3⟩; have hB3 := below_go hb2 hb3)
          go_ret
          exact ⟨by rw [HF.out]; rfl, hB3⟩
      · obtain rfl : i = n := by omega
        have HF : Hid (r = true) := HR.out.2 (EqTo.all (by rw [HN.out]; exact HE.out) (by rw [HN.out, HM.out]))
        go_wp2
        go_ret
        exact ⟨by rw [HF.out]; rfl, HB.out⟩
  · have hlz : ((n : Int) == (m : Int)) = false := by simp; omega
    have HF : Hid (r = false) := by
      cases r with
      | false => rfl
      | true => exact absurd (by rw [← HN.out, ← HM.out, HR.out.1 rfl]) hlen
    have hlz2 : ((n : Int) != (m : Int)) = true := by simp; omega
    go_enter Try.func45, Try.ntmps45
    go_wp2
    go_ret
    exact ⟨by rw [HF.out]; rfl, Below.refl _ _⟩

set_option maxHeartbeats 4000000 in
theorem equal_any (W : World) (x y : Option Addr) (A B : List (Sp Int)) (hA : PM W x A) (hB : PM W y B) (hl : A.length ≤ 9000000) (hl2 : B.length ≤ 9000000) (r : Bool) (hr : r = true ↔ A = B) :
    Calls Try.prog 24 #[.pointer x, .pointer y] W fun e W' => e = .returned (.bool r) ∧ Below W.heap.size W W' := by
  have hC1 := list_any W x A hA
  have hC2 := list_any W y B hB
  have HR : Hid (r = true ↔ A = B) := hr
  clear hA hB hr
  go_enter Try.func24, Try.ntmps24
  go_wp2_with (fail)
  refine hC1.mono ?_
  rintro e wA ⟨va, rfl, hTA, rfl⟩
  go_wp2_with (fail)
  refine hC2.mono ?_
  rintro e wB ⟨vb, rfl, hTB, rfl⟩
  have hC := eqf_any W va vb A B hTA hTB hl hl2 r HR.out
  clear hC1 hC2
  go_wp2_with (fail)
  refine hC.mono ?_
  rintro e w3 ⟨rfl, hb3⟩
  go_wp2
  go_ret
  exact ⟨rfl, hb3⟩
end Go.Proofs.Ytliiblaodhcjhaa

import Derived.Test.YtliiblaodhcjhabRef
namespace Go.Proofs.Ytliiblaodhcjhab
open Go.RowKit
set_option linter.unusedVariables false

def cutS (l : List Int) (d : Dn) : List Int := if d.hi < 18446744073709551615 then insK (insK l d.lo) (d.hi + 1) else insK l d.lo
def cutsL (D : List Dn) (l : List Int) : List Int := D.foldl cutS (insK l 0)

theorem cutS_rise {l : List Int} {d : Dn} (h : Rise 0 l) (h1 : 0 ≤ d.lo) (h2 : d.lo ≤ d.hi) : Rise 0 (cutS l d) := by
  rw [cutS]
  split
  · exact insK_rise (insK_rise h h1) (by omega)
  · exact insK_rise h h1

theorem cuts_take_succ (D : List Dn) (l : List Int) (q : Nat) (d : Dn) (h : D[q]? = some d) : cutsL (D.take (q + 1)) l = cutS (cutsL (D.take q) l) d := by
  have hk : q < D.length := (List.getElem?_eq_some_iff.1 h).1
  have ho : D[q] = d := (List.getElem?_eq_some_iff.1 h).2
  rw [cutsL, List.take_succ_eq_append_getElem hk, List.foldl_append, ho]
  rfl

set_option maxHeartbeats 4000000 in
set_option maxRecDepth 100000 in
theorem cuts_any (W : World) (lo p lo2 : Nat) (v xv : Value) (D : List Dn) (xs : List Int) (h : RefAt W lo p v D) (hs : D.length ≤ 1048576) (hx : Ks W lo2 xv xs) (hlo : lo2 ≤ W.heap.size) (hr : Rise 0 xs) (hl : xs.length ≤ 5000000) :
    Calls Try.prog 43 #[.pointer (some ⟨p, 0, none⟩), xv] W fun e W' => ∃ v', e = .returned v' ∧ Ks W' lo2 v' (cutsL D xs) ∧ Rise 0 (cutsL D xs) ∧ (cutsL D xs).length ≤ xs.length + 1 + 2 * D.length ∧ Below W.heap.size W W' := by
  obtain ⟨a, cap, hv, hcells⟩ := h.view
  subst hv
  have HC : Hid (∀ i d, D[i]? = some d → ∃ g, a = some ⟨g, 0, none⟩ ∧ g < W.heap.size ∧ W.cell? ⟨g, i * 4, none⟩ = some (.int .u64 d.lo) ∧ W.cell? ⟨g, i * 4 + 1, none⟩ = some (.int .u64 d.hi) ∧ W.cell? ⟨g, i * 4 + 2, none⟩ = some (.bool d.has) ∧ W.cell? ⟨g, i * 4 + 3, none⟩ = some (.int .i64 d.val)) := hcells
  have HH : Hid (RefAt W lo p (.slice a D.length cap) D) := h
  have hpl := h.lt
  have hcW : W.cell? ⟨p, 0, none⟩ = some (.slice a D.length cap) := h.cell
  have hP0 := put_any W lo2 xv xs 0 hx hlo hr (by omega)
  have HR0 : Hid (Rise 0 (insK xs 0)) := insK_rise hr (Int.le_refl _)
  have HL0 : Hid ((insK xs 0).length ≤ xs.length + 1) := insK_len xs 0
  clear h hcells hx hr
  generalize hn : D.length = n at *
  have HN : Hid (D.length = n) := hn
  clear hn
  go_enter Try.func43, Try.ntmps43
  go_wp2_with (fail)
  refine hP0.mono ?_
  rintro e w1 ⟨v1, rfl, hk1, hb1⟩
  clear hP0
  have HK0 : Hid (Ks w1 lo2 v1 (cutsL (D.take 0) xs)) := hk1
  obtain ⟨a1, c1, rfl⟩ := slice_form hk1
  clear hk1
  go_wp2
  go_loopw [1, 5] (fun sl si wr => ∃ (q : Nat) (va : Option Addr) (vc : Nat), sl = .slice va (cutsL (D.take q) xs).length vc ∧ si = .int .i64 q ∧ q ≤ n ∧ Hid (Ks wr lo2 (.slice va (cutsL (D.take q) xs).length vc) (cutsL (D.take q) xs)) ∧ Hid (Rise 0 (cutsL (D.take q) xs) ∧ (cutsL (D.take q) xs).length ≤ xs.length + 1 + 2 * q) ∧ Hid (Below W.heap.size W wr)) (fun _ si _ => n - (intOf si).toNat)
  case atStart => exact ⟨0, a1, c1, rfl, rfl, Nat.zero_le _, HK0, ⟨HR0.out, HL0.out⟩, hb1⟩
  case round =>
    obtain ⟨q, va, vc, rfl, rfl, hq, HK, HI, HB⟩ := hrel
    clear HK0
    have hcw : wr.cell? ⟨p, 0, none⟩ = some (.slice a n cap) := by rw [(bcell HB.out).1 p 0 hpl]; exact hcW
    by_cases hlt : q < n
    · obtain ⟨d, hd⟩ : ∃ d, D[q]? = some d := ⟨_, List.getElem?_eq_getElem (by rw [HN.out]; exact hlt)⟩
      obtain ⟨g, rfl, hgl, e0, e1, e2, e3⟩ := HC.out q d hd
      obtain ⟨d1, d2, d3, d4⟩ := HH.out.rng d (List.mem_of_getElem? hd)
      have HS : Hid (cutsL (D.take (q + 1)) xs = cutS (cutsL (D.take q) xs) d) := cuts_take_succ D xs q d hd
      have HRn : Hid (Rise 0 (cutS (cutsL (D.take q) xs) d)) := cutS_rise HI.out.1 d1 d2
      have f0 : wr.cell? ⟨g, q * 4, none⟩ = some (.int .u64 d.lo) := by rw [(bcell HB.out).1 g _ hgl]; exact e0
      have f1 : wr.cell? ⟨g, q * 4 + 1, none⟩ = some (.int .u64 d.hi) := by rw [(bcell HB.out).1 g _ hgl]; exact e1
      have hqz : (q : Int) < (n : Int) := by omega
      have hq0 : (0 : Int) ≤ (q : Int) := by omega
      have hIl := HI.out.2
      have HIr : Hid (Rise 0 (cutsL (D.take q) xs)) := HI.out.1
      generalize cutsL (D.take q) xs = l at *
      have hP1 := put_any wr lo2 (.slice va l.length vc) l d.lo HK.out (Nat.le_trans hlo HB.out.size) HIr.out (by omega)
      have hl1 := insK_len l d.lo
      have HR1 : Hid (Rise 0 (insK l d.lo)) := insK_rise HIr.out d1
      clear hd d4 HI
      by_cases c0 : d.hi < 18446744073709551615
      · have HE : Hid (cutS l d = insK (insK l d.lo) (d.hi + 1)) := by show _ = _; rw [cutS, if_pos c0]
        have hl2 := insK_len (insK l d.lo) (d.hi + 1)
        go_wp2_with (fail)
        refine hP1.mono ?_
        rintro e w2 ⟨v2, rfl, hk2, hb2⟩
        have hB2 := below_go HB.out hb2
        have hcw2 : w2.cell? ⟨p, 0, none⟩ = some (.slice (some ⟨g, 0, none⟩) n cap) := by rw [(bcell hB2).1 p 0 hpl]; exact hcW
        have f2 : w2.cell? ⟨g, q * 4 + 1, none⟩ = some (.int .u64 d.hi) := by rw [(bcell hB2).1 g _ hgl]; exact e1
        have hP2 := put_any w2 lo2 v2 (insK l d.lo) (d.hi + 1) hk2 (Nat.le_trans hlo hB2.size) HR1.out (by omega)
        obtain ⟨a2, c2, rfl⟩ := slice_form hk2
        clear hk2 hb2 hP1
        generalize hl3 : insK l d.lo = l3 at *
        go_wp2_with (fail)
        refine hP2.mono ?_
        rintro e w3 ⟨v3, rfl, hk3, hb3⟩
        have hB3 := below_go hB2 hb3
        rw [← HE.out, ← HS.out] at hk3 hl2
        rw [← HS.out] at HRn
        obtain ⟨a3, c3, rfl⟩ := slice_form hk3
        have HK3 : Hid (Ks w3 lo2 (.slice a3 (cutsL (D.take (q + 1)) xs).length c3) (cutsL (D.take (q + 1)) xs)) := hk3
        clear hk3 hb3 hP2
        go_wp2
        go_roundw
        case rel => exact ⟨q + 1, a3, c3, rfl, by go_num, by omega, HK3, ⟨HRn.out, by omega⟩, hB3⟩
        case measure => simp [intOf]; omega
      · have HE : Hid (cutS l d = insK l d.lo) := by show _ = _; rw [cutS, if_neg c0]
        go_wp2_with (fail)
        refine hP1.mono ?_
        rintro e w2 ⟨v2, rfl, hk2, hb2⟩
        have hB2 := below_go HB.out hb2
        have hcw2 : w2.cell? ⟨p, 0, none⟩ = some (.slice (some ⟨g, 0, none⟩) n cap) := by rw [(bcell hB2).1 p 0 hpl]; exact hcW
        have f2 : w2.cell? ⟨g, q * 4 + 1, none⟩ = some (.int .u64 d.hi) := by rw [(bcell hB2).1 g _ hgl]; exact e1
        rw [← HE.out, ← HS.out] at hk2 hl1
        rw [← HS.out] at HRn
        obtain ⟨a2, c2, rfl⟩ := slice_form hk2
        have HK3 : Hid (Ks w2 lo2 (.slice a2 (cutsL (D.take (q + 1)) xs).length c2) (cutsL (D.take (q + 1)) xs)) := hk2
        clear hk2 hb2 hP1
        go_wp2
        go_roundw
        case rel => exact ⟨q + 1, a2, c2, rfl, by go_num, by omega, HK3, ⟨HRn.out, by omega⟩, hB2⟩
        case measure => simp [intOf]; omega
    · obtain rfl : q = n := by omega
      have HT : Hid (D.take q = D) := by show _ = _; rw [← HN.out]; exact List.take_length
      have HK2 : Hid (∃ v', Value.slice va (cutsL (D.take q) xs).length vc = v' ∧ Ks wr lo2 v' (cutsL D xs) ∧ Rise 0 (cutsL D xs) ∧ (cutsL D xs).length ≤ xs.length + 1 + 2 * q) := by
        have h1 := HK.out
        have h2 := HI.out
        rw [HT.out] at h1 h2
        exact ⟨_, rfl, by rw [HT.out]; exact h1, h2.1, h2.2⟩
      go_wp2
      go_ret
      obtain ⟨v', e1, e2, e3, e4⟩ := HK2.out
      exact ⟨v', by rw [← e1]; rfl, e2, e3, e4, HB.out⟩

/-- The end of the piece that begins at the i-th cut. -/
def endC (xs : List Int) (i : Nat) : Int := match xs[i + 1]? with | some y => y - 1 | none => 18446744073709551615

set_option maxHeartbeats 1000000 in
theorem end_any (W : World) (lo : Nat) (v : Value) (xs : List Int) (i : Nat) (h : Ks W lo v xs) (hr : ∀ x ∈ xs, 0 ≤ x ∧ x ≤ 18446744073709551615) (hl : xs.length ≤ 9000000) (hi : i < xs.length) (h1 : ∀ y, xs[i + 1]? = some y → 1 ≤ y) :
    Calls Try.prog 44 #[v, .int .i64 i] W fun e W' => e = .returned (.int .u64 (endC xs i)) ∧ W' = W := by
  obtain ⟨a, cap, hv, hcells⟩ := h.view
  subst hv
  cases hy : xs[i + 1]? with
  | none =>
    have hge := List.getElem?_eq_none_iff.1 hy
    have e1 : ¬ ((i : Int) + 1 < (xs.length : Int)) := by omega
    rw [endC, hy]
    clear hcells h hr h1 hy
    generalize xs.length = n at *
    go_enter Try.func44, Try.ntmps44
    go_wp2
    go_ret
    exact ⟨rfl, rfl⟩
  | some y =>
    obtain ⟨g, rfl, hgl, hgc⟩ := hcells (i + 1) y hy
    have hlt := (List.getElem?_eq_some_iff.1 hy).1
    have e1 : (i : Int) + 1 < (xs.length : Int) := by omega
    have e2 : (0 : Int) ≤ (i : Int) + 1 := by omega
    have e3 : ((i : Int) + 1).toNat = i + 1 := by omega
    have y1 := h1 y hy
    have y2 := hr y (List.mem_of_getElem? hy)
    rw [endC, hy]
    clear hcells h hr h1 hy
    generalize xs.length = n at *
    go_enter Try.func44, Try.ntmps44
    go_wp2
    go_ret
    exact ⟨rfl, rfl⟩
end Go.Proofs.Ytliiblaodhcjhab

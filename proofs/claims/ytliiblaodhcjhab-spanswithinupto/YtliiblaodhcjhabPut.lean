import Derived.Test.YtliiblaodhcjhabRefP
import Derived.Deep.QuietTactic
import Derived.BigQuiet
import Derived.Deep.RegionHeld3
import Derived.Test.YtliiblaodhcjhabKst
namespace Go.Proofs.Ytliiblaodhcjhab
open Go.RowKit
set_option linter.unusedVariables false

/-- Where put stands at the i-th. -/
def PutInv (xs ys : List Int) (k : Int) (i : Nat) (d : Bool) : Prop :=
  (∀ y ∈ xs.take i, y ≠ k) ∧ (d = true → (∃ y ∈ xs.take i, k < y) ∧ ys = insK (xs.take i) k) ∧ (d = false → (∀ y ∈ xs.take i, y < k) ∧ ys = xs.take i) ∧ ys.length ≤ i + 1

theorem take_snoc' {xs : List Int} {i : Nat} {x : Int} (h : xs[i]? = some x) : xs.take (i + 1) = xs.take i ++ [x] := by
  have hi := (List.getElem?_eq_some_iff.1 h).1
  rw [List.take_succ_eq_append_getElem hi, (List.getElem?_eq_some_iff.1 h).2]

theorem PutInv.less {xs ys : List Int} {k x : Int} {i : Nat} (h : PutInv xs ys k i false) (hx : xs[i]? = some x) (hl : x < k) : PutInv xs (ys ++ [x]) k (i + 1) false := by
  obtain ⟨h1, h2, h3, h4⟩ := h
  obtain ⟨h5, h6⟩ := h3 rfl
  rw [PutInv, take_snoc' hx]
  refine ⟨fun y hy => ?_, fun e => (by cases e), fun _ => ⟨fun y hy => ?_, by rw [h6]⟩, by simp; omega⟩
  · rcases List.mem_append.1 hy with hy | hy
    · exact h1 y hy
    · rw [List.mem_singleton] at hy; omega
  · rcases List.mem_append.1 hy with hy | hy
    · exact h5 y hy
    · rw [List.mem_singleton] at hy; omega

theorem PutInv.here {xs ys : List Int} {k x : Int} {i : Nat} (h : PutInv xs ys k i false) (hx : xs[i]? = some x) (hl : k < x) : PutInv xs (ys ++ [k] ++ [x]) k (i + 1) true := by
  obtain ⟨h1, h2, h3, h4⟩ := h
  obtain ⟨h5, h6⟩ := h3 rfl
  have hlen : ys.length ≤ i := by rw [h6, List.length_take]; omega
  rw [PutInv, take_snoc' hx]
  refine ⟨fun y hy => ?_, fun _ => ⟨⟨x, by simp, hl⟩, ?_⟩, fun e => (by cases e), by simp; omega⟩
  · rcases List.mem_append.1 hy with hy | hy
    · exact h1 y hy
    · rw [List.mem_singleton] at hy; omega
  · rw [insK_less [x] h5, insK, if_neg (by omega), if_pos hl, h6]
    simp

theorem PutInv.past {xs ys : List Int} {k x : Int} {i : Nat} (h : PutInv xs ys k i true) (hx : xs[i]? = some x) (hl : x ≠ k) : PutInv xs (ys ++ [x]) k (i + 1) true := by
  obtain ⟨h1, h2, h3, h4⟩ := h
  obtain ⟨h5, h6⟩ := h2 rfl
  rw [PutInv, take_snoc' hx]
  refine ⟨fun y hy => ?_, fun _ => ⟨?_, ?_⟩, fun e => (by cases e), by simp; omega⟩
  · rcases List.mem_append.1 hy with hy | hy
    · exact h1 y hy
    · rw [List.mem_singleton] at hy; omega
  · obtain ⟨y, hy, hk⟩ := h5
    exact ⟨y, by simp [hy], hk⟩
  · rw [insK_done h1 h5, h6]

set_option maxHeartbeats 6000000 in
set_option maxRecDepth 100000 in
theorem put_any (W : World) (lo : Nat) (v : Value) (xs : List Int) (k : Int) (h : Ks W lo v xs) (hlo : lo ≤ W.heap.size) (hr : Rise 0 xs) (hl : xs.length ≤ 9000000) :
    Calls Try.prog 59 #[v, .int .u64 k] W fun e W' => ∃ v', e = .returned v' ∧ Ks W' lo v' (insK xs k) ∧ Below W.heap.size W W' := by
  obtain ⟨a, cap, hv, hcells⟩ := h.view
  subst hv
  have HC : Hid (∀ i x, xs[i]? = some x → ∃ g, a = some ⟨g, 0, none⟩ ∧ g < W.heap.size ∧ W.cell? ⟨g, i, none⟩ = some (.int .u64 x)) := hcells
  have HR : Hid (Rise 0 xs) := hr
  have HK : Hid (Ks W lo (.slice a xs.length cap) xs) := h
  clear h hcells hr
  generalize hn : xs.length = n at *
  have HN : Hid (xs.length = n) := hn
  clear hn
  go_enter Try.func59, Try.ntmps59
  go_wp2
  go_loopw [5, 6, 7] (fun so sd si wr => ∃ (i : Nat) (d : Bool) (ys : List Int) (va : Option Addr) (vc : Nat), so = .slice va ys.length vc ∧ sd = .bool d ∧ si = .int .i64 i ∧ i ≤ n ∧ Hid (Ks wr W.heap.size (.slice va ys.length vc) ys) ∧ Hid (PutInv xs ys k i d) ∧ Hid (Below W.heap.size W wr)) (fun _ _ si _ => n - (intOf si).toNat)
  case atStart => exact ⟨0, false, [], none, 0, rfl, rfl, rfl, Nat.zero_le _, World.ownsRow_nil _ _ _ _, ⟨(fun y hy => by simp at hy), (fun e => by cases e), (fun _ => ⟨(fun y hy => by simp at hy), rfl⟩), Nat.zero_le _⟩, Below.refl _ _⟩
  case round =>
    obtain ⟨i, d, ys, va, vc, rfl, rfl, rfl, hi, HY, HI, HB⟩ := hrel
    have hyl := HI.out.2.2.2
    by_cases hlt : i < n
    · obtain ⟨x, hx⟩ : ∃ x, xs[i]? = some x := ⟨_, List.getElem?_eq_getElem (by rw [HN.out]; exact hlt)⟩
      obtain ⟨g, rfl, hgl, hgc⟩ := HC.out i x hx
      have HXI : Hid (xs[i]? = some x) := hx
      clear hx
      have hiz : (i : Int) < (n : Int) := by omega
      have hi0 : (0 : Int) ≤ (i : Int) := by omega
      have y0 : wr.cell? ⟨g, i, none⟩ = some (.int .u64 x) := by rw [(bcell HB.out).1 g i hgl]; exact hgc
      by_cases hxk : x = k
      · have e1 : (x == k) = true := by simp [hxk]
        have HE : Hid (insK xs k = xs) := insK_self HR.out (by rw [← hxk]; exact List.mem_of_getElem? HXI.out)
        have HF : Hid (Ks wr lo (.slice (some ⟨g, 0, none⟩) n cap) (insK xs k)) := by show Ks _ _ _ _; rw [HE.out]; exact HK.out.keep HB.out
        clear hxk
        go_wp2
        go_ret
        exact ⟨_, rfl, HF, HB.out⟩
      · have e1 : (x == k) = false := by simp [hxk]
        cases d with
        | true =>
          have HI2 : Hid (PutInv xs (ys ++ [x]) k (i + 1) true) := HI.out.past HXI.out hxk
          clear hxk
          obtain ⟨t1, w1, hr1, hk1, hg1⟩ := one_append wr W.heap.size (.slice va ys.length vc) ys x HY.out HB.out.size (by omega)
          have hB1 : Below W.heap.size W w1 := HB.out.grown hg1 HB.out.size (fun g hg => (World.ownsRow.lt HY.out g hg).1)
          have HK1 : Hid (Ks w1 W.heap.size t1 (ys ++ [x])) := hk1
          go_wp2_with (at_builtin; refine Hid.out ?_)
          obtain ⟨va1, vc1, rfl⟩ := slice_form hk1
          refine Lib.wpList_append_run _ rfl _ _ 79 79 rfl _ _ (by rfl) (by rfl) _ _ (hr1 _) ?_
          clear hk1
          go_wp2
          go_roundw
          case rel => exact ⟨i + 1, true, _, va1, vc1, by rw [List.length_append]; rfl, rfl, by go_num, by omega, HK1, HI2, hB1⟩
          case measure => simp [intOf]; omega
        | false =>
          by_cases hkx : k < x
          · have HI2 : Hid (PutInv xs (ys ++ [k] ++ [x]) k (i + 1) true) := HI.out.here HXI.out hkx
            clear hxk
            obtain ⟨t1, w1, hr1, hk1, hg1⟩ := one_append wr W.heap.size (.slice va ys.length vc) ys k HY.out HB.out.size (by omega)
            have hB1 : Below W.heap.size W w1 := HB.out.grown hg1 HB.out.size (fun g hg => (World.ownsRow.lt HY.out g hg).1)
            have HK1 : Hid (Ks w1 W.heap.size t1 (ys ++ [k])) := hk1
            go_wp2_with (at_builtin; refine Hid.out ?_)
            obtain ⟨va1, vc1, rfl⟩ := slice_form hk1
            refine Lib.wpList_append_run _ rfl _ _ 79 79 rfl _ _ (by rfl) (by rfl) _ _ (hr1 _) ?_
            have y1 : w1.cell? ⟨g, i, none⟩ = some (.int .u64 x) := by rw [(bcell hB1).1 g i hgl]; exact hgc
            have hyl1 : (ys ++ [k]).length ≤ 9500000 := by rw [List.length_append]; simp only [List.length_cons, List.length_nil]; omega
            obtain ⟨t2, w2, hr2, hk2, hg2⟩ := one_append w1 W.heap.size (.slice va1 (ys ++ [k]).length vc1) (ys ++ [k]) x HK1.out hB1.size (by omega)
            have hB2 : Below W.heap.size W w2 := hB1.grown hg2 hB1.size (fun g hg => (World.ownsRow.lt HK1.out g hg).1)
            have HK2 : Hid (Ks w2 W.heap.size t2 ((ys ++ [k]) ++ [x])) := hk2
            clear hk1
            generalize hy1 : ys ++ [k] = ys1 at *
            go_wp2_with (at_builtin; refine Hid.out ?_)
            obtain ⟨va2, vc2, rfl⟩ := slice_form hk2
            refine Lib.wpList_append_run _ rfl _ _ 79 79 rfl _ _ (by rfl) (by rfl) _ _ (hr2 _) ?_
            clear hk2
            go_wp2
            go_roundw
            case rel => exact ⟨i + 1, true, _, va2, vc2, by rw [List.length_append]; rfl, rfl, by go_num, by omega, HK2, HI2, hB2⟩
            case measure => simp [intOf]; omega
          · have HI2 : Hid (PutInv xs (ys ++ [x]) k (i + 1) false) := HI.out.less HXI.out (by omega)
            clear hxk
            obtain ⟨t1, w1, hr1, hk1, hg1⟩ := one_append wr W.heap.size (.slice va ys.length vc) ys x HY.out HB.out.size (by omega)
            have hB1 : Below W.heap.size W w1 := HB.out.grown hg1 HB.out.size (fun g hg => (World.ownsRow.lt HY.out g hg).1)
            have HK1 : Hid (Ks w1 W.heap.size t1 (ys ++ [x])) := hk1
            go_wp2_with (at_builtin; refine Hid.out ?_)
            obtain ⟨va1, vc1, rfl⟩ := slice_form hk1
            refine Lib.wpList_append_run _ rfl _ _ 79 79 rfl _ _ (by rfl) (by rfl) _ _ (hr1 _) ?_
            clear hk1
            go_wp2
            go_roundw
            case rel => exact ⟨i + 1, false, _, va1, vc1, by rw [List.length_append]; rfl, rfl, by go_num, by omega, HK1, HI2, hB1⟩
            case measure => simp [intOf]; omega
    · obtain rfl : i = n := by omega
      have HT : Hid (xs.take i = xs) := by show _ = _; rw [← HN.out]; exact List.take_length
      cases d with
      | true =>
        have HF : Hid (Ks wr lo (.slice va ys.length vc) (insK xs k)) := by
          show Ks _ _ _ _
          have := (HI.out.2.1 rfl).2
          rw [HT.out] at this
          rw [← this]
          exact own_mono HY.out hlo
        go_wp2
        go_ret
        exact ⟨_, rfl, HF, HB.out⟩
      | false =>
        have HE : Hid (insK xs k = ys ++ [k]) := by
          show _ = _
          obtain ⟨q1, q2⟩ := HI.out.2.2.1 rfl
          rw [HT.out] at q1 q2
          rw [q2]
          have := insK_less [] q1
          rw [List.append_nil] at this
          rw [this]
          rfl
        obtain ⟨t1, w1, hr1, hk1, hg1⟩ := one_append wr W.heap.size (.slice va ys.length vc) ys k HY.out HB.out.size (by omega)
        have hB1 : Below W.heap.size W w1 := HB.out.grown hg1 HB.out.size (fun g hg => (World.ownsRow.lt HY.out g hg).1)
        have HK1 : Hid (Ks w1 W.heap.size t1 (ys ++ [k])) := hk1
        go_wp2_with (at_builtin; refine Hid.out ?_)
        refine Lib.wpList_append_run _ rfl _ _ 79 79 rfl _ _ (by rfl) (by rfl) _ _ (hr1 _) ?_
        have HF : Hid (Ks w1 lo t1 (insK xs k)) := by show Ks _ _ _ _; rw [HE.out]; exact own_mono HK1.out hlo
        clear hk1
        go_wp2
        go_ret
        exact ⟨t1, rfl, HF, hB1⟩
end Go.Proofs.Ytliiblaodhcjhab

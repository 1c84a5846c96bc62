import Derived.Test.YtlfgnbjioofplabKz
import Derived.Test.YtlfgnbjioofplabBe
import Derived.Test.YtlfgnbjioofplabOp
import Derived.Deep.QuietTactic
import Derived.BigQuiet
namespace Go.Proofs.Ytlfgnbjioofplab
open Go.RowKit
set_option linter.unusedVariables false

theorem clear_nat (n k x : Nat) (hk : k ≤ n) (hx : x < 2 ^ n) : x &&& (2 ^ n - (2 ^ k - 1 + 1)) = 2 ^ k * (x / 2 ^ k) := by
  have hlt : 2 ^ k - 1 < 2 ^ n := by
    have h1 : 2 ^ k ≤ 2 ^ n := Nat.pow_le_pow_right (by omega) hk
    have h3 : 0 < 2 ^ k := Nat.two_pow_pos k
    omega
  apply Nat.eq_of_testBit_eq
  intro j
  rw [Nat.testBit_and, Nat.testBit_two_pow_sub_succ hlt, Nat.testBit_two_pow_mul, Nat.testBit_two_pow_sub_one]
  have hxj : x.testBit j = (decide (j < n) && x.testBit j) := by
    by_cases hj : j < n
    · simp [hj]
    · have : x.testBit j = false := Nat.testBit_lt_two_pow (Nat.lt_of_lt_of_le hx (Nat.pow_le_pow_right (by omega) (by omega)))
      simp [hj, this]
  by_cases h1 : j < k
  · have h2 : ¬ k ≤ j := by omega
    simp [h1, h2]
  · have h2 : k ≤ j := by omega
    rw [Nat.testBit_div_two_pow, show j - k + k = j by omega]
    simp [h1, h2]
    intro hb
    rw [hb] at hxj
    simp at hxj
    exact hxj
theorem not63 (x : Nat) (hx : x < 18446744073709551616) : bits BinOp.andNot IntKind.u64 (x : Int) 63 = ((x - x % 64 : Nat) : Int) := by
  show IntKind.u64.wrap ((BitVec.ofInt 64 (x : Int) &&& ~~~BitVec.ofInt 64 63).toNat : Int) = _
  rw [BitVec.toNat_and, BitVec.toNat_not, ofInt_u64 x (by omega), show (BitVec.ofInt 64 63).toNat = 2 ^ 6 - 1 from by decide, show 2 ^ 64 - 1 - (2 ^ 6 - 1) = 2 ^ 64 - (2 ^ 6 - 1 + 1) by omega, clear_nat 64 6 x (by omega) (by omega), IntKind.wrap_u64]
  omega

theorem RS.start {W w : World} {s : St} (h : KS W w W.heap.size W.heap.size s []) (hg : s.good) (hz : W.heap.size ≤ w.heap.size) :
    RS W (w.alloc (.cells #[.slice none 0 0, .slice none 0 0, .slice none 0 0, .slice none 0 0] 30)) w.heap.size s (fun _ => .slice none 0 0) [] [] := by
  have hr := row_new w [.slice none 0 0, .slice none 0 0, .slice none 0 0, .slice none 0 0] 30
  have hT : Turn (fun _ => False) w (w.alloc (.cells #[.slice none 0 0, .slice none 0 0, .slice none 0 0, .slice none 0 0] 30)) := (Turn.refl _ w).alloc _
  refine ⟨KZ.ofKS (h.add hT (Nat.le_refl _) hr hz) (fun b hb => ?_), ⟨⟨hr, fun k hk => World.ownsRow_nil _ _ _ _, fun j k b _ _ _ hb => by cases hb⟩, fun e he => by cases he⟩, hg, Nat.le_trans hz hT.size, fun x hx => by cases hx⟩
  rcases hb with (hb | ⟨k, _, hb⟩ | ⟨e, he, _⟩) | ⟨x, hx, _⟩
  · exact ⟨_, List.mem_cons_self .., hb.symm⟩
  · cases hb
  · cases he
  · cases hx

theorem BO.at {w : World} {bb : Nat} {v : Nat → Value} {x : Nat → List Value} (h : BO w bb v x) {k : Nat} (hk : k < 4) {j : Nat} {u : Value} (hj : (x k)[j]? = some u) : ∃ G C, w.cell? ⟨bb, k, none⟩ = some (.slice (some ⟨G, 0, none⟩) (x k).length C) ∧ w.cell? ⟨G, j, none⟩ = some u := by
  have hc := h.cell hk
  have hjl := (List.getElem?_eq_some_iff.1 hj).1
  rcases row_of_own (h.own k hk) with ⟨_, q, _⟩ | ⟨G, C, cur, e, q1, q2, q3, q4, q5, q6⟩
  · omega
  · rw [e] at hc
    refine ⟨G, C, hc, ?_⟩
    rw [q2.cell]
    have := congrArg (fun l => l[j]?) q6
    simp only [Nat.mul_one, List.getElem?_take_of_lt hjl] at this
    rw [this]
    exact hj
theorem RS.len {W w : World} {bb : Nat} {s : St} {v : Nat → Value} {es : List Ent} {ro : List (Nat × TypeId × List Value)} (h : RS W w bb s v es ro) {m : Nat} (hm : es.length = m) : ∃ a c, w.cell? ⟨bb, 0, none⟩ = some (.slice a m c) := by
  subst hm
  obtain ⟨a, c, e⟩ := h.bk.bo.form (k := 0) (by omega)
  have := h.bk.bo.cell (k := 0) (by omega)
  rw [e, List.length_map] at this
  exact ⟨a, c, this⟩
theorem RS.look {W w : World} {bb : Nat} {s : St} {v : Nat → Value} {es : List Ent} {ro : List (Nat × TypeId × List Value)} (h : RS W w bb s v es ro) {m : Nat} (hm : es.length = m) {j : Nat} (hj : j < m) :
    ∃ G0 C0 G1 C1 G2 C2 G3 C3 b0 c0 b1 c1 b2 c2 b3 c3 nb ni, w.cell? ⟨bb, 0, none⟩ = some (.slice (some ⟨G0, 0, none⟩) m C0) ∧ w.cell? ⟨bb, 1, none⟩ = some (.slice (some ⟨G1, 0, none⟩) m C1) ∧ w.cell? ⟨bb, 2, none⟩ = some (.slice (some ⟨G2, 0, none⟩) m C2) ∧ w.cell? ⟨bb, 3, none⟩ = some (.slice (some ⟨G3, 0, none⟩) m C3) ∧
      w.cell? ⟨G0, j, none⟩ = some (.slice (some ⟨b0, 0, none⟩) nb c0) ∧ w.cell? ⟨G1, j, none⟩ = some (.slice (some ⟨b1, 0, none⟩) nb c1) ∧ w.cell? ⟨G2, j, none⟩ = some (.slice (some ⟨b2, 0, none⟩) ni c2) ∧ w.cell? ⟨G3, j, none⟩ = some (.slice (some ⟨b3, 0, none⟩) ni c3) ∧
      (∀ q, Calls Try.prog 10 #[.slice (some ⟨b0, 0, none⟩) nb c0, .slice (some ⟨b1, 0, none⟩) nb c1] (w.drewN q) fun e w' => e = .returned (.bool true) ∧ ∃ n, w' = (w.drewN q).drewN n) ∧
      (∀ q, Calls Try.prog 11 #[.slice (some ⟨b2, 0, none⟩) ni c2, .slice (some ⟨b3, 0, none⟩) ni c3] (w.drewN q) fun e w' => e = .returned (.bool true) ∧ ∃ n, w' = (w.drewN q).drewN n) := by
  subst hm
  obtain ⟨e, he⟩ : ∃ e, es[j]? = some e := ⟨_, List.getElem?_eq_getElem hj⟩
  have hI := h.bk.inn e (List.mem_of_getElem? he)
  have hx : ∀ k, (es.map (proj k))[j]? = some (proj k e) := fun k => by rw [List.getElem?_map, he]; rfl
  obtain ⟨G0, C0, p0, r0⟩ := h.bk.bo.at (k := 0) (by omega) (hx 0)
  obtain ⟨G1, C1, p1, r1⟩ := h.bk.bo.at (k := 1) (by omega) (hx 1)
  obtain ⟨G2, C2, p2, r2⟩ := h.bk.bo.at (k := 2) (by omega) (hx 2)
  obtain ⟨G3, C3, p3, r3⟩ := h.bk.bo.at (k := 3) (by omega) (hx 3)
  rw [List.length_map] at p0 p1 p2 p3
  obtain ⟨b0, c0, f0, g0⟩ := hI.ib.cell
  obtain ⟨b1, c1, f1, g1⟩ := hI.iw.cell
  obtain ⟨b2, c2, f2, g2⟩ := hI.ii.cell
  obtain ⟨b3, c3, f3, g3⟩ := hI.ij.cell
  rw [encB_len] at f0 f1
  rw [encI_len] at f2 f3
  have hnb := hI.nb
  have hni := hI.ni
  rw [show proj 0 e = e.vb from rfl, f0] at r0
  rw [show proj 1 e = e.vw from rfl, f1] at r1
  rw [show proj 2 e = e.vi from rfl, f2] at r2
  rw [show proj 3 e = e.vj from rfl, f3] at r3
  refine ⟨G0, C0, G1, C1, G2, C2, G3, C3, b0, c0, b1, c1, b2, c2, b3, c3, _, _, p0, p1, p2, p3, r0, r1, r2, r3, fun q => ?_, fun q => ?_⟩
  · exact bytes_any (w.drewN q) _ _ c0 c1 e.lb (fun i x hx => ⟨b0, 0, rfl, by rw [Nat.zero_add]; exact g0 i _ (encB_at hx)⟩) (fun i x hx => ⟨b1, 0, rfl, by rw [Nat.zero_add]; exact g1 i _ (encB_at hx)⟩) (by omega)
  · exact ints_any (w.drewN q) _ _ c2 c3 e.li (fun i x hx => ⟨b2, 0, rfl, by rw [Nat.zero_add]; exact g2 i _ (encI_at hx)⟩) (fun i x hx => ⟨b3, 0, rfl, by rw [Nat.zero_add]; exact g3 i _ (encI_at hx)⟩) (by omega)

set_option maxHeartbeats 8000000 in
set_option maxRecDepth 100000 in
theorem own_bad (W : World) (f : Int) (a : Option Addr) (n cap : Nat) (hf : f < 1 ∨ 65536 < f) :
    Calls Try.prog 3 #[.int .i64 f, .slice a n cap] W fun e W' => e = .returned (.bool true) ∧ Below W.heap.size W W' := by
  have hb := begin_bad W f hf
  clear hf
  go_enter Try.func3, Try.ntmps3
  go_wp2_with (first
    | (go_at_call 4; refine hb.mono ?_; rintro e w1 ⟨rfl, ht⟩)
    | go_in)
  go_ret
  exact ⟨rfl, ht.to (fun _ h => h.elim) (Nat.le_refl _)⟩
end Go.Proofs.Ytlfgnbjioofplab

import Derived.Test.YtmodcbdgnmjkoabDoorMQ8
import Derived.Test.YtmodcbdgnmjkoabDoorMQ0
import Derived.Deep.QuietTactic
import Derived.BigQuiet
import Derived.Deep.RegionHeld3
import Derived.BigRegion
import Derived.OrdersIn
import Derived.Deep.MidRow
namespace Go.Proofs.YtmodcbdgnmjkoabDoor
open Go.RowKit
open Mm (Turn gr RowAt)
set_option linter.unusedVariables false
set_option linter.unusedSimpArgs false
theorem lexD_ne {a b : Int} {l m : List Int} (h : ¬ a = b) : decide (lexC (a :: l) (b :: m) < 0) = decide (a < b) := by
  rw [Bool.eq_iff_iff]
  simp only [decide_eq_true_eq, lexC_lt_iff]
  omega
theorem lexD_eq {a b : Int} {l m : List Int} (h : a = b) : decide (lexC (a :: l) (b :: m) < 0) = decide (lexC l m < 0) := by
  rw [Bool.eq_iff_iff]
  simp only [decide_eq_true_eq, lexC_lt_iff]
  omega
set_option maxRecDepth 100000 in
set_option maxHeartbeats 4000000 in
theorem vless_any (a b : Tra) (w : World) : Calls Tryd.prog 43 #[.agg #[.int .i64 a.size, .int .u32 a.va, .int .u64 a.pa, .int .i64 a.dom, .int .i64 a.ap, .int .u32 a.bits, .bool a.ng, .bool a.xn], .agg #[.int .i64 b.size, .int .u32 b.va, .int .u64 b.pa, .int .i64 b.dom, .int .i64 b.ap, .int .u32 b.bits, .bool b.ng, .bool b.xn]] w fun e w' => e = .returned (.bool (ltT a b)) ∧ Below w.heap.size w w' := by
  have HB : Hid (Below w.heap.size w ((w.alloc (.cells #[.int .i64 a.size, .int .u32 a.va, .int .u64 a.pa, .int .i64 a.dom, .int .i64 a.ap, .int .u32 a.bits, .bool a.ng, .bool a.xn] 49)).alloc (.cells #[.int .i64 b.size, .int .u32 b.va, .int .u64 b.pa, .int .i64 b.dom, .int .i64 b.ap, .int .u32 b.bits, .bool b.ng, .bool b.xn] 49))) := hidW (Below.step (below_new _ _) (below_new _ _))
  unfold ltT cmT kyT
  by_cases h1 : a.va = b.va
  · have q1 : (a.va != b.va) = false := by simp [h1]
    rw [lexD_eq h1]
    clear h1
    by_cases h2 : a.size = b.size
    · have q2 : (a.size != b.size) = false := by simp [h2]
      rw [lexD_eq h2]
      clear h2
      by_cases h3 : a.pa = b.pa
      · have q3 : (a.pa != b.pa) = false := by simp [h3]
        rw [lexD_eq h3]
        clear h3
        by_cases h4 : a.dom = b.dom
        · have q4 : (a.dom != b.dom) = false := by simp [h4]
          rw [lexD_eq h4]
          clear h4
          by_cases h5 : a.ap = b.ap
          · have q5 : (a.ap != b.ap) = false := by simp [h5]
            rw [lexD_eq h5]
            clear h5
            by_cases h6 : a.bits = b.bits
            · have q6 : (a.bits != b.bits) = false := by simp [h6]
              rw [lexD_eq h6]
              clear h6
              cases h7 : a.ng <;> cases h8 : b.ng <;> cases h9 : a.xn <;> cases h10 : b.xn
              all_goals
                rw [h7, h8, h9, h10] at HB
                go_enter Tryd.func43, Tryd.ntmps43
                go_wp2
                go_ret
                exact ⟨rfl, HB.out⟩
            · have q6 : (a.bits != b.bits) = true := by simp [h6]
              rw [lexD_ne h6]
              clear h6
              go_enter Tryd.func43, Tryd.ntmps43
              go_wp2
              go_ret
              exact ⟨rfl, HB.out⟩
          · have q5 : (a.ap != b.ap) = true := by simp [h5]
            rw [lexD_ne h5]
            clear h5
            go_enter Tryd.func43, Tryd.ntmps43
            go_wp2
            go_ret
            exact ⟨rfl, HB.out⟩
        · have q4 : (a.dom != b.dom) = true := by simp [h4]
          rw [lexD_ne h4]
          clear h4
          go_enter Tryd.func43, Tryd.ntmps43
          go_wp2
          go_ret
          exact ⟨rfl, HB.out⟩
      · have q3 : (a.pa != b.pa) = true := by simp [h3]
        rw [lexD_ne h3]
        clear h3
        go_enter Tryd.func43, Tryd.ntmps43
        go_wp2
        go_ret
        exact ⟨rfl, HB.out⟩
    · have q2 : (a.size != b.size) = true := by simp [h2]
      rw [lexD_ne h2]
      clear h2
      go_enter Tryd.func43, Tryd.ntmps43
      go_wp2
      go_ret
      exact ⟨rfl, HB.out⟩
  · have q1 : (a.va != b.va) = true := by simp [h1]
    rw [lexD_ne h1]
    clear h1
    go_enter Tryd.func43, Tryd.ntmps43
    go_wp2
    go_ret
    exact ⟨rfl, HB.out⟩
end Go.Proofs.YtmodcbdgnmjkoabDoor
namespace Go.Proofs.YtmodcbdgnmjkoabDoor
open Go.RowKit
open Mm (Turn gr RowAt)
set_option linter.unusedVariables false
set_option linter.unusedSimpArgs false
/-- Strictly rising. -/
def Rise (l : List Tra) : Prop := l.Pairwise fun a b => ltT a b = true
/-- x at the place j. -/
def insAt (l : List Tra) (x : Tra) (j : Nat) : List Tra := l.take j ++ x :: l.drop j
theorem ins_len {l : List Tra} {x : Tra} {j : Nat} : (insAt l x j).length = l.length + 1 := by
  unfold insAt
  rw [List.length_append, List.length_cons, List.length_take, List.length_drop]
  omega
theorem ins_mem {l : List Tra} {x : Tra} {j : Nat} (y : Tra) : y ∈ insAt l x j ↔ y ∈ l ∨ y = x := by
  unfold insAt
  rw [List.mem_append, List.mem_cons]
  conv => rhs; rw [← List.take_append_drop j l, List.mem_append]
  constructor
  · rintro (h | h | h)
    · exact .inl (.inl h)
    · exact .inr h
    · exact .inl (.inr h)
  · rintro ((h | h) | h)
    · exact .inl h
    · exact .inr (.inr h)
    · exact .inr (.inl h)
theorem ins_end (l : List Tra) (x : Tra) : insAt l x l.length = l ++ [x] := by
  unfold insAt
  rw [List.take_length, List.drop_length]
theorem ins_rise {l : List Tra} {x : Tra} {j : Nat} (h : Rise l) (h1 : ∀ i y, j ≤ i → l[i]? = some y → ltT x y = true) (h2 : ∀ y, j ≠ 0 → l[j - 1]? = some y → ltT y x = true) (hj : j ≤ l.length) : Rise (insAt l x j) := by
  have hd : ∀ y ∈ l.drop j, ltT x y = true := fun y hy => by
    obtain ⟨i, hi, rfl⟩ := List.getElem_of_mem hy
    refine h1 (j + i) _ (by omega) ?_
    rw [List.getElem_drop]
    exact List.getElem?_eq_getElem _
  have ht : ∀ y ∈ l.take j, ltT y x = true := fun y hy => by
    obtain ⟨i, hi, rfl⟩ := List.getElem_of_mem hy
    rw [List.length_take] at hi
    have hj0 : j ≠ 0 := by omega
    have hz := h2 _ hj0 (List.getElem?_eq_getElem (i := j - 1) (by omega))
    rw [List.getElem_take]
    rcases (show i = j - 1 ∨ i < j - 1 by omega) with rfl | hlt
    · exact hz
    · exact ltT_trans _ _ _ (List.pairwise_iff_getElem.1 h i (j - 1) (by omega) (by omega) hlt) hz
  unfold Rise insAt
  rw [List.pairwise_append, List.pairwise_cons]
  refine ⟨h.sublist (List.take_sublist _ _), ⟨hd, h.sublist (List.drop_sublist _ _)⟩, ?_⟩
  intro a ha b hb
  rcases List.mem_cons.1 hb with rfl | hb
  · exact ht a ha
  · exact ltT_trans _ _ _ (ht a ha) (hd b hb)
theorem ins_at {l : List Tra} {x y : Tra} {q : Nat} (hy : l[q]? = some y) : (insAt l x (q + 1))[q]? = some y ∧ (insAt l x (q + 1))[q + 1]? = some x := by
  have hq := (List.getElem?_eq_some_iff.1 hy).1
  have hlt : (l.take (q + 1)).length = q + 1 := by rw [List.length_take]; omega
  unfold insAt
  constructor
  · rw [List.getElem?_append_left (by omega), List.getElem?_take, if_pos (by omega)]
    exact hy
  · rw [List.getElem?_append_right (by omega), hlt, Nat.sub_self]
    rfl
theorem ins_swap {l : List Tra} {x y : Tra} {q : Nat} (hy : l[q]? = some y) : ((insAt l x (q + 1)).set (q + 1) y).set q x = insAt l x q := by
  have hq := (List.getElem?_eq_some_iff.1 hy).1
  have e1 : l.take (q + 1) = l.take q ++ [y] := by rw [List.take_add_one, hy]; rfl
  have e2 : l.drop q = y :: l.drop (q + 1) := by rw [List.drop_eq_getElem_cons hq, (List.getElem?_eq_some_iff.1 hy).2]
  have hlt : (l.take q).length = q := by rw [List.length_take]; omega
  unfold insAt
  rw [e1, e2, List.append_assoc, List.set_append_right _ _ (by omega), List.set_append_right _ _ (by omega), hlt, Nat.sub_self, show q + 1 - q = 1 by omega]
  rfl
/-- A row of translations of one's own, written out. -/
structure Vr (lo g n cap : Nat) (A : List Tra) (rest : List Value) (w0 w : World) : Prop where
  row : RowAt w g 49 (rowT A ++ rest)
  hlo : lo ≤ g
  len : A.length = n
  hn : n ≤ cap
  hc : cap ≤ maxLen
  hr : rest.length = (cap - n) * 8
  bel : Below lo w0 w
  low : lo ≤ w.heap.size
theorem Vr.of {w0 w : World} {lo : Nat} {v : Value} {l : List Tra} (h : w.ownsRow lo 49 8 v l.length (rowT l)) (hb : Below lo w0 w) (hl : lo ≤ w.heap.size) : (v = .slice none 0 0 ∧ l = []) ∨ ∃ g cap rest, v = .slice (some ⟨g, 0, none⟩) l.length cap ∧ Vr lo g l.length cap l rest w0 w := by
  rcases Mm.row_of_own h with ⟨rfl, h1, _⟩ | ⟨g, cap, cur, rfl, a, b, cc, d, e1, f⟩
  · exact .inl ⟨rfl, List.eq_nil_of_length_eq_zero h1⟩
  · refine .inr ⟨g, cap, cur.drop (l.length * 8), rfl, ?_, a, rfl, cc, d, ?_, hb, hl⟩
    · rw [← f, List.take_append_drop]
      exact b
    · rw [List.length_drop, e1]; omega
theorem Vr.own {lo g n cap : Nat} {A : List Tra} {rest : List Value} {w0 w : World} (h : Vr lo g n cap A rest w0 w) : w.ownsRow lo 49 8 (.slice (some ⟨g, 0, none⟩) n cap) n (rowT A) := by
  have hn := h.hn
  refine Mm.own_of_row h.row h.hlo h.hn h.hc ?_ ?_
  · rw [List.length_append, rowT_len, h.len, h.hr]; omega
  · rw [List.take_append_of_le_length (by rw [rowT_len, h.len]; exact Nat.le_refl _), List.take_of_length_le (by rw [rowT_len, h.len]; exact Nat.le_refl _)]
theorem Vr.below {lo g n cap : Nat} {A : List Tra} {rest : List Value} {w0 w w' : World} (h : Vr lo g n cap A rest w0 w) (hb : Below w.heap.size w w') : Vr lo g n cap A rest w0 w' :=
  ⟨(hb.block g h.row.lt).trans h.row, h.hlo, h.len, h.hn, h.hc, h.hr, h.bel.trans (hb.mono h.low), Nat.le_trans h.low hb.size⟩
theorem Vr.drewN {lo g n cap : Nat} {A : List Tra} {rest : List Value} {w0 w : World} (h : Vr lo g n cap A rest w0 w) (q : Nat) : Vr lo g n cap A rest w0 (w.drewN q) :=
  h.below ((Turn.drewN (Turn.refl (fun _ => False) w) q).to (fun _ h => h.elim) (Nat.le_refl _))
/-- Two neighbours changed. -/
theorem Vr.swap {lo g n cap : Nat} {l : List Tra} {x y : Tra} {q : Nat} {rest : List Value} {w0 w : World} (h : Vr lo g n cap (insAt l x (q + 1)) rest w0 w) (hy : l[q]? = some y) :
    Vr lo g n cap (insAt l x q) rest w0 ((((((((((((((((w.setCell ⟨g, (q + 1) * 8, none⟩ (.int .i64 y.size)).setCell ⟨g, (q + 1) * 8 + 1, none⟩ (.int .u32 y.va)).setCell ⟨g, (q + 1) * 8 + 2, none⟩ (.int .u64 y.pa)).setCell ⟨g, (q + 1) * 8 + 3, none⟩ (.int .i64 y.dom)).setCell ⟨g, (q + 1) * 8 + 4, none⟩ (.int .i64 y.ap)).setCell ⟨g, (q + 1) * 8 + 5, none⟩ (.int .u32 y.bits)).setCell ⟨g, (q + 1) * 8 + 6, none⟩ (.bool y.ng)).setCell ⟨g, (q + 1) * 8 + 7, none⟩ (.bool y.xn)).setCell ⟨g, q * 8, none⟩ (.int .i64 x.size)).setCell ⟨g, q * 8 + 1, none⟩ (.int .u32 x.va)).setCell ⟨g, q * 8 + 2, none⟩ (.int .u64 x.pa)).setCell ⟨g, q * 8 + 3, none⟩ (.int .i64 x.dom)).setCell ⟨g, q * 8 + 4, none⟩ (.int .i64 x.ap)).setCell ⟨g, q * 8 + 5, none⟩ (.int .u32 x.bits)).setCell ⟨g, q * 8 + 6, none⟩ (.bool x.ng)).setCell ⟨g, q * 8 + 7, none⟩ (.bool x.xn)) := by
  have hq := (List.getElem?_eq_some_iff.1 hy).1
  have hl := h.len
  rw [ins_len] at hl
  have h1 := row_put8 h.row (q + 1) y (by rw [ins_len]; omega)
  have h2 := row_put8 h1 q x (by rw [List.length_set, ins_len]; omega)
  rw [ins_swap hy] at h2
  have hg : lo ≤ g := h.hlo
  refine ⟨h2, h.hlo, by rw [ins_len]; omega, h.hn, h.hc, h.hr, ?_, by simpa using h.low⟩
  exact (((((((((((((((h.bel.setCell hg _).setCell hg _).setCell hg _).setCell hg _).setCell hg _).setCell hg _).setCell hg _).setCell hg _).setCell hg _).setCell hg _).setCell hg _).setCell hg _).setCell hg _).setCell hg _).setCell hg _).setCell hg _
end Go.Proofs.YtmodcbdgnmjkoabDoor
namespace Go.Proofs.YtmodcbdgnmjkoabDoor
open Go.RowKit Go.Shelf
open Mm (Turn gr RowAt)
set_option linter.unusedVariables false
set_option linter.unusedSimpArgs false
attribute [local go_sem] Oper.semAt_some
def sq2 : Code → Code
  | .seq _ y => y
  | c => c
def sq1 : Code → Code
  | .seq x _ => x
  | c => c
def blkC : Code → Code
  | .block _ c => c
  | c => c
def rfB : Code → Code
  | .rangeFunc _ _ _ b => b
  | c => c
def lpC : Code → Code
  | .loop c => c
  | c => c
theorem rows_in {n l : Nat} {P : Program} {row : String} {args : Array Value} {w : World} {R : Value → World → Prop} (h : Rows P row args w R) : RowsIn (Fence.wide.inRound l) n P row args w R :=
  fun c cs _ => let ⟨v, w', r, s⟩ := h c cs; ⟨v, w', r, stepsIn_wide.2 s⟩

/-- An operation that is no defer does within a round what it does elsewhere. -/
theorem oper_in {n l : Nat} {P : Program} {o : Oper} {a : Act} {w : World} {K K' : Act → World → Prop} {Q : Exit → Act → World → Prop} (hd : ∀ c, o.op ≠ .defer c) (hQ : ¬ LetsOut Q) (hK : ∀ a w, K a w → K' a w) (h : o.wp P a w K Q) : o.wpIn (Fence.wide.inRound l) n P a w K' Q := by
  refine ⟨fun _ _ => trivial, ?_⟩
  rw [Fence.inRound_round, Oper.semAt_some l a.eval o hd]
  unfold Oper.wp at h
  cases hr : (execOp a.eval o).run P w with
  | ok nx w' =>
    rw [hr] at h
    cases nx with
    | value v => exact hK _ _ h
    | skip => exact hK _ _ h
    | defer d => exact hK _ _ h
    | enter f args =>
      refine ⟨fun e => by simp [Fence.wide] at e, CallsIn.inRound l (callsIn_wide.2 (Calls.mono h ?_))⟩
      intro e w' he
      cases e with
      | returned v => exact hK _ _ he
      | panicked chain => exact he
      | outgrown => exact he
    | row r args => exact ⟨fun e => by simp [Fence.wide] at e, rows_in (Rows.mono h (fun v w' hv => hK _ _ hv))⟩
    | _ => exact h.elim
  | halt hl w' =>
    rw [hr] at h
    cases hl with
    | panic v => exact h
    | _ => exact h.elim

/-- A region of such operations does within a round what it does elsewhere. -/
theorem anyIn_of_held {n l : Nat} {P : Program} {md : Region.Mode} {ops : Array Oper} {Q : Exit → Act → World → Prop} {S : World → Prop} (hd : ∀ (i : Nat) o, ops[i]? = some o → ∀ c, o.op ≠ .defer c) (hQ : ¬ LetsOut Q) :
    ∀ (fuel : Nat) (listed : Array Bool) (a : Act) (w : World), wpAnyH P md ops Q S fuel listed a w → wpAnyIn (Fence.wide.inRound l) n P md ops Q fuel listed a w := by
  intro fuel
  induction fuel with
  | zero => intro listed a w h; exact h
  | succ fuel ih =>
    intro listed a w h
    refine ⟨h.1, fun i hi => ?_⟩
    have h2 := h.2 i hi
    unfold wpOp at h2
    unfold wpOpIn
    cases ho : ops[i]? with
    | none =>
      rw [ho] at h2
      exact ih _ _ _ h2.2
    | some o =>
      rw [ho] at h2
      simp only at h2 ⊢
      split
      · rename_i hw
        rw [if_pos hw] at h2
        rcases h2 with h2 | h2
        · exact oper_in (hd i o ho) hQ (fun a w h => ih _ _ _ h.2) h2
        · exact absurd h2.2 hQ
      · rename_i hw
        rw [if_neg hw] at h2
        exact ⟨fun _ _ => trivial, ih _ _ _ h2.2⟩

theorem regionIn_of_held {n l : Nat} {P : Program} {id : Nat} {ops : Array Oper} {Q : Exit → Act → World → Prop} {S : World → Prop} {a : Act} {w : World} (hm : P.follows .mixedOrders = true) (hd : ∀ (i : Nat) o, ops[i]? = some o → ∀ c, o.op ≠ .defer c) (hQ : ¬ LetsOut Q)
    (h : wpAnyH P .any ops Q S ops.size (Array.replicate ops.size false) a w.drew) : (Code.region id ops true).wpIn (Fence.wide.inRound l) n P Q a w :=
  wpIn_region_any hm (anyIn_of_held hd hQ _ _ _ _ h)

def isDefer : Op → Bool
  | .defer _ => true
  | _ => false
theorem no_defer {ops : Array Oper} (h : ops.all (fun o => !isDefer o.op) = true) : ∀ (i : Nat) o, ops[i]? = some o → ∀ c, o.op ≠ .defer c := by
  intro i o hi c e
  have h1 := Array.all_eq_true.1 h i (Array.getElem?_eq_some_iff.1 hi).1
  rw [(Array.getElem?_eq_some_iff.1 hi).2, e] at h1
  cases h1
theorem regionIn_held {n l k : Nat} {P : Program} {id : Nat} {ops : Array Oper} {Q : Exit → Act → World → Prop} (S : World → Prop) {a : Act} {w : World} (hk : ops.size = k) (hm : P.follows .mixedOrders = true) (hd : ∀ (i : Nat) o, ops[i]? = some o → ∀ c, o.op ≠ .defer c) (hQ : ¬ LetsOut Q)
    (h : wpAnyH P .any ops Q S k (Array.replicate k false) a w.drew) : (Code.region id ops true).wpIn (Fence.wide.inRound l) n P Q a w := by
  subst hk
  exact regionIn_of_held hm hd hQ h
theorem wp_parts {F : Fence} {n : Nat} {P : Program} {c : Code} {Q : Exit → Act → World → Prop} {a : Act} {w : World} (hc : ∃ x y, c = .seq x y)
    (h : ∀ K : Act → World → Prop, (∀ a w, (sq2 c).wpIn F n P Q a w → K a w) → (sq1 c).wpIn F n P (Exit.then K Q) a w) : c.wpIn F n P Q a w := by
  obtain ⟨x, y, rfl⟩ := hc
  exact wpIn_seq_k h
/-- A code with another tail. -/
def putTail : Nat → Code → Code → Code
  | 0, _, t => t
  | n + 1, .seq x y, t => .seq x (putTail n y t)
  | _ + 1, c, _ => c
theorem wp_cut {P : Program} {Q : Exit → Act → World → Prop} {a : Act} {w : World} (k : Nat) (c t : Code) (h : putTail k c t = c) (g : ∀ C : Code, (∀ a w, t.wp P Q a w → C.wp P Q a w) → (putTail k c C).wp P Q a w) : c.wp P Q a w := by
  rw [← h]
  exact g t (fun _ _ h => h)
theorem wp_blk {F : Fence} {n i : Nat} {P : Program} {c : Code} {Q : Exit → Act → World → Prop} {a : Act} {w : World} (hc : ∃ x, c = .block i x) (h : (blkC c).wpIn F n P (Exit.inBlock i Q) a w) : c.wpIn F n P Q a w := by
  obtain ⟨x, rfl⟩ := hc
  exact wpIn_block h
theorem results_ret {fn : Func} {q : Tmp} (h : fn.results = #[.cell q 4]) (tmps : Array Value) (w : World) (b : Nat) (v : Bool) (hp : tmps.getD q undef = .pointer (some ⟨b, 0, none⟩)) (hb : Bl w b 4 [.bool v]) :
    (results fn tmps).run Tryd.prog w = .ok (.bool v) w := by
  have hp' : tmps[q]?.getD undef = .pointer (some ⟨b, 0, none⟩) := by simpa using hp
  have hc := hb.cell 0
  simp only [List.getElem?_cons_zero] at hc
  simp only [results, h]
  go_simp
theorem leaves_ret {fn : Func} {q : Tmp} (h : fn.results = #[.cell q 4]) (tmps : Array Value) (W Y : World) (D b : Nat) (hp : tmps.getD q undef = .pointer (some ⟨b, 0, none⟩)) (hb : Bl Y b 4 [.bool true]) (hK : Y.heap[D]? = some (.deferred (some []))) (hbel : Below W.heap.size W Y) (hD : W.heap.size ≤ D) :
    LeavesInM Fence.wide 3 Tryd.prog fn tmps (fun e W' => e = .returned (.bool true) ∧ Below W.heap.size W W') [{ target := .collected D, args := #[] }] .returning Y := by
  refine ⟨by simp, .inl ⟨_, _, rfl, run_takeDeferred hK, ?_⟩⟩
  have hne : b ≠ D := by
    rintro rfl
    rw [show Y.heap[b]? = _ from hb] at hK
    cases hK
  refine ⟨_, results_ret h _ _ b true hp ?_, rfl, ?_⟩
  · exact ((grownBy_putObj' Y D _).block b hb.lt (by intro e; cases e; exact hne rfl)).trans hb
  · exact hbel.trans (belowK_b (w := W) (Nat.le_refl _) _ D _ _ hD hK rfl rfl)
theorem set_at {W : World} {b : Nat} {o : Obj} {q : Nat} (v : Value) (h : W.heap[b]? = some o) (hne : b ≠ q) : (W.setCell ⟨q, 0, none⟩ v).heap[b]? = some o := by
  rw [Below.heap_setCell W ⟨q, 0, none⟩ v b hne]
  exact h
theorem keeps_below {B : Nat} {w w' : World} (hb : Below w.heap.size w w') : KeepsFrom B w w' := ⟨hb.size, fun k o _ hk ho => (hb.block k (Array.getElem?_eq_some_iff.1 hk).1).trans hk⟩
theorem Bl.turn {w w' : World} {b : Nat} {t : TypeId} {l : List Value} {Y : Nat → Prop} (h : Bl w b t l) (T : Turn Y w w') (hn : ¬ Y b) : Bl w' b t l := (T.block b h.lt hn).trans h
end Go.Proofs.YtmodcbdgnmjkoabDoor
namespace Go.Proofs.YtmodcbdgnmjkoabDoor
open Go.RowKit
open Mm (Turn gr RowAt)
set_option linter.unusedVariables false
set_option linter.unusedSimpArgs false
theorem one8 (y : Tra) : (#[.int .i64 y.size, .int .u32 y.va, .int .u64 y.pa, .int .i64 y.dom, .int .i64 y.ap, .int .u32 y.bits, .bool y.ng, .bool y.xn] : Array Value).all (·.oneCell') = true :=
  all_oneCell_toArray (cs := [.int .i64 y.size, .int .u32 y.va, .int .u64 y.pa, .int .i64 y.dom, .int .i64 y.ap, .int .u32 y.bits, .bool y.ng, .bool y.xn]) (fun v hv => by simp at hv; rcases hv with rfl | rfl | rfl | rfl | rfl | rfl | rfl | rfl <;> rfl)
def vtl (f : Func) : Code := sq2 (sq2 (sq2 (sq2 (f.body.getD .skip))))
set_option maxRecDepth 100000 in
set_option maxHeartbeats 8000000 in
/-- What put does once it knows the place. -/
theorem vtl_any {t1 t2 t4 t6 t7 t8 t9 t10 t11 t12 t13 t14 t15 t16 t17 t18 t19 t20 t21 t22 t23 t24 t25 t26 t27 t28 t29 t30 t31 t32 t33 t34 t35 t36 t37 t38 t39 t40 t41 t42 t43 t44 t45 t46 t47 t48 t49 t50 t51 t52 t53 t54 t55 t56 t57 t58 t59 t60 t61 t62 : Value} (lo bx j : Nat) (v : Value) (l : List Tra) (x : Tra) (w0 w : World) (ho : w.ownsRow lo 49 8 v l.length (rowT l)) (hb : Below lo w0 w) (hlo : lo ≤ w.heap.size) (hl : l.length ≤ 1100000) (hx : Bl w bx 49 [.int .i64 x.size, .int .u32 x.va, .int .u64 x.pa, .int .i64 x.dom, .int .i64 x.ap, .int .u32 x.bits, .bool x.ng, .bool x.xn]) (hj : j ≤ l.length) (hR : Rise (insAt l x j)) :
    (vtl Tryd.f21).wp Tryd.prog (bodyPost Tryd.prog Tryd.f21 fun e w' => ∃ v', e = .returned v' ∧ ∃ l', w'.ownsRow lo 49 8 v' l'.length (rowT l') ∧ Rise l' ∧ (∀ y, y ∈ l' ↔ y ∈ l ∨ y = x) ∧ l'.length ≤ l.length + 1 ∧ Below lo w0 w') { tmps := #[v, t1, t2, .pointer (some ⟨bx, 0, none⟩), t4, .int .i64 (j : Int), t6, t7, t8, t9, t10, t11, t12, t13, t14, t15, t16, t17, t18, t19, t20, t21, t22, t23, t24, t25, t26, t27, t28, t29, t30, t31, t32, t33, t34, t35, t36, t37, t38, t39, t40, t41, t42, t43, t44, t45, t46, t47, t48, t49, t50, t51, t52, t53, t54, t55, t56, t57, t58, t59, t60, t61, t62], defers := [] } w := by
  generalize hQ : (bodyPost Tryd.prog Tryd.f21 fun e w' => ∃ v', e = .returned v' ∧ ∃ l', w'.ownsRow lo 49 8 v' l'.length (rowT l') ∧ Rise l' ∧ (∀ y, y ∈ l' ↔ y ∈ l ∨ y = x) ∧ l'.length ≤ l.length + 1 ∧ Below lo w0 w') = Q
  have HQ := hidW hQ
  have hQp : Hid (∀ ch (a : Act) (d : Option Tmp) (v : Value) (w : World), Q (.panic ch) (a.put d v) w → Q (.panic ch) a w) := hidW (by rw [← hQ]; intro ch a d v w h; cases d <;> exact h)
  clear hQ
  obtain ⟨v', w1, hr, ho1, T1, _⟩ := appT w lo v l x ho hlo (by omega)
  have hB1 : Below lo w w1 := T1.to (fun b hb => (World.ownsRow.lt ho b hb).1) hlo
  rcases Vr.of (l := l ++ [x]) (v := v') (w := w1) (by simpa using ho1) (hb.trans hB1) (Nat.le_trans hlo hB1.size) with ⟨_, h2⟩ | ⟨g, cap, rest, rfl, hV⟩
  · simp at h2
  have hcap := hV.hn
  have hcm := hV.hc
  have hln : (l ++ [x]).length = l.length + 1 := by simp
  rw [hln] at hV hr hcap
  rw [← ins_end] at hV
  have HV := hidW hV
  have HR := hidW hR
  have cX := hx.cell
  unfold maxLen at hcm
  clear ho ho1 T1 hB1 hV hR hb hx
  generalize hn : l.length = n at *
  have HN := hidW hn
  clear hn
  simp only [vtl, sq2, Tryd.f21, Option.getD]
  go_wp2_with (at_builtin; refine Lib.wpList_append_run _ rfl _ _ 41 41 rfl _ _ rfl rfl _ _ (hr _) ?_; clear hr)
  go_loopw [6] (fun i wr => ∃ q : Nat, j ≤ q ∧ q ≤ n ∧ i = .int .i64 q ∧ Hid (Vr lo g (n + 1) cap (insAt l x q) rest w0 wr)) (fun i _ => (intOf i).toNat)
  case atStart => exact ⟨n, hj, Nat.le_refl _, by go_num, HV⟩
  case round =>
    obtain ⟨q, hq1, hq2, rfl, HV1⟩ := hrel
    clear HV
    by_cases hlt : j < q
    · obtain ⟨q, rfl⟩ : ∃ k, q = k + 1 := ⟨q - 1, by omega⟩
      obtain ⟨y, hy⟩ : ∃ y, l[q]? = some y := ⟨_, List.getElem?_eq_getElem (by rw [HN.out]; omega)⟩
      obtain ⟨a1, a2⟩ := ins_at (x := x) hy
      obtain ⟨x0, x1, x2, x3, x4, x5, x6, x7⟩ := rowT_cells HV1.out.row a2
      obtain ⟨y0, y1, y2, y3, y4, y5, y6, y7⟩ := rowT_cells HV1.out.row a1
      have hfr := HV1.out.row.frozen
      have HS := hidW (fun m => (HV1.out.drewN m).swap hy)
      have z1 : (j : Int) < ((q + 1 : Nat) : Int) := by omega
      have z2 : (0 : Int) ≤ q := by omega
      have z3 : ((q + 1 : Nat) : Int) < ((n + 1 : Nat) : Int) := by omega
      have z4 : (q : Int) < ((n + 1 : Nat) : Int) := by omega
      have z5 : (q : Int) < (n : Int) + 1 := by omega
      have z6 : (q : Int) + 1 < (n : Int) + 1 := by omega
      have z7 : (0 : Int) ≤ (q : Int) + 1 := by omega
      have zw : IntKind.i64.wrap (q : Int) = q := by rw [IntKind.wrap_i64]; omega
      have HXX : Hid (wr.drew.rangeAt g ((q + 1) * 8) [.int .i64 x.size, .int .u32 x.va, .int .u64 x.pa, .int .i64 x.dom, .int .i64 x.ap, .int .u32 x.bits, .bool x.ng, .bool x.xn]) := hidW (fun j v hv => by
        have hj := (List.getElem?_eq_some_iff.1 hv).1
        rcases (show j = 0 ∨ j = 1 ∨ j = 2 ∨ j = 3 ∨ j = 4 ∨ j = 5 ∨ j = 6 ∨ j = 7 by simp at hj; omega) with rfl | rfl | rfl | rfl | rfl | rfl | rfl | rfl <;> (simp at hv; subst hv; first | exact x0 | exact x1 | exact x2 | exact x3 | exact x4 | exact x5 | exact x6 | exact x7))
      have HY : Hid (wr.drew.rangeAt g (q * 8) [.int .i64 y.size, .int .u32 y.va, .int .u64 y.pa, .int .i64 y.dom, .int .i64 y.ap, .int .u32 y.bits, .bool y.ng, .bool y.xn]) := hidW (fun j v hv => by
        have hj := (List.getElem?_eq_some_iff.1 hv).1
        rcases (show j = 0 ∨ j = 1 ∨ j = 2 ∨ j = 3 ∨ j = 4 ∨ j = 5 ∨ j = 6 ∨ j = 7 by simp at hj; omega) with rfl | rfl | rfl | rfl | rfl | rfl | rfl | rfl <;> (simp at hv; subst hv; first | exact y0 | exact y1 | exact y2 | exact y3 | exact y4 | exact y5 | exact y6 | exact y7))
      have HT1 : Hid (wr.drew.there g ((q + 1) * 8) 8) := hidW (fun j hj => ⟨HXX.out.isSome j hj, hfr _⟩)
      have HT2 : Hid (wr.drew.there g (q * 8) 8) := hidW (fun j hj => ⟨HY.out.isSome j hj, hfr _⟩)
      have HSW : Hid (Vr lo g (n + 1) cap (insAt l x q) rest w0 ((wr.drew.setCells g ((q + 1) * 8) [.int .i64 y.size, .int .u32 y.va, .int .u64 y.pa, .int .i64 y.dom, .int .i64 y.ap, .int .u32 y.bits, .bool y.ng, .bool y.xn]).setCells g (q * 8) [.int .i64 x.size, .int .u32 x.va, .int .u64 x.pa, .int .i64 x.dom, .int .i64 x.ap, .int .u32 x.bits, .bool x.ng, .bool x.xn])) := hidW (HS.out 1)
      have HT3 : Hid ((wr.drew.setCells g ((q + 1) * 8) [.int .i64 y.size, .int .u32 y.va, .int .u64 y.pa, .int .i64 y.dom, .int .i64 y.ap, .int .u32 y.bits, .bool y.ng, .bool y.xn]).there g (q * 8) 8) := hidW (World.there_setCells HT2.out _ _ _)
      clear HV1 hy a1 a2 x0 x1 x2 x3 x4 x5 x6 x7 y0 y1 y2 y3 y4 y5 y6 y7 hfr HS
      go_wp2
      refine wp_region_any (by kernel_rfl) ?_
      show wpAny _ _ _ _ 18 (Array.replicate 18 false) _ wr.drew
      refine wpAny_take (i := 0) (oi := { dst := some 46, op := Op.move (Operand.tmp 0), type := 41, pos := _, after := #[], guard := none }) (v := ?_) rfl (by kernel_rfl) (by kernel_rfl) (by kernel_rfl) (fun _ _ _ h => hQp.out _ _ _ _ _ h) (Or.inl ⟨by rfl, ?_⟩) ?_
      rotate_left
      · (intro w; go_simp; try with_reducible rfl)
      simp only [Act.put, List.setIfInBounds_toArray, List.set_cons_zero, List.set_cons_succ]
      refine wpAny_take (i := 1) (oi := { dst := some 47, op := Op.move (Operand.tmp 6), type := 3, pos := _, after := #[], guard := none }) (v := ?_) rfl (by kernel_rfl) (by kernel_rfl) (by kernel_rfl) (fun _ _ _ h => hQp.out _ _ _ _ _ h) (Or.inl ⟨by rfl, ?_⟩) ?_
      rotate_left
      · (intro w; go_simp; try with_reducible rfl)
      simp only [Act.put, List.setIfInBounds_toArray, List.set_cons_zero, List.set_cons_succ]
      refine wpAny_take (i := 2) (oi := { dst := some 48, op := Op.move (Operand.tmp 0), type := 41, pos := _, after := #[{ on := 15, ground := Ground.gcOnly Departure.lateStores }], guard := none }) (v := ?_) rfl (by kernel_rfl) (by kernel_rfl) (by kernel_rfl) (fun _ _ _ h => hQp.out _ _ _ _ _ h) (Or.inl ⟨by rfl, ?_⟩) ?_
      rotate_left
      · (intro w; go_simp; try with_reducible rfl)
      simp only [Act.put, List.setIfInBounds_toArray, List.set_cons_zero, List.set_cons_succ]
      refine wpAny_take (i := 3) (oi := { dst := some 49, op := Op.move (Operand.tmp 6), type := 3, pos := _, after := #[{ on := 15, ground := Ground.gcOnly Departure.lateStores }], guard := none }) (v := ?_) rfl (by kernel_rfl) (by kernel_rfl) (by kernel_rfl) (fun _ _ _ h => hQp.out _ _ _ _ _ h) (Or.inl ⟨by rfl, ?_⟩) ?_
      rotate_left
      · (intro w; go_simp; try with_reducible rfl)
      simp only [Act.put, List.setIfInBounds_toArray, List.set_cons_zero, List.set_cons_succ]
      refine wpAny_take (i := 4) (oi := { dst := some 50, op := Op.binOp BinOp.sub 3 (Operand.tmp 49) (Operand.const (Value.int IntKind.i64 1)) 3, type := 3, pos := _, after := #[{ on := 3, ground := Ground.data }, { on := 15, ground := Ground.gcOnly Departure.lateStores }], guard := none }) (v := ?_) rfl (by kernel_rfl) (by kernel_rfl) (by kernel_rfl) (fun _ _ _ h => hQp.out _ _ _ _ _ h) (Or.inl ⟨by rfl, ?_⟩) ?_
      rotate_left
      · (intro w; go_simp; try with_reducible rfl)
      simp only [Act.put, List.setIfInBounds_toArray, List.set_cons_zero, List.set_cons_succ]
      refine wpAny_take (i := 5) (oi := { dst := some 51, op := Op.move (Operand.tmp 0), type := 41, pos := _, after := #[], guard := none }) (v := ?_) rfl (by kernel_rfl) (by kernel_rfl) (by kernel_rfl) (fun _ _ _ h => hQp.out _ _ _ _ _ h) (Or.inl ⟨by rfl, ?_⟩) ?_
      rotate_left
      · (intro w; go_simp; try with_reducible rfl)
      simp only [Act.put, List.setIfInBounds_toArray, List.set_cons_zero, List.set_cons_succ]
      refine wpAny_take (i := 6) (oi := { dst := some 52, op := Op.move (Operand.tmp 6), type := 3, pos := _, after := #[], guard := none }) (v := ?_) rfl (by kernel_rfl) (by kernel_rfl) (by kernel_rfl) (fun _ _ _ h => hQp.out _ _ _ _ _ h) (Or.inl ⟨by rfl, ?_⟩) ?_
      rotate_left
      · (intro w; go_simp; try with_reducible rfl)
      simp only [Act.put, List.setIfInBounds_toArray, List.set_cons_zero, List.set_cons_succ]
      refine wpAny_take (i := 7) (oi := { dst := some 53, op := Op.binOp BinOp.sub 3 (Operand.tmp 52) (Operand.const (Value.int IntKind.i64 1)) 3, type := 3, pos := _, after := #[{ on := 6, ground := Ground.data }], guard := none }) (v := ?_) rfl (by kernel_rfl) (by kernel_rfl) (by kernel_rfl) (fun _ _ _ h => hQp.out _ _ _ _ _ h) (Or.inl ⟨by rfl, ?_⟩) ?_
      rotate_left
      · (intro w; go_simp; try with_reducible rfl)
      simp only [Act.put, List.setIfInBounds_toArray, List.set_cons_zero, List.set_cons_succ]
      refine wpAny_take (i := 8) (oi := { dst := some 54, op := Op.indexAddr 41 (Operand.tmp 51) (Operand.tmp 53), type := 0, pos := _, after := #[{ on := 5, ground := Ground.data }, { on := 7, ground := Ground.data }], guard := none }) (v := ?_) rfl (by kernel_rfl) (by kernel_rfl) (by kernel_rfl) (fun _ _ _ h => hQp.out _ _ _ _ _ h) (Or.inl ⟨by rfl, ?_⟩) ?_
      rotate_left
      · (intro w; go_simp; try with_reducible rfl)
      simp only [Act.put, List.setIfInBounds_toArray, List.set_cons_zero, List.set_cons_succ]
      refine wpAny_take (i := 10) (oi := { dst := some 56, op := Op.move (Operand.tmp 0), type := 41, pos := _, after := #[], guard := none }) (v := ?_) rfl (by kernel_rfl) (by kernel_rfl) (by kernel_rfl) (fun _ _ _ h => hQp.out _ _ _ _ _ h) (Or.inl ⟨by rfl, ?_⟩) ?_
      rotate_left
      · (intro w; go_simp; try with_reducible rfl)
      simp only [Act.put, List.setIfInBounds_toArray, List.set_cons_zero, List.set_cons_succ]
      refine wpAny_take (i := 11) (oi := { dst := some 57, op := Op.move (Operand.tmp 6), type := 3, pos := _, after := #[], guard := none }) (v := ?_) rfl (by kernel_rfl) (by kernel_rfl) (by kernel_rfl) (fun _ _ _ h => hQp.out _ _ _ _ _ h) (Or.inl ⟨by rfl, ?_⟩) ?_
      rotate_left
      · (intro w; go_simp; try with_reducible rfl)
      simp only [Act.put, List.setIfInBounds_toArray, List.set_cons_zero, List.set_cons_succ]
      refine wpAny_take (i := 12) (oi := { dst := some 58, op := Op.indexAddr 41 (Operand.tmp 56) (Operand.tmp 57), type := 0, pos := _, after := #[{ on := 10, ground := Ground.data }, { on := 11, ground := Ground.data }], guard := none }) (v := ?_) rfl (by kernel_rfl) (by kernel_rfl) (by kernel_rfl) (fun _ _ _ h => hQp.out _ _ _ _ _ h) (Or.inl ⟨by rfl, ?_⟩) ?_
      rotate_left
      · (intro w; go_simp; try with_reducible rfl)
      simp only [Act.put, List.setIfInBounds_toArray, List.set_cons_zero, List.set_cons_succ]
      refine wpAny_ready (rs := [9, 13]) (by kernel_rfl) (by simp) ?_
      refine (BigFrame.allReady_want (o := { dst := some 55, op := Op.load 49 (Operand.tmp 54), type := 49, pos := _, after := #[{ on := 8, ground := Ground.data }], guard := none }) rfl (by rfl) (fun K hK => ?_) (BigFrame.allReady_want (o := { dst := some 59, op := Op.load 49 (Operand.tmp 58), type := 49, pos := _, after := #[{ on := 12, ground := Ground.data }], guard := none }) rfl (by rfl) (fun K hK => ?_) AllReady.nil))
      · refine wp_load_mid 49 (Operand.tmp 54) rfl g (q * 8) rfl [.int .i64 y.size, .int .u32 y.va, .int .u64 y.pa, .int .i64 y.dom, .int .i64 y.ap, .int .u32 y.bits, .bool y.ng, .bool y.xn] _ (HY.out) Tryd.underlying49 rfl (by kernel_rfl) ?_
        refine hK _ _ ?_
        clear hK K
        try simp only [Act.put, List.setIfInBounds_toArray, List.set_cons_zero, List.set_cons_succ]
        refine wpAny_ready (rs := [13]) (by kernel_rfl) (by simp) ?_
        refine BigFrame.allReady_want (o := { dst := some 59, op := Op.load 49 (Operand.tmp 58), type := 49, pos := _, after := #[{ on := 12, ground := Ground.data }], guard := none }) rfl (by rfl) (fun K hK => ?_) AllReady.nil
        refine wp_load_mid 49 (Operand.tmp 58) rfl g ((q + 1) * 8) rfl [.int .i64 x.size, .int .u32 x.va, .int .u64 x.pa, .int .i64 x.dom, .int .i64 x.ap, .int .u32 x.bits, .bool x.ng, .bool x.xn] _ (HXX.out) Tryd.underlying49 rfl (by kernel_rfl) ?_
        refine hK _ _ ?_
        clear hK K
        try simp only [Act.put, List.setIfInBounds_toArray, List.set_cons_zero, List.set_cons_succ]
        refine wpAny_take (i := 14) (oi := { dst := some 60, op := Op.indexAddr 41 (Operand.tmp 46) (Operand.tmp 47), type := 0, pos := _, after := #[{ on := 0, ground := Ground.data }, { on := 1, ground := Ground.data }, { on := 0, ground := Ground.phase }, { on := 1, ground := Ground.phase }, { on := 2, ground := Ground.textOnly Departure.lateStores }, { on := 3, ground := Ground.textOnly Departure.lateStores }, { on := 4, ground := Ground.textOnly Departure.lateStores }, { on := 5, ground := Ground.phase }, { on := 6, ground := Ground.phase }, { on := 7, ground := Ground.phase }, { on := 8, ground := Ground.phase }, { on := 9, ground := Ground.phase }, { on := 10, ground := Ground.textOnly Departure.lateStores }, { on := 11, ground := Ground.textOnly Departure.lateStores }, { on := 12, ground := Ground.textOnly Departure.lateStoresUnsure }, { on := 13, ground := Ground.phase }], guard := none }) (v := ?_) rfl (by kernel_rfl) (by kernel_rfl) (by kernel_rfl) (fun _ _ _ h => hQp.out _ _ _ _ _ h) (Or.inl ⟨by rfl, ?_⟩) ?_
        rotate_left
        · (intro w; go_simp; try with_reducible rfl)
        simp only [Act.put, List.setIfInBounds_toArray, List.set_cons_zero, List.set_cons_succ]
        refine wpAny_ready (rs := [15]) (by kernel_rfl) (by simp) ?_
        refine BigFrame.allReady_want (o := { dst := none, op := Op.store 49 (Operand.tmp 60) (Operand.tmp 55), type := 0, pos := _, after := #[{ on := 14, ground := Ground.data }, { on := 9, ground := Ground.data }, { on := 0, ground := Ground.phase }, { on := 1, ground := Ground.phase }, { on := 2, ground := Ground.textOnly Departure.lateStores }, { on := 3, ground := Ground.textOnly Departure.lateStores }, { on := 4, ground := Ground.textOnly Departure.lateStores }, { on := 5, ground := Ground.phase }, { on := 6, ground := Ground.phase }, { on := 7, ground := Ground.phase }, { on := 8, ground := Ground.phase }, { on := 9, ground := Ground.phase }, { on := 10, ground := Ground.textOnly Departure.lateStores }, { on := 11, ground := Ground.textOnly Departure.lateStores }, { on := 12, ground := Ground.textOnly Departure.lateStoresUnsure }, { on := 13, ground := Ground.phase }], guard := none }) rfl (by rfl) (fun K hK => ?_) AllReady.nil
        refine wp_store_mid 49 (Operand.tmp 60) (Operand.tmp 55) rfl g ((q + 1) * 8) #[.int .i64 y.size, .int .u32 y.va, .int .u64 y.pa, .int .i64 y.dom, .int .i64 y.ap, .int .u32 y.bits, .bool y.ng, .bool y.xn] rfl rfl (HT1.out) (by kernel_rfl) (one8 _) ?_
        refine hK _ _ ?_
        clear hK K
        try simp only [Act.put, List.setIfInBounds_toArray, List.set_cons_zero, List.set_cons_succ]
        generalize wr.drew.setCells g ((q + 1) * 8) [.int .i64 y.size, .int .u32 y.va, .int .u64 y.pa, .int .i64 y.dom, .int .i64 y.ap, .int .u32 y.bits, .bool y.ng, .bool y.xn] = wy at *
        clear HXX HY HT1 HT2
        refine wpAny_take (i := 16) (oi := { dst := some 61, op := Op.indexAddr 41 (Operand.tmp 48) (Operand.tmp 50), type := 0, pos := _, after := #[{ on := 2, ground := Ground.data }, { on := 4, ground := Ground.data }, { on := 0, ground := Ground.phase }, { on := 1, ground := Ground.phase }, { on := 2, ground := Ground.phase }, { on := 3, ground := Ground.phase }, { on := 4, ground := Ground.phase }, { on := 5, ground := Ground.phase }, { on := 6, ground := Ground.phase }, { on := 7, ground := Ground.phase }, { on := 8, ground := Ground.phase }, { on := 9, ground := Ground.phase }, { on := 10, ground := Ground.phase }, { on := 11, ground := Ground.phase }, { on := 12, ground := Ground.phase }, { on := 13, ground := Ground.phase }, { on := 14, ground := Ground.phase }, { on := 15, ground := Ground.phase }], guard := none }) (v := ?_) rfl (by kernel_rfl) (by kernel_rfl) (by kernel_rfl) (fun _ _ _ h => hQp.out _ _ _ _ _ h) (Or.inl ⟨by rfl, ?_⟩) ?_
        rotate_left
        · (intro w; go_simp; try with_reducible rfl)
        simp only [Act.put, List.setIfInBounds_toArray, List.set_cons_zero, List.set_cons_succ]
        refine wpAny_ready (rs := [17]) (by kernel_rfl) (by simp) ?_
        refine BigFrame.allReady_want (o := { dst := none, op := Op.store 49 (Operand.tmp 61) (Operand.tmp 59), type := 0, pos := _, after := #[{ on := 16, ground := Ground.data }, { on := 13, ground := Ground.data }, { on := 15, ground := Ground.chain }, { on := 0, ground := Ground.phase }, { on := 1, ground := Ground.phase }, { on := 2, ground := Ground.phase }, { on := 3, ground := Ground.phase }, { on := 4, ground := Ground.phase }, { on := 5, ground := Ground.phase }, { on := 6, ground := Ground.phase }, { on := 7, ground := Ground.phase }, { on := 8, ground := Ground.phase }, { on := 9, ground := Ground.phase }, { on := 10, ground := Ground.phase }, { on := 11, ground := Ground.phase }, { on := 12, ground := Ground.phase }, { on := 13, ground := Ground.phase }, { on := 14, ground := Ground.phase }, { on := 15, ground := Ground.phase }], guard := none }) rfl (by rfl) (fun K hK => ?_) AllReady.nil
        refine wp_store_mid 49 (Operand.tmp 61) (Operand.tmp 59) rfl g (q * 8) #[.int .i64 x.size, .int .u32 x.va, .int .u64 x.pa, .int .i64 x.dom, .int .i64 x.ap, .int .u32 x.bits, .bool x.ng, .bool x.xn] rfl rfl HT3.out (by kernel_rfl) (one8 _) ?_
        refine hK _ _ ?_
        clear hK K
        try simp only [Act.put, List.setIfInBounds_toArray, List.set_cons_zero, List.set_cons_succ]
        refine wpAny_done (by kernel_rfl) ?_ _
        generalize wy.setCells g (q * 8) [.int .i64 x.size, .int .u32 x.va, .int .u64 x.pa, .int .i64 x.dom, .int .i64 x.ap, .int .u32 x.bits, .bool x.ng, .bool x.xn] = wx at *
        go_wp2
        go_roundw
        case rel => exact ⟨q, by omega, by omega, by go_num, HSW⟩
        case measure => simp [intOf]
      · refine wp_load_mid 49 (Operand.tmp 58) rfl g ((q + 1) * 8) rfl [.int .i64 x.size, .int .u32 x.va, .int .u64 x.pa, .int .i64 x.dom, .int .i64 x.ap, .int .u32 x.bits, .bool x.ng, .bool x.xn] _ (HXX.out) Tryd.underlying49 rfl (by kernel_rfl) ?_
        refine hK _ _ ?_
        clear hK K
        try simp only [Act.put, List.setIfInBounds_toArray, List.set_cons_zero, List.set_cons_succ]
        refine wpAny_ready (rs := [9]) (by kernel_rfl) (by simp) ?_
        refine BigFrame.allReady_want (o := { dst := some 55, op := Op.load 49 (Operand.tmp 54), type := 49, pos := _, after := #[{ on := 8, ground := Ground.data }], guard := none }) rfl (by rfl) (fun K hK => ?_) AllReady.nil
        refine wp_load_mid 49 (Operand.tmp 54) rfl g (q * 8) rfl [.int .i64 y.size, .int .u32 y.va, .int .u64 y.pa, .int .i64 y.dom, .int .i64 y.ap, .int .u32 y.bits, .bool y.ng, .bool y.xn] _ (HY.out) Tryd.underlying49 rfl (by kernel_rfl) ?_
        refine hK _ _ ?_
        clear hK K
        try simp only [Act.put, List.setIfInBounds_toArray, List.set_cons_zero, List.set_cons_succ]
        refine wpAny_take (i := 14) (oi := { dst := some 60, op := Op.indexAddr 41 (Operand.tmp 46) (Operand.tmp 47), type := 0, pos := _, after := #[{ on := 0, ground := Ground.data }, { on := 1, ground := Ground.data }, { on := 0, ground := Ground.phase }, { on := 1, ground := Ground.phase }, { on := 2, ground := Ground.textOnly Departure.lateStores }, { on := 3, ground := Ground.textOnly Departure.lateStores }, { on := 4, ground := Ground.textOnly Departure.lateStores }, { on := 5, ground := Ground.phase }, { on := 6, ground := Ground.phase }, { on := 7, ground := Ground.phase }, { on := 8, ground := Ground.phase }, { on := 9, ground := Ground.phase }, { on := 10, ground := Ground.textOnly Departure.lateStores }, { on := 11, ground := Ground.textOnly Departure.lateStores }, { on := 12, ground := Ground.textOnly Departure.lateStoresUnsure }, { on := 13, ground := Ground.phase }], guard := none }) (v := ?_) rfl (by kernel_rfl) (by kernel_rfl) (by kernel_rfl) (fun _ _ _ h => hQp.out _ _ _ _ _ h) (Or.inl ⟨by rfl, ?_⟩) ?_
        rotate_left
        · (intro w; go_simp; try with_reducible rfl)
        simp only [Act.put, List.setIfInBounds_toArray, List.set_cons_zero, List.set_cons_succ]
        refine wpAny_ready (rs := [15]) (by kernel_rfl) (by simp) ?_
        refine BigFrame.allReady_want (o := { dst := none, op := Op.store 49 (Operand.tmp 60) (Operand.tmp 55), type := 0, pos := _, after := #[{ on := 14, ground := Ground.data }, { on := 9, ground := Ground.data }, { on := 0, ground := Ground.phase }, { on := 1, ground := Ground.phase }, { on := 2, ground := Ground.textOnly Departure.lateStores }, { on := 3, ground := Ground.textOnly Departure.lateStores }, { on := 4, ground := Ground.textOnly Departure.lateStores }, { on := 5, ground := Ground.phase }, { on := 6, ground := Ground.phase }, { on := 7, ground := Ground.phase }, { on := 8, ground := Ground.phase }, { on := 9, ground := Ground.phase }, { on := 10, ground := Ground.textOnly Departure.lateStores }, { on := 11, ground := Ground.textOnly Departure.lateStores }, { on := 12, ground := Ground.textOnly Departure.lateStoresUnsure }, { on := 13, ground := Ground.phase }], guard := none }) rfl (by rfl) (fun K hK => ?_) AllReady.nil
        refine wp_store_mid 49 (Operand.tmp 60) (Operand.tmp 55) rfl g ((q + 1) * 8) #[.int .i64 y.size, .int .u32 y.va, .int .u64 y.pa, .int .i64 y.dom, .int .i64 y.ap, .int .u32 y.bits, .bool y.ng, .bool y.xn] rfl rfl (HT1.out) (by kernel_rfl) (one8 _) ?_
        refine hK _ _ ?_
        clear hK K
        try simp only [Act.put, List.setIfInBounds_toArray, List.set_cons_zero, List.set_cons_succ]
        generalize wr.drew.setCells g ((q + 1) * 8) [.int .i64 y.size, .int .u32 y.va, .int .u64 y.pa, .int .i64 y.dom, .int .i64 y.ap, .int .u32 y.bits, .bool y.ng, .bool y.xn] = wy at *
        clear HXX HY HT1 HT2
        refine wpAny_take (i := 16) (oi := { dst := some 61, op := Op.indexAddr 41 (Operand.tmp 48) (Operand.tmp 50), type := 0, pos := _, after := #[{ on := 2, ground := Ground.data }, { on := 4, ground := Ground.data }, { on := 0, ground := Ground.phase }, { on := 1, ground := Ground.phase }, { on := 2, ground := Ground.phase }, { on := 3, ground := Ground.phase }, { on := 4, ground := Ground.phase }, { on := 5, ground := Ground.phase }, { on := 6, ground := Ground.phase }, { on := 7, ground := Ground.phase }, { on := 8, ground := Ground.phase }, { on := 9, ground := Ground.phase }, { on := 10, ground := Ground.phase }, { on := 11, ground := Ground.phase }, { on := 12, ground := Ground.phase }, { on := 13, ground := Ground.phase }, { on := 14, ground := Ground.phase }, { on := 15, ground := Ground.phase }], guard := none }) (v := ?_) rfl (by kernel_rfl) (by kernel_rfl) (by kernel_rfl) (fun _ _ _ h => hQp.out _ _ _ _ _ h) (Or.inl ⟨by rfl, ?_⟩) ?_
        rotate_left
        · (intro w; go_simp; try with_reducible rfl)
        simp only [Act.put, List.setIfInBounds_toArray, List.set_cons_zero, List.set_cons_succ]
        refine wpAny_ready (rs := [17]) (by kernel_rfl) (by simp) ?_
        refine BigFrame.allReady_want (o := { dst := none, op := Op.store 49 (Operand.tmp 61) (Operand.tmp 59), type := 0, pos := _, after := #[{ on := 16, ground := Ground.data }, { on := 13, ground := Ground.data }, { on := 15, ground := Ground.chain }, { on := 0, ground := Ground.phase }, { on := 1, ground := Ground.phase }, { on := 2, ground := Ground.phase }, { on := 3, ground := Ground.phase }, { on := 4, ground := Ground.phase }, { on := 5, ground := Ground.phase }, { on := 6, ground := Ground.phase }, { on := 7, ground := Ground.phase }, { on := 8, ground := Ground.phase }, { on := 9, ground := Ground.phase }, { on := 10, ground := Ground.phase }, { on := 11, ground := Ground.phase }, { on := 12, ground := Ground.phase }, { on := 13, ground := Ground.phase }, { on := 14, ground := Ground.phase }, { on := 15, ground := Ground.phase }], guard := none }) rfl (by rfl) (fun K hK => ?_) AllReady.nil
        refine wp_store_mid 49 (Operand.tmp 61) (Operand.tmp 59) rfl g (q * 8) #[.int .i64 x.size, .int .u32 x.va, .int .u64 x.pa, .int .i64 x.dom, .int .i64 x.ap, .int .u32 x.bits, .bool x.ng, .bool x.xn] rfl rfl HT3.out (by kernel_rfl) (one8 _) ?_
        refine hK _ _ ?_
        clear hK K
        try simp only [Act.put, List.setIfInBounds_toArray, List.set_cons_zero, List.set_cons_succ]
        refine wpAny_done (by kernel_rfl) ?_ _
        generalize wy.setCells g (q * 8) [.int .i64 x.size, .int .u32 x.va, .int .u64 x.pa, .int .i64 x.dom, .int .i64 x.ap, .int .u32 x.bits, .bool x.ng, .bool x.xn] = wx at *
        go_wp2
        go_roundw
        case rel => exact ⟨q, by omega, by omega, by go_num, HSW⟩
        case measure => simp [intOf]
    · obtain rfl : q = j := by omega
      go_wp2
      rw [← HQ.out]
      go_ret
      refine ⟨_, rfl, insAt l x q, ?_, HR.out, fun y => ins_mem y, by rw [ins_len, HN.out]; exact Nat.le_refl _, HV1.out.bel⟩
      rw [ins_len, HN.out]
      exact HV1.out.own
end Go.Proofs.YtmodcbdgnmjkoabDoor
namespace Go.Proofs.YtmodcbdgnmjkoabDoor
open Go.RowKit
open Mm (Turn gr RowAt)
set_option linter.unusedVariables false
set_option linter.unusedSimpArgs false
set_option maxRecDepth 100000 in
set_option maxHeartbeats 8000000 in
theorem vput_nil (lo : Nat) (x : Tra) (w : World) (hlo : lo ≤ w.heap.size) :
    Calls Tryd.prog 21 #[.slice none 0 0, .agg #[.int .i64 x.size, .int .u32 x.va, .int .u64 x.pa, .int .i64 x.dom, .int .i64 x.ap, .int .u32 x.bits, .bool x.ng, .bool x.xn]] w fun e w' => ∃ v', e = .returned v' ∧ ∃ l', w'.ownsRow lo 49 8 v' l'.length (rowT l') ∧ Rise l' ∧ (∀ y, y ∈ l' ↔ y ∈ ([] : List Tra) ∨ y = x) ∧ l'.length ≤ ([] : List Tra).length + 1 ∧ Below lo w w' := by
  have HX : Hid (Bl (w.alloc (.cells #[.int .i64 x.size, .int .u32 x.va, .int .u64 x.pa, .int .i64 x.dom, .int .i64 x.ap, .int .u32 x.bits, .bool x.ng, .bool x.xn] 49)) w.heap.size 49 [.int .i64 x.size, .int .u32 x.va, .int .u64 x.pa, .int .i64 x.dom, .int .i64 x.ap, .int .u32 x.bits, .bool x.ng, .bool x.xn] ∧ Below lo w (w.alloc (.cells #[.int .i64 x.size, .int .u32 x.va, .int .u64 x.pa, .int .i64 x.dom, .int .i64 x.ap, .int .u32 x.bits, .bool x.ng, .bool x.xn] 49)) ∧ lo ≤ (w.alloc (.cells #[.int .i64 x.size, .int .u32 x.va, .int .u64 x.pa, .int .i64 x.dom, .int .i64 x.ap, .int .u32 x.bits, .bool x.ng, .bool x.xn] 49)).heap.size) := hidW ⟨Bl.new w _ _, (below_new _ _).mono hlo, by simp; omega⟩
  go_enter Tryd.func21, Tryd.ntmps21
  refine wp_cut 4 _ (vtl Tryd.f21) (by kernel_rfl) (fun C hC => ?_)
  have HC := hidW hC
  clear hC
  simp only [putTail]
  have hd : decide ((0 : Int) > 0) = false := by decide
  go_wp2
  generalize w.alloc (.cells #[.int .i64 x.size, .int .u32 x.va, .int .u64 x.pa, .int .i64 x.dom, .int .i64 x.ap, .int .u32 x.bits, .bool x.ng, .bool x.xn] 49) = wa at *
  generalize w.heap.size = bx at *
  go_loopw [5] (fun k wr => k = .int .i64 0 ∧ Hid (Bl wr bx 49 [.int .i64 x.size, .int .u32 x.va, .int .u64 x.pa, .int .i64 x.dom, .int .i64 x.ap, .int .u32 x.bits, .bool x.ng, .bool x.xn] ∧ Below lo w wr ∧ lo ≤ wr.heap.size)) (fun _ _ => 0)
  case atStart => exact ⟨rfl, HX⟩
  case round =>
    obtain ⟨rfl, HX1⟩ := hrel
    go_wp2
    go_quiet (fail)
    have HX2 : Hid (Bl (wr.drewN nq) bx 49 [.int .i64 x.size, .int .u32 x.va, .int .u64 x.pa, .int .i64 x.dom, .int .i64 x.ap, .int .u32 x.bits, .bool x.ng, .bool x.xn] ∧ Below lo w (wr.drewN nq) ∧ lo ≤ (wr.drewN nq).heap.size) := hidW ⟨HX1.out.1, HX1.out.2.1.trans ((Turn.drewN (Turn.refl (fun b => lo ≤ b) wr) nq).to (fun _ h => h) HX1.out.2.2), HX1.out.2.2⟩
    generalize wr.drewN nq = wz at *
    go_wp2
    go_quiet (fail)
    have HX3 : Hid (Bl (wz.drewN nq) bx 49 [.int .i64 x.size, .int .u32 x.va, .int .u64 x.pa, .int .i64 x.dom, .int .i64 x.ap, .int .u32 x.bits, .bool x.ng, .bool x.xn] ∧ Below lo w (wz.drewN nq) ∧ lo ≤ (wz.drewN nq).heap.size) := hidW ⟨HX2.out.1, HX2.out.2.1.trans ((Turn.drewN (Turn.refl (fun b => lo ≤ b) wz) nq).to (fun _ h => h) HX2.out.2.2), HX2.out.2.2⟩
    go_wp2
    refine HC.out _ _ ?_
    refine vtl_any lo bx 0 (.slice none 0 0) [] x w _ (World.ownsRow_nil _ _ _ _) HX3.out.2.1 HX3.out.2.2 (by simp) HX3.out.1 (Nat.le_refl _) ?_
    simp [insAt, Rise]
set_option maxRecDepth 100000 in
set_option maxHeartbeats 8000000 in
theorem vput_some (lo g cap : Nat) (l : List Tra) (rest : List Value) (x : Tra) (w : World) (hV : Vr lo g l.length cap l rest w w) (hl : l.length ≤ 1100000) (hR : Rise l) :
    Calls Tryd.prog 21 #[.slice (some ⟨g, 0, none⟩) l.length cap, .agg #[.int .i64 x.size, .int .u32 x.va, .int .u64 x.pa, .int .i64 x.dom, .int .i64 x.ap, .int .u32 x.bits, .bool x.ng, .bool x.xn]] w fun e w' => ∃ v', e = .returned v' ∧ ∃ l', w'.ownsRow lo 49 8 v' l'.length (rowT l') ∧ Rise l' ∧ (∀ y, y ∈ l' ↔ y ∈ l ∨ y = x) ∧ l'.length ≤ l.length + 1 ∧ Below lo w w' := by
  have HX : Hid (Vr lo g l.length cap l rest w (w.alloc (.cells #[.int .i64 x.size, .int .u32 x.va, .int .u64 x.pa, .int .i64 x.dom, .int .i64 x.ap, .int .u32 x.bits, .bool x.ng, .bool x.xn] 49)) ∧ Bl (w.alloc (.cells #[.int .i64 x.size, .int .u32 x.va, .int .u64 x.pa, .int .i64 x.dom, .int .i64 x.ap, .int .u32 x.bits, .bool x.ng, .bool x.xn] 49)) w.heap.size 49 [.int .i64 x.size, .int .u32 x.va, .int .u64 x.pa, .int .i64 x.dom, .int .i64 x.ap, .int .u32 x.bits, .bool x.ng, .bool x.xn] ∧ ∀ i y, l.length ≤ i → l[i]? = some y → ltT x y = true) := hidW ⟨hV.below (below_new _ _), Bl.new w _ _, fun i y hi hy => by have := (List.getElem?_eq_some_iff.1 hy).1; omega⟩
  have HL := hidW vless_any
  have HR := hidW hR
  have hcap := hV.hn
  clear hV hR
  go_enter Tryd.func21, Tryd.ntmps21
  refine wp_cut 4 _ (vtl Tryd.f21) (by kernel_rfl) (fun C hC => ?_)
  have HC := hidW hC
  clear hC
  simp only [putTail]
  generalize hn : l.length = n at *
  have HN := hidW hn
  clear hn
  go_wp2
  generalize w.alloc (.cells #[.int .i64 x.size, .int .u32 x.va, .int .u64 x.pa, .int .i64 x.dom, .int .i64 x.ap, .int .u32 x.bits, .bool x.ng, .bool x.xn] 49) = wa at *
  generalize w.heap.size = bx at *
  go_loopw [5] (fun k wr => ∃ j : Nat, j ≤ n ∧ k = .int .i64 j ∧ Hid (Vr lo g n cap l rest w wr ∧ Bl wr bx 49 [.int .i64 x.size, .int .u32 x.va, .int .u64 x.pa, .int .i64 x.dom, .int .i64 x.ap, .int .u32 x.bits, .bool x.ng, .bool x.xn] ∧ ∀ i y, j ≤ i → l[i]? = some y → ltT x y = true)) (fun k _ => (intOf k).toNat)
  case atStart => exact ⟨n, Nat.le_refl _, rfl, HX⟩
  case round =>
    obtain ⟨j, hj, rfl, HX1⟩ := hrel
    clear HX
    cases j with
    | zero =>
      have hd : decide (((0 : Nat) : Int) > 0) = false := by decide
      go_wp2
      go_quiet (fail)
      have HX2 : Hid (Vr lo g n cap l rest w (wr.drewN nq) ∧ Bl (wr.drewN nq) bx 49 [.int .i64 x.size, .int .u32 x.va, .int .u64 x.pa, .int .i64 x.dom, .int .i64 x.ap, .int .u32 x.bits, .bool x.ng, .bool x.xn] ∧ ∀ i y, 0 ≤ i → l[i]? = some y → ltT x y = true) := hidW ⟨HX1.out.1.drewN nq, HX1.out.2.1, HX1.out.2.2⟩
      generalize wr.drewN nq = wz at *
      go_wp2
      go_quiet (fail)
      have HX3 : Hid (Vr lo g n cap l rest w (wz.drewN nq) ∧ Bl (wz.drewN nq) bx 49 [.int .i64 x.size, .int .u32 x.va, .int .u64 x.pa, .int .i64 x.dom, .int .i64 x.ap, .int .u32 x.bits, .bool x.ng, .bool x.xn]) := hidW ⟨HX2.out.1.drewN nq, HX2.out.2.1⟩
      go_wp2
      refine HC.out _ _ ?_
      have hv := HX3.out.1.own
      rw [← HN.out] at hv ⊢
      exact vtl_any lo bx 0 _ l x w _ hv HX3.out.1.bel HX3.out.1.low (by rw [HN.out]; exact hl) HX3.out.2 (Nat.zero_le _) (ins_rise HR.out HX2.out.2.2 (fun y h _ => absurd rfl h) (Nat.zero_le _))
    | succ j =>
      obtain ⟨y, hy⟩ : ∃ y, l[j]? = some y := ⟨_, List.getElem?_eq_getElem (by rw [HN.out]; omega)⟩
      have hS : ∀ W', Below wr.heap.size wr W' → (W'.cell? ⟨bx, 0, none⟩ = some (.int .i64 x.size) ∧ W'.cell? ⟨bx, 1, none⟩ = some (.int .u32 x.va) ∧ W'.cell? ⟨bx, 2, none⟩ = some (.int .u64 x.pa) ∧ W'.cell? ⟨bx, 3, none⟩ = some (.int .i64 x.dom) ∧ W'.cell? ⟨bx, 4, none⟩ = some (.int .i64 x.ap) ∧ W'.cell? ⟨bx, 5, none⟩ = some (.int .u32 x.bits) ∧ W'.cell? ⟨bx, 6, none⟩ = some (.bool x.ng) ∧ W'.cell? ⟨bx, 7, none⟩ = some (.bool x.xn) ∧ W'.cell? ⟨g, j * 8, none⟩ = some (.int .i64 y.size) ∧ W'.cell? ⟨g, j * 8 + 1, none⟩ = some (.int .u32 y.va) ∧ W'.cell? ⟨g, j * 8 + 2, none⟩ = some (.int .u64 y.pa) ∧ W'.cell? ⟨g, j * 8 + 3, none⟩ = some (.int .i64 y.dom) ∧ W'.cell? ⟨g, j * 8 + 4, none⟩ = some (.int .i64 y.ap) ∧ W'.cell? ⟨g, j * 8 + 5, none⟩ = some (.int .u32 y.bits) ∧ W'.cell? ⟨g, j * 8 + 6, none⟩ = some (.bool y.ng) ∧ W'.cell? ⟨g, j * 8 + 7, none⟩ = some (.bool y.xn)) := fun W' hb => by
        have a := (HX1.out.2.1.below hb).cell
        obtain ⟨y0, y1, y2, y3, y4, y5, y6, y7⟩ := rowT_cells (HX1.out.1.below hb).row hy
        exact ⟨a 0, a 1, a 2, a 3, a 4, a 5, a 6, a 7, y0, y1, y2, y3, y4, y5, y6, y7⟩
      have HB1 := hidW (Below.refl wr.heap.size wr)
      have hs1 := HB1.out.size
      have z1 : (0 : Int) < ((j + 1 : Nat) : Int) := by omega
      have z2 : (0 : Int) ≤ j := by omega
      have z3 : (j : Int) < (n : Int) := by omega
      have zw : IntKind.i64.wrap (j : Int) = j := by rw [IntKind.wrap_i64]; omega
      have z4 : (0 : Int) < (j : Int) + 1 := by omega
      go_wp2
      go_region_held3 (fun w' => w'.cell? ⟨bx, 0, none⟩ = some (.int .i64 x.size) ∧ w'.cell? ⟨bx, 1, none⟩ = some (.int .u32 x.va) ∧ w'.cell? ⟨bx, 2, none⟩ = some (.int .u64 x.pa) ∧ w'.cell? ⟨bx, 3, none⟩ = some (.int .i64 x.dom) ∧ w'.cell? ⟨bx, 4, none⟩ = some (.int .i64 x.ap) ∧ w'.cell? ⟨bx, 5, none⟩ = some (.int .u32 x.bits) ∧ w'.cell? ⟨bx, 6, none⟩ = some (.bool x.ng) ∧ w'.cell? ⟨bx, 7, none⟩ = some (.bool x.xn) ∧ w'.cell? ⟨g, j * 8, none⟩ = some (.int .i64 y.size) ∧ w'.cell? ⟨g, j * 8 + 1, none⟩ = some (.int .u32 y.va) ∧ w'.cell? ⟨g, j * 8 + 2, none⟩ = some (.int .u64 y.pa) ∧ w'.cell? ⟨g, j * 8 + 3, none⟩ = some (.int .i64 y.dom) ∧ w'.cell? ⟨g, j * 8 + 4, none⟩ = some (.int .i64 y.ap) ∧ w'.cell? ⟨g, j * 8 + 5, none⟩ = some (.int .u32 y.bits) ∧ w'.cell? ⟨g, j * 8 + 6, none⟩ = some (.bool y.ng) ∧ w'.cell? ⟨g, j * 8 + 7, none⟩ = some (.bool y.xn)) (exact hS _ (by ((repeat (first | (with_reducible refine Below.setCell ?_ (by first | exact Nat.le_refl _ | (dsimp only; omega)) _) | (with_reducible refine Below.alloc ?_ (by first | omega | (simp; omega) | simp) _) | (with_reducible refine below_drew ?_))); (first | (with_reducible exact HB1.out) | (with_reducible exact Below.refl _ _))))) (first | (go_at_call 43; refine (HL.out _ _ _).mono ?_; rintro e w1 ⟨rfl, hb⟩; have HB2 : Hid (Below wr.heap.size wr w1) := Below.step (by ((repeat (first | (with_reducible refine Below.setCell ?_ (by first | exact Nat.le_refl _ | (dsimp only; omega)) _) | (with_reducible refine Below.alloc ?_ (by first | omega | (simp; omega) | simp) _) | (with_reducible refine below_drew ?_))); (first | (with_reducible exact HB1.out) | (with_reducible exact Below.refl _ _)))) hb; have HB1 := HB2; have hs1 := HB1.out.size; clear hb))
      have HX2 : Hid (Vr lo g n cap l rest w w1 ∧ Bl w1 bx 49 [.int .i64 x.size, .int .u32 x.va, .int .u64 x.pa, .int .i64 x.dom, .int .i64 x.ap, .int .u32 x.bits, .bool x.ng, .bool x.xn] ∧ ∀ i y, j + 1 ≤ i → l[i]? = some y → ltT x y = true) := hidW ⟨HX1.out.1.below HB1.out, HX1.out.2.1.below HB1.out, HX1.out.2.2⟩
      have HY := hidW hy
      clear hS HX1 HB1 hs1 hy
      by_cases hlt : ltT x y = true
      · have HX3 : Hid (Vr lo g n cap l rest w w1 ∧ Bl w1 bx 49 [.int .i64 x.size, .int .u32 x.va, .int .u64 x.pa, .int .i64 x.dom, .int .i64 x.ap, .int .u32 x.bits, .bool x.ng, .bool x.xn] ∧ ∀ i y, j ≤ i → l[i]? = some y → ltT x y = true) := hidW ⟨HX2.out.1, HX2.out.2.1, fun i z hi hz => by
          rcases (show j + 1 ≤ i ∨ i = j by omega) with h | rfl
          · exact HX2.out.2.2 i z h hz
          · rw [HY.out] at hz; cases hz; exact hlt⟩
        rw [hlt]
        clear HX2 hlt HY
        go_wp2
        go_roundw
        case rel => exact ⟨j, by omega, by go_num, HX3⟩
        case measure => simp [intOf]
      · have hlf : ltT x y = false := by simpa using hlt
        rw [hlf]
        have hx' := HX2.out.2.1.cell
        obtain ⟨y0, y1, y2, y3, y4, y5, y6, y7⟩ := rowT_cells HX2.out.1.row HY.out
        have eT := eqT y x
        clear hlt
        by_cases hs : y.same x = true
        · rw [hs] at eT
          have hxy := (Tra.same_iff _ _).1 hs
          have HM : Hid (x ∈ l) := hidW (by rw [← hxy]; exact List.mem_of_getElem? HY.out)
          clear hs hxy
          go_wp2
          go_quiet (fail)
          have HX3 := hidW (HX2.out.1.drewN nq)
          go_wp2
          go_ret
          refine ⟨_, rfl, l, ?_, HR.out, fun z => ⟨fun h => .inl h, fun h => ?_⟩, by rw [HN.out]; omega, HX3.out.bel⟩
          · rw [HN.out]; exact HX3.out.own
          · rcases h with h | rfl
            · exact h
            · exact HM.out
        · have hsf : y.same x = false := by simpa using hs
          rw [hsf] at eT
          have HYX : Hid (ltT y x = true) := hidW (by
            cases h : ltT y x with
            | true => rfl
            | false => exact absurd ((Tra.same_iff _ _).2 (ltT_tot y x h hlf)) hs)
          clear hs hsf hlf
          go_wp2
          go_quiet (fail)
          have HX3 := hidW (And.intro (HX2.out.1.drewN nq) (show Bl (w1.drewN nq) bx 49 [.int .i64 x.size, .int .u32 x.va, .int .u64 x.pa, .int .i64 x.dom, .int .i64 x.ap, .int .u32 x.bits, .bool x.ng, .bool x.xn] from HX2.out.2.1))
          go_wp2
          refine HC.out _ _ ?_
          have hv := HX3.out.1.own
          rw [← HN.out] at hv ⊢
          exact vtl_any lo bx (j + 1) _ l x w _ hv HX3.out.1.bel HX3.out.1.low (by rw [HN.out]; exact hl) HX3.out.2 (by rw [HN.out]; exact hj) (ins_rise HR.out HX2.out.2.2 (fun z _ hz => by
            rw [Nat.add_sub_cancel, HY.out] at hz
            cases hz
            exact HYX.out) (by rw [HN.out]; exact hj))
end Go.Proofs.YtmodcbdgnmjkoabDoor
namespace Go.Proofs.YtmodcbdgnmjkoabDoor
open Go.RowKit
open Mm (Turn gr RowAt)
set_option linter.unusedVariables false
set_option linter.unusedSimpArgs false
/-- What the reference has found so far. -/
structure Ts (lo : Nat) (S : Nat → Prop) (rv : Value) (M : Mo) (out : List Tra) (v : Value) (w0 w : World) : Prop where
  mem : MemR w S rv M
  hS : ∀ b, S b → b < lo
  tab : TW w
  hT : ∀ b, tbl b → b < lo
  own : w.ownsRow lo 49 8 v out.length (rowT out)
  rise : Rise out
  bel : Below lo w0 w
  low : lo ≤ w.heap.size
section
variable {lo : Nat} {S : Nat → Prop} {rv : Value} {M : Mo} {out : List Tra} {v : Value} {w0 w w' : World}
theorem Ts.below (h : Ts lo S rv M out v w0 w) (hb : Below w.heap.size w w') : Ts lo S rv M out v w0 w' :=
  ⟨h.mem.below hb, h.hS, h.tab.below hb, h.hT, Mm.own_turn h.own (Turn.below (S := fun _ => False) hb) (fun _ _ h => h), h.rise, h.bel.trans (hb.mono h.low), Nat.le_trans h.low hb.size⟩
/-- One block put. -/
theorem Ts.put (h : Ts lo S rv M out v w0 w) (x : Tra) (hl : out.length ≤ 1100000) :
    Calls Tryd.prog 21 #[v, .agg #[.int .i64 x.size, .int .u32 x.va, .int .u64 x.pa, .int .i64 x.dom, .int .i64 x.ap, .int .u32 x.bits, .bool x.ng, .bool x.xn]] w fun e w' => ∃ v', e = .returned v' ∧ ∃ out', Ts lo S rv M out' v' w0 w' ∧ (∀ y, y ∈ out' ↔ y ∈ out ∨ y = x) ∧ out'.length ≤ out.length + 1 := by
  have fin : ∀ (e : Ending) (w' : World), (∃ v', e = .returned v' ∧ ∃ l', w'.ownsRow lo 49 8 v' l'.length (rowT l') ∧ Rise l' ∧ (∀ y, y ∈ l' ↔ y ∈ out ∨ y = x) ∧ l'.length ≤ out.length + 1 ∧ Below lo w w') → ∃ v', e = .returned v' ∧ ∃ out', Ts lo S rv M out' v' w0 w' ∧ (∀ y, y ∈ out' ↔ y ∈ out ∨ y = x) ∧ out'.length ≤ out.length + 1 := by
    rintro e w' ⟨v', rfl, l', h1, h2, h3, h4, hB⟩
    exact ⟨v', rfl, l', ⟨h.mem.keep (turn_of hB) (fun b hb hx => by have := h.hS b hb; omega), h.hS, h.tab.turn (turn_of hB) (fun b hb hx => by have := h.hT b hb; omega), h.hT, h1, h2, h.bel.trans hB, Nat.le_trans h.low hB.size⟩, h3, h4⟩
  rcases Vr.of h.own (Below.refl lo w) h.low with ⟨rfl, rfl⟩ | ⟨g, cap, rest, rfl, hV⟩
  · exact (vput_nil lo x w h.low).mono fin
  · exact (vput_some lo g cap out rest x w hV hl h.rise).mono fin
end
theorem own_le {W : World} {lo lo' n : Nat} {v : Value} {xs : List Value} (h : W.ownsRow lo 49 8 v n xs) (hl : lo' ≤ lo) : W.ownsRow lo' 49 8 v n xs := by
  rcases Mm.row_of_own h with ⟨rfl, rfl, rfl⟩ | ⟨g, cap, cur, rfl, a, b, cc, d, e1, f⟩
  · exact World.ownsRow_nil _ _ _ _
  · exact Mm.own_of_row b (by omega) cc d e1 f
/-- What stands so far, MiB by MiB. -/
def Fs (M : Mo) (c : Ctx) (k : Nat) (out : List Tra) : Prop := out.length ≤ 256 * k ∧ ∀ y, y ∈ out ↔ ∃ j : Nat, j < k ∧ y ∈ gaL M c ((j : Int) * 1048576)
theorem Fs.step {M : Mo} {c : Ctx} {k : Nat} {out out' : List Tra} (h : Fs M c k out) (h1 : ∀ y, y ∈ out' ↔ y ∈ out ∨ y ∈ gaL M c ((k : Int) * 1048576)) (h2 : out'.length ≤ out.length + 256) : Fs M c (k + 1) out' := by
  refine ⟨by have := h.1; omega, fun y => ?_⟩
  rw [h1, h.2]
  constructor
  · rintro (⟨j, hj, hy⟩ | hy)
    · exact ⟨j, by omega, hy⟩
    · exact ⟨k, by omega, hy⟩
  · rintro ⟨j, hj, hy⟩
    rcases (show j < k ∨ j = k by omega) with h | rfl
    · exact .inl ⟨j, h, hy⟩
    · exact .inr hy
theorem Fs.none {M : Mo} {c : Ctx} {k : Nat} {out : List Tra} (h : Fs M c k out) (h1 : gaL M c ((k : Int) * 1048576) = []) : Fs M c (k + 1) out := h.step (fun y => by rw [h1]; simp) (by omega)
/-- All of it. -/
theorem Fs.all {M : Mo} {c : Ctx} {out : List Tra} (hM : M.Ok) (hc : c.Ok) (hon : c.on = true) (h : Fs M c 4096 out) (hr : Rise out) : out = blL M c := by
  refine rising_unique ltT_irrefl ltT_trans _ _ hr (blL_rising hM hc) (fun y => ?_)
  rw [h.2, mem_blL hon]
  constructor
  · rintro ⟨j, hj, hy⟩
    obtain ⟨vb, h1, h2⟩ := (mem_gaL hon (by omega) (by omega) y).1 hy
    exact ⟨vb, by omega, h2⟩
  · rintro ⟨vb, h1, h2⟩
    exact ⟨(vb / 1048576).toNat, by omega, (mem_gaL hon (by omega) (by omega) y).2 ⟨vb, by omega, h2⟩⟩
theorem w1_of {M : Mo} {c : Ctx} {va : Int} (h1 : fO c va = true) (h2 : M.er (fA c va) = 0) (h3 : ¬ (D1 (M.wd (fA c va))).kind = 0) : w1 M c va = (D1 (M.wd (fA c va)), fZ) := by
  unfold w1
  rw [if_pos h1, if_pos h2, if_neg h3]
theorem gaL_shut {M : Mo} {c : Ctx} {va : Int} (h : fO c va = false) : gaL M c va = [] := by
  unfold gaL w1
  rw [h]
  simp
theorem gaL_bus {M : Mo} {c : Ctx} {va : Int} (h : fO c va = true) (h2 : ¬ M.er (fA c va) = 0) : gaL M c va = [] := by
  unfold gaL w1
  rw [if_pos h, if_neg h2]
  simp
theorem gaL_zero {M : Mo} {c : Ctx} {va : Int} (h : fO c va = true) (h2 : M.er (fA c va) = 0) (h3 : (D1 (M.wd (fA c va))).kind = 0) : gaL M c va = [] := by
  unfold gaL w1
  rw [if_pos h, if_pos h2, if_pos h3]
  simp
theorem gaL_blk {M : Mo} {c : Ctx} {va : Int} (h : fO c va = true) (h2 : M.er (fA c va) = 0) (h3 : ¬ (D1 (M.wd (fA c va))).kind = 0) (h4 : ¬ (D1 (M.wd (fA c va))).kind = 1) : gaL M c va = [trF (D1 (M.wd (fA c va))) 0 va] := by
  unfold gaL
  rw [w1_of h h2 h3]
  exact (if_pos rfl).trans (if_neg h4)
theorem gaL_tab {M : Mo} {c : Ctx} {va : Int} (h : fO c va = true) (h2 : M.er (fA c va) = 0) (h4 : (D1 (M.wd (fA c va))).kind = 1) : gaL M c va = gaT M (D1 (M.wd (fA c va))) va 256 := by
  unfold gaL
  rw [w1_of h h2 (by omega)]
  exact (if_pos rfl).trans (if_pos h4)
/-- The walk of a page of it. -/
theorem wk_tab {M : Mo} {c : Ctx} {va vb : Int} (hon : c.on = true) (h : fO c va = true) (h2 : M.er (fA c va) = 0) (h4 : (D1 (M.wd (fA c va))).kind = 1) (hb : va / 1048576 = vb / 1048576) : wk M c vb = w2 M (D1 (M.wd (fA c va))) vb := by
  obtain ⟨e1, _⟩ := w1_sec (M := M) (c := c) hb
  unfold wk
  rw [if_pos hon, ← e1, w1_of h h2 (by omega)]
  exact (if_pos rfl).trans (if_pos h4)
theorem w2_same (M : Mo) (x : Ent) (vb : Int) : ((w2 M x vb).2.same fZ = true) ↔ (w2 M x vb).2.k = 0 := by
  rw [Fa.same_iff]
  constructor
  · intro h; rw [h]; rfl
  · intro h; have := w2_z h; rw [this]
set_option maxRecDepth 100000 in
theorem vblocks_off (c : Ctx) (w : World) (rv : Value) (hon : c.on = false) :
    Calls Tryd.prog 8 #[rv, .agg #[.bool c.on, .bool c.tre, .bool c.afe, .int .i64 c.n, .bool c.pd0, .bool c.pd1, .int .u64 c.b0, .int .u64 c.b1, .int .u32 c.dacr, .int .u32 c.prrr, .int .u32 c.nmrr, .int .i64 c.asid]] w fun e w' => e = .returned (.slice none 0 0) ∧ Below w.heap.size w w' := by
  have HB := hidW (below_new w (.cells #[.bool c.on, .bool c.tre, .bool c.afe, .int .i64 c.n, .bool c.pd0, .bool c.pd1, .int .u64 c.b0, .int .u64 c.b1, .int .u32 c.dacr, .int .u32 c.prrr, .int .u32 c.nmrr, .int .i64 c.asid] 26))
  rw [hon] at HB ⊢
  go_enter Tryd.func8, Tryd.ntmps8
  go_wp2
  go_ret
  exact ⟨rfl, HB.out⟩
set_option maxRecDepth 100000 in
set_option maxHeartbeats 8000000 in
theorem vblocks_on (c : Ctx) (w : World) {S : Nat → Prop} {rv : Value} {M : Mo} (hm : MemR w S rv M) (hSl : ∀ b, S b → b < w.heap.size) (ht : TW w) (hc : c.Ok) (hon : c.on = true) :
    Calls Tryd.prog 8 #[rv, .agg #[.bool c.on, .bool c.tre, .bool c.afe, .int .i64 c.n, .bool c.pd0, .bool c.pd1, .int .u64 c.b0, .int .u64 c.b1, .int .u32 c.dacr, .int .u32 c.prrr, .int .u32 c.nmrr, .int .i64 c.asid]] w fun e w' => ∃ v, e = .returned v ∧ w'.ownsRow w.heap.size 49 8 v (blL M c).length (rowT (blL M c)) ∧ Below w.heap.size w w' := by
  have hsz : (w.alloc (.cells #[.bool c.on, .bool c.tre, .bool c.afe, .int .i64 c.n, .bool c.pd0, .bool c.pd1, .int .u64 c.b0, .int .u64 c.b1, .int .u32 c.dacr, .int .u32 c.prrr, .int .u32 c.nmrr, .int .i64 c.asid] 26)).heap.size = w.heap.size + 1 := by simp
  have HG : Hid (Ts (w.heap.size + 1) S rv M [] (.slice none 0 0) (w.alloc (.cells #[.bool c.on, .bool c.tre, .bool c.afe, .int .i64 c.n, .bool c.pd0, .bool c.pd1, .int .u64 c.b0, .int .u64 c.b1, .int .u32 c.dacr, .int .u32 c.prrr, .int .u32 c.nmrr, .int .i64 c.asid] 26)) (w.alloc (.cells #[.bool c.on, .bool c.tre, .bool c.afe, .int .i64 c.n, .bool c.pd0, .bool c.pd1, .int .u64 c.b0, .int .u64 c.b1, .int .u32 c.dacr, .int .u32 c.prrr, .int .u32 c.nmrr, .int .i64 c.asid] 26)) ∧ Fs M c 0 []) :=
    hidW ⟨⟨hm.below (below_new _ _), fun b hb => Nat.lt_succ_of_lt (hSl b hb), ht.below (below_new _ _), fun b hb => Nat.lt_succ_of_lt (ht.low hb), World.ownsRow_nil _ _ _ _, List.Pairwise.nil, Below.refl _ _, by omega⟩, by simp [Fs]⟩
  have HC : Hid (Bl (w.alloc (.cells #[.bool c.on, .bool c.tre, .bool c.afe, .int .i64 c.n, .bool c.pd0, .bool c.pd1, .int .u64 c.b0, .int .u64 c.b1, .int .u32 c.dacr, .int .u32 c.prrr, .int .u32 c.nmrr, .int .i64 c.asid] 26)) w.heap.size 26 [.bool c.on, .bool c.tre, .bool c.afe, .int .i64 c.n, .bool c.pd0, .bool c.pd1, .int .u64 c.b0, .int .u64 c.b1, .int .u32 c.dacr, .int .u32 c.prrr, .int .u32 c.nmrr, .int .i64 c.asid]) := hidW (Bl.new w 26 [.bool c.on, .bool c.tre, .bool c.afe, .int .i64 c.n, .bool c.pd0, .bool c.pd1, .int .u64 c.b0, .int .u64 c.b1, .int .u32 c.dacr, .int .u32 c.prrr, .int .u32 c.nmrr, .int .i64 c.asid])
  have HB : Hid (Below w.heap.size w (w.alloc (.cells #[.bool c.on, .bool c.tre, .bool c.afe, .int .i64 c.n, .bool c.pd0, .bool c.pd1, .int .u64 c.b0, .int .u64 c.b1, .int .u32 c.dacr, .int .u32 c.prrr, .int .u32 c.nmrr, .int .i64 c.asid] 26))) := hidW (below_new _ _)
  have hMO := hm.ok
  have HON := hidW hon
  have hq : (!c.on) = false := by rw [hon]; rfl
  clear hm ht hSl hon
  go_enter Tryd.func8, Tryd.ntmps8
  go_wp2
  generalize w.alloc (.cells #[.bool c.on, .bool c.tre, .bool c.afe, .int .i64 c.n, .bool c.pd0, .bool c.pd1, .int .u64 c.b0, .int .u64 c.b1, .int .u32 c.dacr, .int .u32 c.prrr, .int .u32 c.nmrr, .int .i64 c.asid] 26) = wa at *
  generalize hwb : w.heap.size = cb at *
  go_loopw [5, 6] (fun o i wr => ∃ k : Nat, k ≤ 4096 ∧ i = .int .i64 k ∧ ∃ out, Hid (Ts (cb + 1) S rv M out o wa wr ∧ Fs M c k out)) (fun _ i _ => 4096 - (intOf i).toNat)
  case atStart => exact ⟨0, Nat.zero_le _, rfl, [], HG⟩
  case round =>
    obtain ⟨k, hk, rfl, out, HS⟩ := hrel
    clear HG
    by_cases hlt : k < 4096
    · have hkz : (k : Int) < 4096 := by omega
      have hk0 : (0 : Int) ≤ k := by omega
      have c1 : ∀ j, wr.cell? ⟨cb, j, none⟩ = [.bool c.on, .bool c.tre, .bool c.afe, .int .i64 c.n, .bool c.pd0, .bool c.pd1, .int .u64 c.b0, .int .u64 c.b1, .int .u32 c.dacr, .int .u32 c.prrr, .int .u32 c.nmrr, .int .i64 c.asid][j]? := fun j => (HS.out.1.bel.cell (p := ⟨cb, j, none⟩) (Nat.lt_succ_self _)).trans (HC.out.cell j)
      have hv : 0 ≤ (k : Int) * 1048576 ∧ (k : Int) * 1048576 < 4294967296 := by omega
      have HA := hidW (vfirst_any c ((k : Int) * 1048576) wr hc hv)
      have hwk : IntKind.u32.wrap (k : Int) = k := by rw [IntKind.wrap_u32]; omega
      have hwm : IntKind.u32.wrap ((k : Int) * 1048576) = (k : Int) * 1048576 := by rw [IntKind.wrap_u32]; omega
      have HAR := hidW (fA_rng c ((k : Int) * 1048576) hc hv)
      have hfl := HS.out.2.1
      obtain ⟨va, hva⟩ : ∃ va, (k : Int) * 1048576 = va := ⟨_, rfl⟩
      have HVA := hidW hva
      have HFS := hidW HS.out.2
      have HTS := hidW HS.out.1
      have HFN : Hid (gaL M c va = [] → Fs M c (k + 1) out) := hidW (fun h => HFS.out.none (by rw [HVA.out]; exact h))
      go_wp2_with fail
      rw [hva] at HA HAR hv
      clear hva HS hwm
      go_at_call 18
      refine HA.out.mono ?_
      rintro e w1 ⟨rfl, hb1⟩
      have HT1 := hidW (HTS.out.below hb1)
      clear hb1 HA HTS c1
      cases hfo : fO c va with
      | false =>
        have HF2 := hidW (HFN.out (gaL_shut hfo))
        go_wp2
        go_roundw
        case rel => exact ⟨k + 1, by omega, by go_num, out, hidW ⟨HT1.out, HF2.out⟩⟩
        case measure => simp [intOf]; omega
      | true =>
        have HK := hidW (HT1.out.mem.word (fA c va) HAR.out.1 HAR.out.2)
        obtain ⟨x, hx⟩ : ∃ x, M.wd (fA c va) = x := ⟨_, rfl⟩
        obtain ⟨er, he⟩ : ∃ er, M.er (fA c va) = er := ⟨_, rfl⟩
        have hx0 : 0 ≤ x ∧ x < 4294967296 := by rw [← hx]; exact hMO _
        rw [hx, he] at HK
        have HG1 : Hid (¬ er = 0 → gaL M c va = []) := hidW (fun h => gaL_bus hfo (by rw [he]; exact h))
        have HG2 : Hid (er = 0 → (D1 x).kind = 0 → gaL M c va = []) := hidW (fun h h3 => gaL_zero hfo (by rw [he]; exact h) (by rw [hx]; exact h3))
        have HG3 : Hid (er = 0 → ¬ (D1 x).kind = 0 → ¬ (D1 x).kind = 1 → gaL M c va = [trF (D1 x) 0 va]) := hidW (fun h h3 h4 => by
          have := gaL_blk (M := M) hfo (by rw [he]; exact h) (by rw [hx]; exact h3) (by rw [hx]; exact h4)
          rwa [hx] at this)
        have HG4 : Hid (er = 0 → (D1 x).kind = 1 → gaL M c va = gaT M (D1 x) va 256) := hidW (fun h h4 => by
          have := gaL_tab (M := M) hfo (by rw [he]; exact h) (by rw [hx]; exact h4)
          rwa [hx] at this)
        have HG5 : Hid (er = 0 → (D1 x).kind = 1 → ∀ vb, va / 1048576 = vb / 1048576 → wk M c vb = w2 M (D1 x) vb) := hidW (fun h h4 vb hb => by
          have := wk_tab (M := M) HON.out hfo (by rw [he]; exact h) (by rw [hx]; exact h4) hb
          rwa [hx] at this)
        clear hx he hfo
        generalize fA c va = fa at *
        go_wp2_with fail
        go_at_call 19
        refine HK.out.mono ?_
        rintro e w2 ⟨rfl, rfl⟩
        clear HK
        by_cases h0 : er = 0
        · have HE0 := hidW h0
          have hq0 : (er != 0) = false := by simp [h0]
          have HD := hidW (rdec1_any x w1 hx0)
          have HOK := hidW (ok_D1 x hx0).1
          obtain ⟨D, hD⟩ : ∃ D, D1 x = D := ⟨_, rfl⟩
          rw [hD] at HD HOK HG2 HG3 HG4 HG5
          have HT := hidW (fun ww => rtrans_any D 0 va ww HOK.out hv)
          clear hD
          go_wp2_with fail
          go_at_call 20
          refine HD.out.mono ?_
          rintro e w3 ⟨rfl, hb3⟩
          have HT2 := hidW ((HT1.out.below hb3).below (below_new w3 (.cells #[.int .i64 D.kind, .int .u64 D.base, .int .i64 D.dom, .bool D.ns, .int .i64 D.ap, .int .u32 D.bits, .bool D.ng, .bool D.xn] 70)))
          have HEB : Hid (Bl (w3.alloc (.cells #[.int .i64 D.kind, .int .u64 D.base, .int .i64 D.dom, .bool D.ns, .int .i64 D.ap, .int .u32 D.bits, .bool D.ng, .bool D.xn] 70)) w3.heap.size 70 [.int .i64 D.kind, .int .u64 D.base, .int .i64 D.dom, .bool D.ns, .int .i64 D.ap, .int .u32 D.bits, .bool D.ng, .bool D.xn]) := hidW (Bl.new w3 _ _)
          clear hb3 HD HT1
          by_cases hk1 : D.kind = 1
          · have hq1 : (D.kind != 1) = false := by simp [hk1]
            have HGT := hidW (HG4.out h0 hk1)
            have HWT := hidW (HG5.out h0 hk1)
            clear HG1 HG2 HG3 HG4 HG5 h0 hk1 HT
            go_wp2
            generalize w3.alloc (.cells #[.int .i64 D.kind, .int .u64 D.base, .int .i64 D.dom, .bool D.ns, .int .i64 D.ap, .int .u32 D.bits, .bool D.ng, .bool D.xn] 70) = wx at *
            go_loopw [5, 13] (fun o i wq => ∃ p : Nat, p ≤ 256 ∧ i = .int .u32 p ∧ ∃ o2, Hid (Ts (cb + 1) S rv M o2 o wa wq ∧ o2.length ≤ out.length + p ∧ ∀ y, y ∈ o2 ↔ y ∈ out ∨ y ∈ gaT M D va p)) (fun _ i _ => 256 - (intOf i).toNat)
            case atStart => exact ⟨0, Nat.zero_le _, rfl, out, hidW ⟨HT2.out, Nat.le_refl _, fun y => by simp [gaT]⟩⟩
            case round =>
              obtain ⟨p, hp, rfl, o2, HI⟩ := hrel
              by_cases hpl : p < 256
              · have hpz : (p : Int) < 256 := by omega
                have hp0 : (0 : Int) ≤ p := by omega
                have hvp : 0 ≤ va + 4096 * (p : Int) ∧ va + 4096 * (p : Int) < 4294967296 := by have := HVA.out; omega
                have hwp : IntKind.u32.wrap (4096 * (p : Int)) = 4096 * (p : Int) := by rw [IntKind.wrap_u32]; omega
                have hwq : IntKind.u32.wrap (va + 4096 * (p : Int)) = va + 4096 * (p : Int) := by rw [IntKind.wrap_u32]; omega
                have HVW := hidW (vwalk_any c (va + 4096 * (p : Int)) wr HI.out.1.mem HI.out.1.tab hc hvp)
                rw [HWT.out (va + 4096 * (p : Int)) (by have := HVA.out; omega)] at HVW
                have HGS := hidW (gaT_succ M D va p)
                rw [show va + (p : Int) * 4096 = va + 4096 * (p : Int) by omega] at HGS
                have HWS := hidW (w2_same M D (va + 4096 * (p : Int)))
                obtain ⟨U, F, hw2⟩ : ∃ U F, w2 M D (va + 4096 * (p : Int)) = (U, F) := ⟨_, _, rfl⟩
                rw [hw2] at HVW HGS HWS
                have hlo2 := HI.out.2.1
                have HMI := hidW HI.out.2.2
                have HTI := hidW HI.out.1
                have c1 : ∀ j, wr.cell? ⟨cb, j, none⟩ = [.bool c.on, .bool c.tre, .bool c.afe, .int .i64 c.n, .bool c.pd0, .bool c.pd1, .int .u64 c.b0, .int .u64 c.b1, .int .u32 c.dacr, .int .u32 c.prrr, .int .u32 c.nmrr, .int .i64 c.asid][j]? := fun j => (HTI.out.bel.cell (p := ⟨cb, j, none⟩) (Nat.lt_succ_self _)).trans (HC.out.cell j)
                have eF : ∀ w, (Op.equalIn 10000 32 (.agg #[.int .i64 F.k, .int .i64 F.l, .int .i64 F.d]) (.agg #[.int .i64 0, .int .i64 0, .int .i64 0])).run Tryd.prog w = .ok (F.same fZ) w := eqF F fZ
                clear hw2 HI HT2
                go_wp2_with fail
                go_at_call 16
                refine HVW.out.mono ?_
                rintro e w6 ⟨rfl, hb6⟩
                have hT6 := ((HTI.out.below hb6).below (below_new w6 (.cells #[.int .i64 U.size, .int .u32 U.va, .int .u64 U.pa, .int .i64 U.dom, .int .i64 U.ap, .int .u32 U.bits, .bool U.ng, .bool U.xn] 49))).below (below_new _ (.cells #[.int .i64 F.k, .int .i64 F.l, .int .i64 F.d] 32))
                clear hb6 HVW HTI c1
                by_cases hF : F.same fZ = true
                · rw [hF] at eF
                  have hFk := HWS.out.1 hF
                  have HP := hidW (hT6.put U (by omega))
                  have HG2 : Hid (gaT M D va (p + 1) = gaT M D va p ++ [U]) := hidW (by rw [HGS.out]; rw [if_pos hFk])
                  clear hT6 hF hFk HGS HWS
                  go_wp2_with fail
                  go_at_call 21
                  refine HP.out.mono ?_
                  rintro e w7 ⟨v', rfl, o3, hT7, hm7, hl7⟩
                  have HI2 : Hid (Ts (cb + 1) S rv M o3 v' wa w7 ∧ o3.length ≤ out.length + (p + 1) ∧ ∀ y, y ∈ o3 ↔ y ∈ out ∨ y ∈ gaT M D va (p + 1)) := hidW ⟨hT7, by omega, fun y => by rw [hm7, HMI.out, HG2.out, List.mem_append, List.mem_singleton, or_assoc]⟩
                  clear hT7 hm7 hl7 HP
                  go_wp2
                  go_roundw
                  case rel => exact ⟨p + 1, by omega, by go_num, o3, HI2⟩
                  case measure => simp [intOf]; omega
                · have hFf : F.same fZ = false := by simpa using hF
                  rw [hFf] at eF
                  have hFk : ¬ F.k = 0 := fun h => hF (HWS.out.2 h)
                  have HI2 : Hid (Ts (cb + 1) S rv M o2 u5 wa ((w6.alloc (.cells #[.int .i64 U.size, .int .u32 U.va, .int .u64 U.pa, .int .i64 U.dom, .int .i64 U.ap, .int .u32 U.bits, .bool U.ng, .bool U.xn] 49)).alloc (.cells #[.int .i64 F.k, .int .i64 F.l, .int .i64 F.d] 32)) ∧ o2.length ≤ out.length + (p + 1) ∧ ∀ y, y ∈ o2 ↔ y ∈ out ∨ y ∈ gaT M D va (p + 1)) := hidW ⟨hT6, by omega, fun y => by rw [HMI.out, HGS.out, if_neg hFk, List.append_nil]⟩
                  clear hT6 hF hFk HGS HWS hFf
                  go_wp2
                  go_roundw
                  case rel => exact ⟨p + 1, by omega, by go_num, o2, HI2⟩
                  case measure => simp [intOf]; omega
              · obtain rfl : p = 256 := by omega
                have HF2 : Hid (Fs M c (k + 1) o2) := hidW (HFS.out.step (fun y => by rw [HVA.out, HGT.out]; exact HI.out.2.2 y) (by have := HI.out.2.1; omega))
                have HT5 := hidW HI.out.1
                clear HI
                go_wp2
                go_roundw
                case rel => exact ⟨k + 1, by omega, by go_num, o2, hidW ⟨HT5.out, HF2.out⟩⟩
                case measure => simp [intOf]; omega
          · have hq1 : (D.kind != 1) = true := by simp [hk1]
            by_cases hk2 : D.kind = 0
            · have hq2 : (D.kind != 0) = false := by simp [hk2]
              have HF2 := hidW (HFN.out (HG2.out h0 hk2))
              clear h0 hk1 hk2
              go_wp2
              go_roundw
              case rel => exact ⟨k + 1, by omega, by go_num, out, hidW ⟨HT2.out, HF2.out⟩⟩
              case measure => simp [intOf]; omega
            · have hq2 : (D.kind != 0) = true := by simp [hk2]
              have HGB := hidW (HG3.out h0 hk2 hk1)
              clear h0 hk1 hk2 HG1 HG2 HG3 HG4 HG5
              go_wp2_with fail
              go_at_call 22
              refine (HT.out _).mono ?_
              rintro e w4 ⟨rfl, hb4⟩
              have hT4 := HT2.out.below hb4
              have HP := hidW (hT4.put (trF D 0 va) (by omega))
              generalize trF D 0 va = u at *
              clear hT4 hb4 HT HT2 HEB
              go_wp2_with fail
              go_at_call 21
              refine HP.out.mono ?_
              rintro e w5 ⟨v', rfl, out', hT5, hm5, hl5⟩
              have HF2 : Hid (Fs M c (k + 1) out') := hidW (HFS.out.step (fun y => by rw [hm5, HVA.out, HGB.out]; simp) (by omega))
              have HT5 := hidW hT5
              clear hT5 hm5 hl5 HP
              go_wp2
              go_roundw
              case rel => exact ⟨k + 1, by omega, by go_num, out', hidW ⟨HT5.out, HF2.out⟩⟩
              case measure => simp [intOf]; omega
        · have hq0 : (er != 0) = true := by simp [h0]
          have HF2 := hidW (HFN.out (HG1.out h0))
          go_wp2
          go_roundw
          case rel => exact ⟨k + 1, by omega, by go_num, out, hidW ⟨HT1.out, HF2.out⟩⟩
          case measure => simp [intOf]; omega
    · obtain rfl : k = 4096 := by omega
      have HE := hidW (HS.out.2.all hMO hc HON.out HS.out.1.rise)
      go_wp2
      go_ret
      rw [hwb]
      have ho := HS.out.1.own
      rw [HE.out] at ho
      exact ⟨_, rfl, own_le ho (by omega), HB.out.trans (HS.out.1.bel.mono (by omega))⟩
theorem vblocks_any (c : Ctx) (w : World) {S : Nat → Prop} {rv : Value} {M : Mo} (hm : MemR w S rv M) (hSl : ∀ b, S b → b < w.heap.size) (ht : TW w) (hc : c.Ok) :
    Calls Tryd.prog 8 #[rv, .agg #[.bool c.on, .bool c.tre, .bool c.afe, .int .i64 c.n, .bool c.pd0, .bool c.pd1, .int .u64 c.b0, .int .u64 c.b1, .int .u32 c.dacr, .int .u32 c.prrr, .int .u32 c.nmrr, .int .i64 c.asid]] w fun e w' => ∃ v, e = .returned v ∧ w'.ownsRow w.heap.size 49 8 v (blL M c).length (rowT (blL M c)) ∧ Below w.heap.size w w' := by
  cases hon : c.on with
  | true => have := vblocks_on c w hm hSl ht hc hon; rw [hon] at this; exact this
  | false =>
    have := vblocks_off c w rv hon
    rw [hon] at this
    refine this.mono ?_
    rintro e w' ⟨rfl, hb⟩
    have h0 : blL M c = [] := by unfold blL; rw [hon]; rfl
    rw [h0]
    exact ⟨_, rfl, World.ownsRow_nil _ _ _ _, hb⟩
end Go.Proofs.YtmodcbdgnmjkoabDoor

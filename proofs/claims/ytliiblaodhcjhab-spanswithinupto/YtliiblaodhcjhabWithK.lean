import Derived.RangeFuncNested
import Derived.RangeFuncBound
import Derived.RangeFuncCalls
import Derived.RangeFuncLeaves
import Derived.RangeFuncBox
import Derived.Shelf.Abstract
import Derived.Shelf.RegionOpen
import Derived.WalkKit
import Derived.OwnWalkIn
import Derived.TacticsInMore
import Derived.LoopNIn
import Derived.LoopIn
import Derived.ControlIn
import Derived.Test.YtliiblaodhcjhabWithP
namespace Go.Proofs.Ytliiblaodhcjhab
open Go.RowKit Go.Shelf
set_option linter.unusedVariables false
attribute [local go_sem] Oper.semAt_some

theorem Hid.mk2 {p : Prop} (h : p) : Hid p := h

/-- The block that the list in a cell lies in. -/
def blkAt (W : World) (p : Nat) : Option Nat := match W.cell? ⟨p, 0, none⟩ with
  | some v => v.ownBlock
  | none => none

/-- What a round keeps: all cells but those of the box B, of the box p and of the list in p. -/
structure KpS (B p : Nat) (W W' : World) : Prop where
  size : W.heap.size ≤ W'.heap.size
  blk : blkAt W' p = blkAt W p ∨ ∀ g, blkAt W' p = some g → W.heap.size ≤ g
  same : ∀ g o, W.heap[g]? = some o → o.isCells = true → g ≠ B → g ≠ p → blkAt W p ≠ some g → W'.heap[g]? = some o

theorem KpS.refl (B p : Nat) (W : World) : KpS B p W W := ⟨Nat.le_refl _, .inl rfl, fun g o h _ _ _ _ => h⟩
theorem KpS.trans {B p : Nat} {X Y Z : World} (h : KpS B p X Y) (k : KpS B p Y Z) : KpS B p X Z := by
  refine ⟨Nat.le_trans h.size k.size, ?_, fun g o hg ho h1 h2 h3 => ?_⟩
  · rcases k.blk with e | e
    · rcases h.blk with e' | e'
      · exact .inl (e.trans e')
      · exact .inr (fun g hg => e' g (by rw [← e]; exact hg))
    · exact .inr (fun g hg => Nat.le_trans h.size (e g hg))
  · have hlt := (Array.getElem?_eq_some_iff.1 hg).1
    refine k.same g o (h.same g o hg ho h1 h2 h3) ho h1 h2 (fun e => ?_)
    rcases h.blk with e' | e'
    · rw [e'] at e
      exact h3 e
    · have := e' g e
      omega
theorem KpS.put {B p : Nat} {w : World} (hp : p < w.heap.size) (W : World) (l : Nat) (o o' : Obj) (hl : w.heap.size ≤ l) (h : W.heap[l]? = some o) (ho : o.isCells = false) (_ : o.isWalk = false) : KpS B p W (W.putObj l o') := by
  have hg := grownBy_putObj' W l o'
  have hne : p ≠ l := by omega
  have hlt := (Array.getElem?_eq_some_iff.1 h).1
  refine ⟨hg.size, .inl ?_, fun g q hq hc _ _ _ => ?_⟩
  · rw [blkAt, blkAt, World.cell?_of_block (w := W) (a := ⟨p, 0, none⟩) (hg.block p (by omega) (by simp; omega))]
  · by_cases e : g = l
    · subst e
      rw [h] at hq
      cases hq
      rw [ho] at hc
      cases hc
    · rw [hg.block g (Array.getElem?_eq_some_iff.1 hq).1 (by simp; exact e)]
      exact hq

/-- A block that a round keeps. -/
structure Prot (B p : Nat) (W : World) (g : Nat) : Prop where
  cells : ∃ o, W.heap[g]? = some o ∧ o.isCells = true
  box : g ≠ B
  own : g ≠ p
  blk : blkAt W p ≠ some g
theorem Prot.lt {B p : Nat} {W : World} {g : Nat} (h : Prot B p W g) : g < W.heap.size := by
  obtain ⟨o, ho, _⟩ := h.cells
  exact (Array.getElem?_eq_some_iff.1 ho).1
theorem Prot.kept {B p : Nat} {W W' : World} {g : Nat} (h : Prot B p W g) (k : KpS B p W W') : W'.heap[g]? = W.heap[g]? ∧ Prot B p W' g := by
  obtain ⟨o, ho, hc⟩ := h.cells
  have h1 := k.same g o ho hc h.box h.own h.blk
  refine ⟨h1.trans ho.symm, ⟨⟨o, h1, hc⟩, h.box, h.own, fun e => ?_⟩⟩
  rcases k.blk with e' | e'
  · rw [e'] at e
    exact h.blk e
  · have := e' g e
    have := h.lt
    omega
theorem blk_below {W W' : World} {p : Nat} (hp : p < W.heap.size) (hb : Below W.heap.size W W') : blkAt W' p = blkAt W p := by
  rw [blkAt, blkAt, hb.cell (p := ⟨p, 0, none⟩) hp]
theorem Prot.below {B p : Nat} {W W' : World} {g : Nat} (h : Prot B p W g) (hp : p < W.heap.size) (hb : Below W.heap.size W W') : Prot B p W' g := by
  obtain ⟨o, ho, hc⟩ := h.cells
  exact ⟨⟨o, by rw [hb.block g h.lt]; exact ho, hc⟩, h.box, h.own, by rw [blk_below hp hb]; exact h.blk⟩
theorem Prot.cell {B p : Nat} {W W' : World} {g : Nat} (h : Prot B p W g) (k : KpS B p W W') (o : Nat) : W'.cell? ⟨g, o, none⟩ = W.cell? ⟨g, o, none⟩ := World.cell?_of_block (w := W) (h.kept k).1

set_option maxHeartbeats 4000000 in
set_option maxRecDepth 100000 in
/-- slices.Clone of a part. -/
theorem clone_gen (W : World) (a : Option Addr) (m cap : Nat) (L : List (Sp Int)) (hm : L.length = m) (hc : ∀ j u, (cellsL L)[j]? = some u → ∃ g o, a = some ⟨g, o, none⟩ ∧ W.cell? ⟨g, o + j, none⟩ = some u ∧ g < W.heap.size) (hby : L.length ≤ 9000000) :
    Calls Try.prog 39 #[.slice a m cap] W fun e W' => ∃ v', e = .returned v' ∧ Ls W' W.heap.size v' L ∧ Below W.heap.size W W' := by
  obtain ⟨inf, hi0, hz0, hzs, hzb⟩ := info_parts infoEL
  have hnil : ∀ (a : Option Addr) (n c : Nat) (w : World), (binOp .eql 39 (.slice a n c) (.slice none 0 0)).run Try.prog w = .ok (.bool a.isNone) w := fun a n c w => Lib.run_eql_slice_nil w 39 45 a n c 0 0 Try.underlying39
  cases a with
  | none =>
    obtain rfl : L = [] := by
      cases L with
      | nil => rfl
      | cons s r =>
        obtain ⟨g, o, e, _⟩ := hc 0 (.int .u64 s.lo) rfl
        cases e
    clear hc
    go_enter Try.func39, Try.ntmps39
    go_wp2
    go_ret
    exact ⟨_, rfl, World.ownsRow_nil _ _ _ _, Below.refl _ _⟩
  | some ad =>
    obtain ⟨W1, hW1⟩ : ∃ W1, W1 = W.alloc (.cells #[] 45) := ⟨_, rfl⟩
    have hB1 : Below W.heap.size W W1 := by rw [hW1]; exact (Below.refl _ W).alloc (Nat.le_refl _) _
    have hrow : RowAt W1 W.heap.size 45 [] := by rw [hW1]; exact heap_alloc_new W _
    have hsz1 : W1.heap.size = W.heap.size + 1 := by rw [hW1]; simp
    have hsrc : Src Try.prog 3 39 (.slice (some ad) m cap) m (cellsL L) W1 := by
      refine Src.ofSlice W1 Try.underlying39 ad m cap _ (by rw [cellsL_len, hm]) (fun j u hj => ?_) (cellsL_one L)
      obtain ⟨g, o, e, h1, h2⟩ := hc j u hj
      cases e
      rw [Addr.add_lit, hB1.cell h2]
      exact h1
    obtain ⟨v', W2, hr, ho, hg, hb⟩ := append_any (P := Try.prog) W1 39 45 inf _ Try.underlying39 hi0 hz0 (by rw [hzs]; rfl) W.heap.size 0 m (.slice (some ⟨W.heap.size, 0, none⟩) 0 0) (.slice (some ad) m cap) [] (cellsL L)
      (own_of_row hrow (Nat.le_refl _) (Nat.le_refl _) (by decide) (by simp) (by simp)) (by rw [hzs]; exact hsrc) (by omega) (by unfold maxLen; omega) (by rw [hzb]; omega)
    rw [hzs, Nat.zero_add, List.nil_append] at ho
    have hgr : W.grownBy W2 none := grownBy_new (below_grown hB1) hg (Nat.le_refl _)
    have HO : Hid (Ls W2 W.heap.size v' L) := by rw [Ls, hm]; exact ho
    clear hc hsrc ho
    go_enter Try.func39, Try.ntmps39
    go_wp2_with (at_builtin; refine Lib.wpList_append_run _ rfl _ _ 39 39 rfl _ _ rfl rfl _ _ (by rw [← hW1]; exact hr _) ?_)
    go_ret
    exact ⟨v', rfl, HO.out, grown_below hgr⟩

theorem Ls.tl' {W : World} {lo : Nat} {a : Option Addr} {n cap : Nat} {L : List (Sp Int)} (h : Ls W lo (.slice a n cap) L) (i : Nat) (s : Sp Int) (hs : L[i]? = some s) : ∃ g, a = some ⟨g, 0, none⟩ ∧ W.cell? ⟨g, i * 3, none⟩ = some (.int .u64 s.lo) ∧ W.cell? ⟨g, i * 3 + 1, none⟩ = some (.int .u64 s.hi) ∧ W.cell? ⟨g, i * 3 + 2, none⟩ = some (.int .i64 s.val) := by
  rcases h.view with ⟨_, h2⟩ | ⟨g, cap, h1, h2, h3, h4, h5, h6⟩
  · rw [h2] at hs
    simp at hs
  · have q0 := h6 i s hs 0 (by omega)
    have q1 := h6 i s hs 1 (by omega)
    have q2 := h6 i s hs 2 (by omega)
    simp only [encS, Nat.add_zero, List.getElem?_cons_zero, List.getElem?_cons_succ] at q0 q1 q2
    exact ⟨g, (Value.slice.inj h1).1, q0, q1, q2⟩

/-- What the iterator reads between two rounds. -/
structure Met (B p Blo Bhi : Nat) (lo hi : Int) (la : Option Addr) (M : List (Sp Int)) (w : World) : Prop where
  own : p < w.heap.size
  lo : Prot B p w Blo ∧ w.cell? ⟨Blo, 0, none⟩ = some (.int .u64 lo)
  hi : Prot B p w Bhi ∧ w.cell? ⟨Bhi, 0, none⟩ = some (.int .u64 hi)
  met : ∀ q s, M[q]? = some s → ∃ g, la = some ⟨g, 0, none⟩ ∧ Prot B p w g ∧ w.cell? ⟨g, q * 3, none⟩ = some (.int .u64 s.lo) ∧ w.cell? ⟨g, q * 3 + 1, none⟩ = some (.int .u64 s.hi) ∧ w.cell? ⟨g, q * 3 + 2, none⟩ = some (.int .i64 s.val)
theorem Met.below {B p Blo Bhi : Nat} {lo hi : Int} {la : Option Addr} {M : List (Sp Int)} {w w' : World} (h : Met B p Blo Bhi lo hi la M w) (hb : Below w.heap.size w w') : Met B p Blo Bhi lo hi la M w' := by
  obtain ⟨hc, _⟩ := bcell hb
  refine ⟨Nat.lt_of_lt_of_le h.own hb.size, ⟨h.lo.1.below h.own hb, by rw [hc _ _ h.lo.1.lt]; exact h.lo.2⟩, ⟨h.hi.1.below h.own hb, by rw [hc _ _ h.hi.1.lt]; exact h.hi.2⟩, fun q s hs => ?_⟩
  obtain ⟨g, h1, h2, h3, h4, h5⟩ := h.met q s hs
  exact ⟨g, h1, h2.below h.own hb, by rw [hc _ _ h2.lt]; exact h3, by rw [hc _ _ h2.lt]; exact h4, by rw [hc _ _ h2.lt]; exact h5⟩
theorem Met.kept {B p Blo Bhi : Nat} {lo hi : Int} {la : Option Addr} {M : List (Sp Int)} {w w' : World} (h : Met B p Blo Bhi lo hi la M w) (k : KpS B p w w') : Met B p Blo Bhi lo hi la M w' := by
  refine ⟨Nat.lt_of_lt_of_le h.own k.size, ⟨(h.lo.1.kept k).2, by rw [h.lo.1.cell k]; exact h.lo.2⟩, ⟨(h.hi.1.kept k).2, by rw [h.hi.1.cell k]; exact h.hi.2⟩, fun q s hs => ?_⟩
  obtain ⟨g, h1, h2, h3, h4, h5⟩ := h.met q s hs
  exact ⟨g, h1, (h2.kept k).2, by rw [h2.cell k]; exact h3, by rw [h2.cell k]; exact h4, by rw [h2.cell k]; exact h5⟩

set_option maxRecDepth 100000 in
set_option maxHeartbeats 4000000 in
theorem with1 (n l Blo Bhi Bm lo0 p q : Nat) (v : Value) (L : List (Sp Int)) (lo hi : Int) (N : Nat) (B : Nat) (J Jx : List (Sp Int) → World → Prop) (W : World)
    (hY : ∀ pre x W1, J pre W1 → pre.length < N → YieldAt Fence.wide (n - 1) Try.prog l #[.agg #[.int .u64 x.lo, .int .u64 x.hi, .int .i64 x.val]] W1 fun e W' =>
      (e = .returned (.bool true) ∧ J (pre ++ [x]) W' ∧ KpS B q W1 W') ∨ (e = .returned (.bool false) ∧ Jx (pre ++ [x]) W'))
    (hJ : AbidesFrom W.heap.size J) (hM : MapAt W lo0 p v L) (hl : L.length ≤ 3000000) (hN : (withinL lo hi L).length ≤ N) (hlh : lo ≤ hi)
    (hBl : B < W.heap.size) (kq : q < W.heap.size) (hqb : ∀ g, blkAt W q = some g → g < W.heap.size) (pl : Prot B q W Blo) (ph : Prot B q W Bhi) (b1 : W.cell? ⟨Blo, 0, none⟩ = some (.int .u64 lo)) (b2 : W.cell? ⟨Bhi, 0, none⟩ = some (.int .u64 hi)) (b3 : W.cell? ⟨Bm, 0, none⟩ = some (.pointer (some ⟨p, 0, none⟩))) (h0 : J [] W) :
    CallsIn Fence.wide n Try.prog 38 #[.func (.yield l) #[] #[], .pointer (some ⟨Blo, 0, none⟩), .pointer (some ⟨Bhi, 0, none⟩), .pointer (some ⟨Bm, 0, none⟩)] W fun e W' => (∃ v, e = .returned v) ∧
      ((∃ ys, ys = withinL lo hi L ∧ J ys W') ∨ (∃ pre, pre <+: withinL lo hi L ∧ Jx pre W')) := by
  refine callsIn_of_wp Try.func38 rfl trivial ?_ rfl
  simp only [Try.ntmps38, List.size_toArray, List.length_cons, List.length_nil, Nat.reduceAdd, Nat.reduceSub, Array.replicate_succ, Array.replicate_zero, List.push_toArray, List.append_toArray, List.nil_append, List.cons_append]
  have hlh' : ¬ hi < lo := by omega
  have hii := ei_le_sa hM.good (lo := lo) (hi := hi) (by omega)
  have hjj := sa_le L hi
  have HW : Hid (withinL lo hi L = ((L.drop (ei L lo)).take (sa L hi - ei L lo)).map (cutW lo hi)) := within_mid hM.good hlh
  have hE := ends_any W.drew lo0 p v L lo (hM.keep (Below.refl _ _).drew) (by omega)
  have hS : ∀ w, Below W.heap.size W w → Calls Try.prog 41 #[.pointer (some ⟨p, 0, none⟩), .int .u64 hi] w fun e W' => e = .returned (.int .i64 (sa L hi)) ∧ Below w.heap.size w W' := fun w hw => starts_any w lo0 p v L hi (hM.keep hw) (by omega)
  have hpc : W.cell? ⟨p, 0, none⟩ = some v := hM.cell
  have k1 := World.block_lt_of_cell? W _ b1
  have k2 := World.block_lt_of_cell? W _ b2
  have k3 := World.block_lt_of_cell? W _ b3
  have k4 := hM.lt
  have hd0 : Below W.heap.size W W.drew := (Below.refl _ _).drew
  generalize hei : ei L lo = ii at *
  generalize hsa : sa L hi = jj at *
  have HMD : Hid (((L.drop ii).take (jj - ii)).length = jj - ii) := by
    show _ = _
    rw [List.length_take, List.length_drop]
    omega
  rcases hM.own.view with ⟨rfl, rfl⟩ | ⟨g, cap, rfl, hg1, hg2, hcap, hcap2, hcell⟩
  · simp only [List.length_nil] at hjj
    obtain rfl : jj = 0 := by omega
    obtain rfl : ii = 0 := by omega
    have HC : Hid (∀ w, Calls Try.prog 39 #[.slice none 0 0] w fun e W' => ∃ v', e = .returned v' ∧ Ls W' w.heap.size v' ([] : List (Sp Int)) ∧ Below w.heap.size w W') := fun w => clone_gen w none 0 0 [] rfl (fun j u hj => by simp [cellsL] at hj) (by simp)
    gi_wp2
    refine wpIn_wide.2 ?_
    go_region_held3 (fun w' => w'.cell? ⟨Bm, 0, none⟩ = some (.pointer (some ⟨p, 0, none⟩)) ∧ w'.cell? ⟨p, 0, none⟩ = some (.slice none 0 0) ∧ w'.cell? ⟨Blo, 0, none⟩ = some (.int .u64 lo) ∧ w'.cell? ⟨Bhi, 0, none⟩ = some (.int .u64 hi)) (first | go_keep | exact hcs)
      ((first
        | (go_at_call 40; refine hE.mono ?_; rintro e wE ⟨rfl, hbE⟩; clear hE; have hBE := below_go hd0 hbE; have hcs := (⟨((bcell hBE).1 _ _ k3).trans b3, ((bcell hBE).1 _ _ k4).trans hpc, ((bcell hBE).1 _ _ k1).trans b1, ((bcell hBE).1 _ _ k2).trans b2⟩ : wE.cell? ⟨Bm, 0, none⟩ = some (.pointer (some ⟨p, 0, none⟩)) ∧ wE.cell? ⟨p, 0, none⟩ = some (.slice none 0 0) ∧ wE.cell? ⟨Blo, 0, none⟩ = some (.int .u64 lo) ∧ wE.cell? ⟨Bhi, 0, none⟩ = some (.int .u64 hi)))
        | (go_at_call 41; refine (hS _ hBE).mono ?_; rintro e wS ⟨rfl, hbS⟩; clear hS; have hBS := below_go hBE hbS; have hcs := (⟨((bcell hBS).1 _ _ k3).trans b3, ((bcell hBS).1 _ _ k4).trans hpc, ((bcell hBS).1 _ _ k1).trans b1, ((bcell hBS).1 _ _ k2).trans b2⟩ : wS.cell? ⟨Bm, 0, none⟩ = some (.pointer (some ⟨p, 0, none⟩)) ∧ wS.cell? ⟨p, 0, none⟩ = some (.slice none 0 0) ∧ wS.cell? ⟨Blo, 0, none⟩ = some (.int .u64 lo) ∧ wS.cell? ⟨Bhi, 0, none⟩ = some (.int .u64 hi)))
        | (go_at_call 39; refine (HC.out _).mono ?_; rintro e wC ⟨vC, rfl, hLC, hbC⟩; have hBC := below_go hBS hbC; have hcs := (⟨((bcell hBC).1 _ _ k3).trans b3, ((bcell hBC).1 _ _ k4).trans hpc, ((bcell hBC).1 _ _ k1).trans b1, ((bcell hBC).1 _ _ k2).trans b2⟩ : wC.cell? ⟨Bm, 0, none⟩ = some (.pointer (some ⟨p, 0, none⟩)) ∧ wC.cell? ⟨p, 0, none⟩ = some (.slice none 0 0) ∧ wC.cell? ⟨Blo, 0, none⟩ = some (.int .u64 lo) ∧ wC.cell? ⟨Bhi, 0, none⟩ = some (.int .u64 hi)))))
    obtain ⟨la, lc, hvC⟩ := slice_form hLC
    simp only [List.length_nil] at hvC
    subst hvC
    have HJC : Hid (J [] wC) := hJ [] W wC none h0 (below_grown hBC) (fun r e => by cases e)
    clear hcs hLC hbC hBC hBS hbS hbE hBE
    gi_wp2
    gi_loopw [25] (fun i wr => i = .int .i64 0 ∧ Hid (J [] wr)) (fun _ _ => 0)
    case atStart => exact ⟨rfl, HJC⟩
    case round =>
      obtain ⟨rfl, HJ⟩ := hrel
      gi_wp2
      go_end0
      exact ⟨⟨_, rfl⟩, .inl ⟨_, rfl, HJ.out⟩⟩
  · have HC : Hid (∀ w, Below W.heap.size W w → Calls Try.prog 39 #[.slice (if cap = ii then some ⟨g, 0, none⟩ else some ⟨g, ii * 3, none⟩) (jj - ii) (cap - ii)] w fun e W' => ∃ v', e = .returned v' ∧ Ls W' w.heap.size v' ((L.drop ii).take (jj - ii)) ∧ Below w.heap.size w W') := fun w hw => clone_gen w _ _ _ _ HMD.out (fun j u hj => by
      have hlt : j < (jj - ii) * 3 := by
        have := (List.getElem?_eq_some_iff.1 hj).1
        rw [cellsL_len, HMD.out] at this
        exact this
      obtain ⟨s, hs⟩ : ∃ s, ((L.drop ii).take (jj - ii))[j / 3]? = some s := ⟨_, List.getElem?_eq_getElem (by rw [HMD.out]; omega)⟩
      have hsL : L[ii + j / 3]? = some s := by
        rw [List.getElem?_take, if_pos (by omega), List.getElem?_drop] at hs
        exact hs
      have h3 := hcell (ii + j / 3) s hsL (j % 3) (Nat.mod_lt _ (by decide))
      have h4 := cat_at encS 3 (fun _ => rfl) hs (j % 3) (Nat.mod_lt _ (by decide))
      rw [show j / 3 * 3 + j % 3 = j by omega, show (((L.drop ii).take (jj - ii)).flatMap encS)[j]? = some u from hj] at h4
      refine ⟨g, ii * 3, by rw [if_neg (by omega)], ?_, Nat.lt_of_lt_of_le hg2 hw.size⟩
      rw [hw.cell hg2, show ii * 3 + j = (ii + j / 3) * 3 + j % 3 by omega, h3, h4]) (by rw [HMD.out]; omega)
    have z1 : (0 : Int) ≤ (ii : Int) := by omega
    have z2 : (ii : Int) ≤ (jj : Int) := by omega
    have z3 : (jj : Int) ≤ (cap : Int) := by omega
    have z4 : (ii : Int) ≤ (cap : Int) := by omega
    obtain ⟨ad, had⟩ : ∃ ad, (if cap = ii then some (⟨g, 0, none⟩ : Addr) else some ⟨g, ii * 3, none⟩) = some ad := by
      by_cases h : cap = ii
      · exact ⟨_, if_pos h⟩
      · exact ⟨_, if_neg h⟩
    rw [had] at HC
    clear hcell
    gi_wp2
    refine wpIn_wide.2 ?_
    go_region_held3 (fun w' => w'.cell? ⟨Bm, 0, none⟩ = some (.pointer (some ⟨p, 0, none⟩)) ∧ w'.cell? ⟨p, 0, none⟩ = some (.slice (some ⟨g, 0, none⟩) L.length cap) ∧ w'.cell? ⟨Blo, 0, none⟩ = some (.int .u64 lo) ∧ w'.cell? ⟨Bhi, 0, none⟩ = some (.int .u64 hi)) (first | go_keep | exact hcs)
      ((first
        | (go_at_call 40; refine hE.mono ?_; rintro e wE ⟨rfl, hbE⟩; clear hE; have hBE := below_go hd0 hbE; have hcs := (⟨((bcell hBE).1 _ _ k3).trans b3, ((bcell hBE).1 _ _ k4).trans hpc, ((bcell hBE).1 _ _ k1).trans b1, ((bcell hBE).1 _ _ k2).trans b2⟩ : wE.cell? ⟨Bm, 0, none⟩ = some (.pointer (some ⟨p, 0, none⟩)) ∧ wE.cell? ⟨p, 0, none⟩ = some (.slice (some ⟨g, 0, none⟩) L.length cap) ∧ wE.cell? ⟨Blo, 0, none⟩ = some (.int .u64 lo) ∧ wE.cell? ⟨Bhi, 0, none⟩ = some (.int .u64 hi)))
        | (go_at_call 41; refine (hS _ hBE).mono ?_; rintro e wS ⟨rfl, hbS⟩; clear hS; have hBS := below_go hBE hbS; have hcs := (⟨((bcell hBS).1 _ _ k3).trans b3, ((bcell hBS).1 _ _ k4).trans hpc, ((bcell hBS).1 _ _ k1).trans b1, ((bcell hBS).1 _ _ k2).trans b2⟩ : wS.cell? ⟨Bm, 0, none⟩ = some (.pointer (some ⟨p, 0, none⟩)) ∧ wS.cell? ⟨p, 0, none⟩ = some (.slice (some ⟨g, 0, none⟩) L.length cap) ∧ wS.cell? ⟨Blo, 0, none⟩ = some (.int .u64 lo) ∧ wS.cell? ⟨Bhi, 0, none⟩ = some (.int .u64 hi)))
        | (go_at_call 39; refine (HC.out _ hBS).mono ?_; rintro e wC ⟨vC, rfl, hLC, hbC⟩; have hBC := below_go hBS hbC; have hcs := (⟨((bcell hBC).1 _ _ k3).trans b3, ((bcell hBC).1 _ _ k4).trans hpc, ((bcell hBC).1 _ _ k1).trans b1, ((bcell hBC).1 _ _ k2).trans b2⟩ : wC.cell? ⟨Bm, 0, none⟩ = some (.pointer (some ⟨p, 0, none⟩)) ∧ wC.cell? ⟨p, 0, none⟩ = some (.slice (some ⟨g, 0, none⟩) L.length cap) ∧ wC.cell? ⟨Blo, 0, none⟩ = some (.int .u64 lo) ∧ wC.cell? ⟨Bhi, 0, none⟩ = some (.int .u64 hi)))))
    obtain ⟨la, lc, hvC⟩ := slice_form hLC
    rw [HMD.out] at hvC
    subst hvC
    have hJC : J [] wC := hJ [] W wC none h0 (below_grown hBC) (fun r e => by cases e)
    have hsWS := hBS.size
    have HMet : Hid (Met B q Blo Bhi lo hi la ((L.drop ii).take (jj - ii)) wC) := by
      refine ⟨Nat.lt_of_lt_of_le kq hBC.size, ⟨pl.below kq hBC, ((bcell hBC).1 _ _ k1).trans b1⟩, ⟨ph.below kq hBC, ((bcell hBC).1 _ _ k2).trans b2⟩, fun y s hs => ?_⟩
      rcases row_of_own hLC with ⟨_, h1, _⟩ | ⟨gm, cm, cur, hv, a, b, _⟩
      · rw [List.eq_nil_of_length_eq_zero h1] at hs
        simp at hs
      · have hv1 := (Value.slice.inj hv).1
        have hcl := Ls.tl' hLC y s hs
        obtain ⟨gm', e1, e2, e3, e4⟩ := hcl
        rw [hv1] at e1
        cases e1
        refine ⟨gm, hv1, ⟨⟨_, b, rfl⟩, by omega, by omega, ?_⟩, e2, e3, e4⟩
        rw [blk_below kq hBC]
        intro e
        have := hqb gm e
        omega
    have HJC : Hid (J [] wC) := hJC
    generalize hMM : (L.drop ii).take (jj - ii) = M at *
    have hsWC := hBC.size
    have HNl : Hid (jj - ii ≤ N) := by
      show jj - ii ≤ N
      rw [HW.out, List.length_map, HMD.out] at hN
      exact hN
    clear hMM hcs hLC hbC hBC hBS hbS hbE hBE hJC
    generalize hmm : jj - ii = mm at *
    have hmb : mm ≤ 3000000 := by omega
    clear hmm
    gi_wp2
    gi_loopw [25] (fun i wr => ∃ k : Nat, k ≤ mm ∧ i = .int .i64 k ∧ Hid (J ((M.take k).map (cutW lo hi)) wr) ∧ Hid (Met B q Blo Bhi lo hi la M wr ∧ W.heap.size ≤ wr.heap.size)) (fun i _ => mm - (intOf i).toNat)
    case atStart => exact ⟨0, Nat.zero_le _, rfl, HJC, ⟨HMet.out, hsWC⟩⟩
    case round =>
      obtain ⟨k, hk, rfl, HJ, HT⟩ := hrel
      by_cases hlt : k < mm
      · obtain ⟨s, hs⟩ : ∃ s, M[k]? = some s := ⟨_, List.getElem?_eq_getElem (by rw [HMD.out]; exact hlt)⟩
        obtain ⟨gm, rfl, hpr, f0, f1, f2⟩ := HT.out.1.met k s hs
        have c1 := HT.out.1.lo.2
        have c2 := HT.out.1.hi.2
        have l1 := HT.out.1.lo.1.lt
        have l2 := HT.out.1.hi.1.lt
        have hkz : (k : Int) < (mm : Int) := by omega
        have hk0 : (0 : Int) ≤ (k : Int) := by omega
        gi_wp2
        refine wpIn_wide.2 ?_
        go_big_region
        obtain ⟨wy, hwy⟩ : ∃ wy, wy = (wr.alloc (.cells #[.int .u64 (if s.lo < lo then lo else s.lo), .int .u64 (if hi < s.hi then hi else s.hi), .int .i64 s.val] 45)).drew := ⟨_, rfl⟩
        rw [← hwy]
        have hby : Below wr.heap.size wr wy := by rw [hwy]; exact (below_alloc (Below.refl _ wr) _).drew
        have y0 : wy.cell? ⟨wr.heap.size, 0, none⟩ = some (.int .u64 (if s.lo < lo then lo else s.lo)) := by rw [hwy]; simp [go_sem]
        have y1 : wy.cell? ⟨wr.heap.size, 1, none⟩ = some (.int .u64 (if hi < s.hi then hi else s.hi)) := by rw [hwy]; simp [go_sem]
        have y2 : wy.cell? ⟨wr.heap.size, 2, none⟩ = some (.int .i64 s.val) := by rw [hwy]; simp [go_sem]
        have hJy : J ((M.take k).map (cutW lo hi)) wy := hJ _ wr wy none HJ.out (below_grown hby) (fun r e => by cases e)
        have HTy := Hid.mk2 (HT.out.1.below hby)
        have HNl' := HNl.out
        have hszy := hby.size
        have hszW := HT.out.2
        have HTS : Hid ((M.take (k + 1)).map (cutW lo hi) = (M.take k).map (cutW lo hi) ++ [cutW lo hi s]) := by
          have hk' : k < M.length := (List.getElem?_eq_some_iff.1 hs).1
          have ho' : M[k] = s := (List.getElem?_eq_some_iff.1 hs).2
          show _ = _
          rw [List.take_succ_eq_append_getElem hk', ho', List.map_append]
          rfl
        obtain ⟨fn, tmps, assign, body, hy, hR⟩ := hY _ (cutW lo hi s) wy hJy (by rw [List.length_map, List.length_take, HMD.out]; omega)
        simp only [cutW] at hy
        have HJy := Hid.mk2 hJy
        clear hwy hJy HT HJ hs hby f0 f1 f2
        generalize (if s.lo < lo then lo else s.lo) = x0 at *
        generalize (if hi < s.hi then hi else s.hi) = x1 at *
        gi_wp2
        refine ⟨fun h => by simp [Fence.wide] at h, hR.mono ?_⟩
        rintro e W3 (⟨rfl, hJ3, hk3⟩ | ⟨rfl, hJx3⟩)
        · have hs3 := hk3.size
          have HJ3 := Hid.mk2 hJ3
          have HT3 := Hid.mk2 (HTy.out.kept hk3)
          clear hR hJ3 hk3
          gi_wp2
          go_roundw
          case rel => exact ⟨k + 1, by omega, by simp, by rw [HTS.out]; exact HJ3, ⟨HT3.out, by omega⟩⟩
          case measure => simp [intOf]; omega
        · gi_wp2
          refine bodyPost_ret (results_none rfl _ _ _) rfl ?_
          refine ⟨⟨_, rfl⟩, .inr ⟨_, ?_, hJx3⟩⟩
          rw [HW.out, ← HTS.out]
          exact (List.take_prefix _ _).map _
      · obtain rfl : k = mm := by omega
        have HE : Hid (M.take k = M) := by
          show _ = _
          rw [← HMD.out]
          exact List.take_length
        gi_wp2
        go_end0
        refine ⟨⟨_, rfl⟩, .inl ⟨_, rfl, ?_⟩⟩
        have hj := HJ.out
        rw [HE.out] at hj
        rw [HW.out]
        exact hj

set_option maxRecDepth 100000 in
set_option maxHeartbeats 2000000 in
theorem with0 (n l Blo Bhi Bm : Nat) (lo hi : Int) (J : List (Sp Int) → World → Prop) (W : World) (hlh : ¬ lo ≤ hi)
    (b1 : W.cell? ⟨Blo, 0, none⟩ = some (.int .u64 lo)) (b2 : W.cell? ⟨Bhi, 0, none⟩ = some (.int .u64 hi)) (h0 : J [] W) :
    CallsIn Fence.wide n Try.prog 38 #[.func (.yield l) #[] #[], .pointer (some ⟨Blo, 0, none⟩), .pointer (some ⟨Bhi, 0, none⟩), .pointer (some ⟨Bm, 0, none⟩)] W fun e W' => (∃ v, e = .returned v) ∧ J [] W' := by
  refine callsIn_of_wp Try.func38 rfl trivial ?_ rfl
  simp only [Try.ntmps38, List.size_toArray, List.length_cons, List.length_nil, Nat.reduceAdd, Nat.reduceSub, Array.replicate_succ, Array.replicate_zero, List.push_toArray, List.append_toArray, List.nil_append, List.cons_append]
  have hlh' : hi < lo := by omega
  gi_wp2
  refine bodyPost_ret (results_none rfl _ _ _) rfl ?_
  exact ⟨⟨_, rfl⟩, h0⟩

/-- What Within goes through. -/
def goesL (lo hi : Int) (L : List (Sp Int)) : List (Sp Int) := if lo ≤ hi then withinL lo hi L else []

theorem with_stops (n Blo Bhi Bm lo0 p q B : Nat) (v : Value) (L : List (Sp Int)) (lo hi : Int) (w : World) (hM : MapAt w lo0 p v L) (hl : L.length ≤ 3000000) (hBl : B < w.heap.size) (kq : q < w.heap.size) (hqb : ∀ g, blkAt w q = some g → g < w.heap.size) (pl : Prot B q w Blo) (ph : Prot B q w Bhi)
    (b1 : w.cell? ⟨Blo, 0, none⟩ = some (.int .u64 lo)) (b2 : w.cell? ⟨Bhi, 0, none⟩ = some (.int .u64 hi)) (b3 : w.cell? ⟨Bm, 0, none⟩ = some (.pointer (some ⟨p, 0, none⟩))) :
    SeqStopsK Fence.wide n Try.prog 38 #[.pointer (some ⟨Blo, 0, none⟩), .pointer (some ⟨Bhi, 0, none⟩), .pointer (some ⟨Bm, 0, none⟩)] (fun x : Sp Int => #[.agg #[.int .u64 x.lo, .int .u64 x.hi, .int .i64 x.val]]) (KpS B q) (fun ys => ys = goesL lo hi L) (fun pre => pre <+: goesL lo hi L) (goesL lo hi L).length w := by
  intro l J Jx W hW hJ hJx hY h0
  have k3 := World.block_lt_of_cell? w _ b3
  have c1 := (hW.cell (p := ⟨Blo, 0, none⟩) pl.lt).trans b1
  have c2 := (hW.cell (p := ⟨Bhi, 0, none⟩) ph.lt).trans b2
  have c3 := (hW.cell (p := ⟨Bm, 0, none⟩) k3).trans b3
  by_cases hlh : lo ≤ hi
  · rw [goesL, if_pos hlh] at hY ⊢
    exact with1 n l Blo Bhi Bm lo0 p q v L lo hi (withinL lo hi L).length B J Jx W hY hJ (hM.keep hW) hl (Nat.le_refl _) hlh (Nat.lt_of_lt_of_le hBl hW.size) (Nat.lt_of_lt_of_le kq hW.size) (fun g hg => Nat.lt_of_lt_of_le (hqb g (by rw [← blk_below kq hW]; exact hg)) hW.size) (pl.below kq hW) (ph.below kq hW) c1 c2 c3 h0
  · rw [goesL, if_neg hlh] at hY ⊢
    refine (with0 n l Blo Bhi Bm lo hi J W hlh c1 c2 h0).mono ?_
    rintro e W' ⟨he, hj⟩
    exact ⟨he, .inl ⟨_, rfl, hj⟩⟩

set_option maxHeartbeats 1000000 in
/-- Within hands out a function. -/
theorem within_any (p : Nat) (lo hi : Int) (w : World) :
    Calls Try.prog 15 #[.pointer (some ⟨p, 0, none⟩), .int .u64 lo, .int .u64 hi] w fun e w' => e = .returned (.func (.func 38) #[] #[.pointer (some ⟨w.heap.size + 1, 0, none⟩), .pointer (some ⟨w.heap.size + 2, 0, none⟩), .pointer (some ⟨w.heap.size, 0, none⟩)]) ∧ w' = ((w.alloc (.cells #[.pointer (some ⟨p, 0, none⟩)] 24)).alloc (.cells #[.int .u64 lo] 23)).alloc (.cells #[.int .u64 hi] 23) := by
  have hmf : ∀ (fn : Fn) (first cap : Array Value) (w : World), (Instr.makeFunc fn first cap).run Try.prog w = .ok (.func fn first cap) w := fun _ _ _ _ => rfl
  go_enter Try.func15, Try.ntmps15
  go_wp2
  go_ret
  exact ⟨rfl, rfl⟩
end Go.Proofs.Ytliiblaodhcjhab

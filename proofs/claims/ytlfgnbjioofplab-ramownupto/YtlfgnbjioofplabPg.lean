import Derived.Test.YtlfgnbjioofplabPf
import Derived.Test.YtlfgnbjioofplabSl
import Derived.Sort.OwnSortedInts
namespace Go.Proofs.Ytlfgnbjioofplab
open Go.RowKit
set_option linter.unusedVariables false

def mkV (o : Option Nat) : Value := .pointer (o.map fun b => ⟨b, 0, none⟩)
theorem mkV_inv {v : Value} {y : DataW Unit × List MemPlace} (h : Rf v = some y) : ∃ c, v = mkV c := by
  unfold Rf at h
  split at h
  · rename_i a
    split at h
    · rename_i hc
      obtain ⟨block, off, spot⟩ := a
      simp at hc
      obtain ⟨rfl, rfl⟩ := hc
      exact ⟨some block, rfl⟩
    · cases h
  · exact ⟨none, rfl⟩
  · cases h
theorem wpl_next (w : World) {ops : Array Oper} {rest : List Oper} {o : Oper} {a : Act} {Q : Exit → Act → World → Prop} (hg : o.guard = none) (it : Operand) (hop : o.op = Op.next it false)
    (mb r N : Nat) (D : DataW Unit) (g : Nat → Option Nat) (left : Lit → Bool) (cnt : Nat) (hit : a.eval it = .pointer (some ⟨r, 0, none⟩)) (h : w.ranges Try.prog 3 Rf mb r N D left cnt) (hv : View N D g)
    (hDone : cnt = 0 → (∀ kl, left kl = false) → wpList Try.prog ops Q rest (a.put o.dst (.tuple #[.bool false])) w)
    (hMore : ∀ (k fb : Nat) (w' : World) (cnt' : Nat), g k = some fb → left (lk k) = true → w'.ranges Try.prog 3 Rf mb r N D (fun z => left z && !z.sameKey (lk k)) cnt' → cnt' < cnt →
      w.grownBy w' (some r) → w'.heap.size = w.heap.size → (Instr.entry (.pointer (some ⟨r, 0, none⟩))).run Try.prog w' = .ok (.tuple #[.int .i64 (k : Int), .pointer (some ⟨fb, 0, none⟩)]) w' → wpList Try.prog ops Q rest (a.put o.dst (.tuple #[.bool true, .int .i64 (k : Int), .pointer (some ⟨fb, 0, none⟩)])) w') :
    wpList Try.prog ops Q (o :: rest) a w := by
  refine wpList_next_ranges w hg it hop 3 law_int Rf (Value.int .i64) mkV (fun key kl hkey => by obtain ⟨x, rfl, _⟩ := Maps.keyOf_int_inv Try.underlying3 hkey; exact ⟨x, rfl⟩) (fun v y hv => mkV_inv hv) mb r N D left cnt hit h hDone ?_
  intro x c kl y w' cnt' hkey hlk hRv hat hrg hlt hgr hsz hen
  obtain ⟨x', ex, rfl, hwx⟩ := Maps.keyOf_int_inv Try.underlying3 hkey
  cases ex
  have hh := Maps.has_true_of_atKey hat
  obtain ⟨k, hkN, ek⟩ := hv.2.2 _ hh
  unfold lk at ek
  injection ek with _ ek
  subst ek
  have h1 := hv.1 k
  unfold lk at h1
  rw [hh] at h1
  obtain ⟨fb, hfb⟩ := Option.isSome_iff_exists.1 h1.symm
  have h2 := (hv.2.1 k fb hfb).2 (.nil)
  unfold lk at h2
  rw [hat] at h2
  obtain ⟨y1, y2⟩ := y
  simp only at h2
  subst h2
  have h3 := Rf_inv hRv
  rw [h3] at hen ⊢
  exact hMore k fb w' cnt' hfb hlk hrg hlt hgr hsz hen

def Coll (g : Nat → Option Nat) (left : Lit → Bool) (ss : List Nat) : Prop := ss.Nodup ∧ ∀ k, k ∈ ss ↔ (g k ≠ none ∧ left (lk k) = false)
theorem Coll.start {N : Nat} {D : DataW Unit} {g : Nat → Option Nat} (hv : View N D g) : Coll g (Maps.has D) [] := ⟨List.nodup_nil, fun k => by
  rw [hv.1 k]
  cases g k <;> simp⟩
theorem same_lk (a b : Nat) : (lk a).sameKey (lk b) = decide (a = b) := by
  by_cases h : a = b
  · subst h; simp [lk, Lit.sameKey]
  · rw [Maps.sameKey_ne (lk_ne h)]; simp [h]
theorem Coll.step {g : Nat → Option Nat} {left : Lit → Bool} {ss : List Nat} (h : Coll g left ss) {k fb : Nat} (hg : g k = some fb) (hl : left (lk k) = true) : Coll g (fun z => left z && !z.sameKey (lk k)) (ss ++ [k]) := by
  have hnew : k ∉ ss := fun hx => by have := ((h.2 k).1 hx).2; rw [hl] at this; cases this
  refine ⟨List.nodup_append.2 ⟨h.1, by simp, fun a ha b hb => by simp at hb; subst hb; exact fun e => hnew (e ▸ ha)⟩, fun y => ?_⟩
  rw [List.mem_append, h.2 y]
  by_cases hy : y = k
  · subst hy; simp [hg, same_lk]
  · simp [hy, same_lk]

/-- A list of ints in a slice of its own. -/
def IntsAt (W : World) (v : Value) (g : Nat) (L : List Int) : Prop := ∃ cap cur, v = .slice (some ⟨g, 0, none⟩) L.length cap ∧ RowAt W g 3 cur ∧ L.length ≤ cap ∧ cap ≤ 65536 ∧ cur.length = cap ∧ cur.take L.length = L.map (Value.int .i64)

theorem makeI (W : World) (n : Nat) (hn : n ≤ 65536) : (Instr.makeSlice 47 (.int .i64 0) (.int .i64 (n : Int))).run Try.prog W = .ok (.slice (some ⟨W.heap.size, 0, none⟩) 0 n) (W.alloc (.cells (zr n (Value.int .i64 0)) 3)) := by
  obtain ⟨i0, hi, hz0, hz1, hz2⟩ := info_parts infoI
  have := run_make (P := Try.prog) W 47 3 i0 _ Try.underlying47 hi hz0 .i64 .i64 0 n (by omega) (by omega) (by rw [hz2]; omega) (by omega)
  rw [this, hz1, Nat.mul_one, Int.toNat_natCast, show (Value.int .i64 0).cells = #[Value.int .i64 0] from rfl, madeCells_one]
  rfl
theorem sort_any (blk cap : Nat) (zs : List Int) (w : World) (hH : Sort.Holds (Value.int .i64) w blk 0 zs.toArray) (hblk : blk < w.heap.size) (hsz : zs.length < 4611686018427387904) :
    Calls Try.prog 28 #[.slice (some ⟨blk, 0, none⟩) zs.length cap] w fun e w' => e = .returned (.tuple #[]) ∧ ∃ n os, w' = Sort.grow (Sort.putRow (Value.int .i64) (Sort.ahead w n) blk 0 (zs.mergeSort fun x y => decide (x ≤ y)).toArray) os :=
  Any.slices_Sort_int Try.lays189 blk 0 cap zs w hH hblk hsz

theorem sorted_strict {ss : List Nat} (h : ss.Nodup) : ((ss.map (fun k : Nat => (k : Int))).mergeSort fun x y => decide (x ≤ y)).Pairwise (· < ·) := by
  have h1 : ((ss.map (fun k : Nat => (k : Int))).mergeSort fun x y => decide (x ≤ y)).Pairwise (fun a b => decide (a ≤ b) = true) :=
    List.pairwise_mergeSort (fun a b c => by simp only [decide_eq_true_eq]; omega) (fun a b => by simp only [Bool.or_eq_true, decide_eq_true_eq]; omega) _
  have h2 : ((ss.map (fun k : Nat => (k : Int))).mergeSort fun x y => decide (x ≤ y)).Nodup :=
    (List.mergeSort_perm _ _).nodup_iff.2 (List.pairwise_map.2 (h.imp (fun hne e => hne (by omega))))
  refine (h1.and h2).imp ?_
  intro a b ⟨ha, hb⟩
  simp only [decide_eq_true_eq] at ha
  have : a ≠ b := hb
  omega

set_option maxHeartbeats 8000000 in
set_option maxRecDepth 100000 in
theorem touched_any (W : World) (S : Nat → Prop) (p N : Nat) (m : Nat → Int) (h : PM W S p N m) :
    Calls Try.prog 8 #[.pointer (some ⟨p, 0, none⟩)] W fun e W' => ∃ v L, e = .returned v ∧ Touch N m L ∧ IntsAt W' v W.heap.size L ∧ Turn (fun _ => False) W W' := by
  obtain ⟨mb, D, g, h⟩ := h
  have hc1 := h.cell1
  have hN := h.n2
  have hsz := h.own.size_le
  have hown := h.own
  have hview := h.view
  have hpl := h.lt
  have hml := h.low mb h.Sm
  have HH : Hid (PMx W S p N m mb D g) := h
  clear h
  generalize hc : Maps.size D = c at *
  have HC : Hid (Maps.size D = c) := hc
  have hmk := makeI W c (by omega)
  obtain ⟨i0, hi, hz0, hz1, hz2⟩ := info_parts infoI
  have HI : Hid (Try.prog.info? 3 = some i0 ∧ i0.size = 1) := ⟨hi, hz1⟩
  clear hi hz0 hz1 hz2
  have hrow0 := zr_row W c (Value.int .i64 0) 3
  have e1 : (W.alloc (.cells (zr c (Value.int .i64 0)) 3)).heap.size = W.heap.size + 1 := by simp
  have HR0 : Hid (RowAt (W.alloc (.cells (zr c (Value.int .i64 0)) 3)) W.heap.size 3 (List.replicate c (Value.int .i64 0))) := hrow0
  clear hrow0 hc
  go_enter Try.func8, Try.ntmps8
  go_wp2_with (first
    | (at_len; refine wpList_len_own _ rfl _ 69 rfl 3 67 Try.underlying69 Rf mb N D rfl hown ?_; rw [HC.out])
    | (at_range; refine wpList_range_own _ rfl _ 69 rfl 3 67 law_int Try.underlying69 Rf mb N D rfl (hown.alloc _) ?_; intro w0 hrg0 hg0 hs0)
    | go_in)
  go_frame
  rw [e1, HC.out] at hrg0
  rw [e1] at hs0
  rw [e1]
  clear hmk e1
  have HS0 : Hid (w0.ranges Try.prog 3 Rf mb (W.heap.size + 1) N D (Maps.has D) c ∧ RowAt w0 W.heap.size 3 (List.replicate c (Value.int .i64 0)) ∧ Turn (fun _ => False) W w0) :=
    ⟨hrg0, HR0.out.grown hg0 (by simp), ((Turn.refl _ W).alloc _).trans (S' := fun _ => False) (Turn.grown hg0 (fun k hk => by cases hk)) (fun _ h => h.elim)⟩
  clear HR0 hrg0 hg0 hs0
  go_loopw [3] (fun nv wr => ∃ (left : Lit → Bool) (q : Nat) (ss : List Nat), nv = .slice (some ⟨W.heap.size, 0, none⟩) ss.length c ∧ Hid (wr.ranges Try.prog 3 Rf mb (W.heap.size + 1) N D left q ∧ Coll g left ss ∧ ss.length + q ≤ c ∧ RowAt wr W.heap.size 3 (ss.map (fun k : Nat => Value.int .i64 (k : Int)) ++ List.replicate (c - ss.length) (Value.int .i64 0)) ∧ Turn (fun _ => False) W wr)) (fun _ wr => wr.rangeLeft mb (W.heap.size + 1))
  case atStart => exact ⟨Maps.has D, c, [], rfl, HS0.out.1, Coll.start hview, by simp, HS0.out.2.1, HS0.out.2.2⟩
  case round =>
    obtain ⟨left, q, ss, rfl, HX⟩ := hrel
    clear HS0
    have HRG := HX.out.1
    go_wp2_with (first
      | (at_next; refine wpl_next _ rfl _ rfl mb (W.heap.size + 1) N D g left q rfl HRG hview ?_ ?_)
      | go_in)
    · intro hq0 hl0
      obtain ⟨hrg, hcol, hle, hrow, hT⟩ := HX.out
      clear HRG
      have hlen : (ss.map (fun k : Nat => (k : Int))).length = ss.length := List.length_map ..
      have hs := sort_any W.heap.size c (ss.map (fun k : Nat => (k : Int))) wr (holds_of_blockI (cur := (ss.map (fun k : Nat => Value.int .i64 (k : Int)) ++ List.replicate (c - ss.length) (Value.int .i64 0)).toArray) hrow (by
        rw [hlen]; simp [List.map_map, Function.comp_def])) hrow.lt (by rw [hlen]; omega)
      rw [hlen] at hs
      have HS : Hid (∀ w', (∃ n os, w' = Sort.grow (Sort.putRow (Value.int .i64) (Sort.ahead wr n) W.heap.size 0 ((ss.map (fun k : Nat => (k : Int))).mergeSort fun x y => decide (x ≤ y)).toArray) os) → ∃ v L, Value.slice (some ⟨W.heap.size, 0, none⟩) ss.length c = v ∧ Touch N m L ∧ IntsAt w' v W.heap.size L ∧ Turn (fun _ => False) W w') := by
        intro w' ⟨n, os, e⟩
        have hll : ((ss.map (fun k : Nat => (k : Int))).mergeSort fun x y => decide (x ≤ y)).length = ss.length := by rw [List.length_mergeSort, hlen]
        refine ⟨_, (ss.map (fun k : Nat => (k : Int))).mergeSort fun x y => decide (x ≤ y), rfl, ⟨sorted_strict hcol.1, fun i => ?_⟩, ?_, ?_⟩
        · rw [(List.mergeSort_perm _ _).mem_iff, List.mem_map]
          constructor
          · rintro ⟨k, hk, rfl⟩
            have h1 := ((hcol.2 k).1 hk).1
            cases hgk : g k with
            | none => exact absurd hgk h1
            | some fb => exact ⟨k, rfl, (HH.out.view.2.1 k fb hgk).1, (HH.out.frm k fb hgk).2.1⟩
          · rintro ⟨n, rfl, hn, hc⟩
            refine ⟨n, (hcol.2 n).2 ⟨fun e => hc (HH.out.out n hn e), hl0 _⟩, rfl⟩
        · have hh := heap_sortedI (n := n) (os := os) ((ss.map (fun k : Nat => (k : Int))).mergeSort fun x y => decide (x ≤ y)).toArray hrow
          rw [← e] at hh
          refine ⟨c, (Sort.putCells (Value.int .i64) 0 ((ss.map (fun k : Nat => (k : Int))).mergeSort fun x y => decide (x ≤ y)).toArray (ss.map (fun k : Nat => Value.int .i64 (k : Int)) ++ List.replicate (c - ss.length) (Value.int .i64 0)).toArray).toList, by rw [hll], ?_, by rw [hll]; omega, by omega, ?_, ?_⟩
          · show w'.heap[W.heap.size]? = _
            rw [hh]
          · simp [Sort.putCells]; omega
          · exact take_putCellsI _ _ (by rw [hll]; simp)
        · rw [e]
          exact hT.trans (S' := fun x => x = W.heap.size) (Turn.grown (grownBy_sortedI _) (fun k hk => by cases hk; exact .inl rfl)) (fun x hx => .inr (by rw [hx]; exact Nat.le_refl _))
      clear HX hrg hcol hle hrow hT
      go_wp2_with (first
        | (go_at_call 28; refine hs.mono ?_; rintro e w1 ⟨rfl, hw1⟩)
        | go_in)
      go_ret
      obtain ⟨v, L, rfl, r1⟩ := HS.out w1 hw1
      exact ⟨_, L, rfl, r1⟩
    · intro k fb w1 q1 hgk hlk hrg1 hlt hg1 hs1 hen
      obtain ⟨hrg, hcol, hle, hrow, hT⟩ := HX.out
      have hT1 : Turn (fun _ => False) W w1 := hT.trans (S' := fun x => x = W.heap.size + 1) (Turn.grown hg1 (fun k hk => by cases hk; exact .inl rfl)) (fun x hx => .inr (by rw [hx]; omega))
      have hrow1 : RowAt w1 W.heap.size 3 (ss.map (fun k : Nat => Value.int .i64 (k : Int)) ++ List.replicate (c - ss.length) (Value.int .i64 0)) := hrow.grown hg1 (by simp)
      have hBl := hrow1.lt
      have hrl := hrg1.lt
      have hnew := row_new w1 [Value.int .i64 (k : Int)] 3
      have hrowA : RowAt (w1.alloc (.cells [Value.int .i64 (k : Int)].toArray 3)) W.heap.size 3 (ss.map (fun k : Nat => Value.int .i64 (k : Int)) ++ List.replicate (c - ss.length) (Value.int .i64 0)) := hrow1.grown (World.grownBy_alloc _ _ none) (by simp)
      obtain ⟨w2, hr2, hrow2, hg2⟩ := append_room (P := Try.prog) (w1.alloc (.cells [Value.int .i64 (k : Int)].toArray 3)) 47 3 i0 Try.underlying47 HI.out.1 W.heap.size ss.length c _ hrowA (.slice (some ⟨w1.heap.size, 0, none⟩) 1 1) 1 [Value.int .i64 (k : Int)]
        (by rw [HI.out.2]; exact Src.ofSlice _ Try.underlying47 ⟨w1.heap.size, 0, none⟩ 1 1 _ rfl (fun j u hj => by rw [Addr.add_lit, Nat.zero_add, hnew.cell]; exact hj) (fun u hu => by simp at hu; subst hu; rfl)) (by omega) (by rw [HI.out.2, Nat.mul_one, List.length_append, List.length_map, List.length_replicate]; simp; omega)
      rw [HI.out.2, Nat.mul_one] at hrow2
      have HX2 : Hid (w2.ranges Try.prog 3 Rf mb (W.heap.size + 1) N D (fun z => left z && !z.sameKey (lk k)) q1 ∧ Coll g (fun z => left z && !z.sameKey (lk k)) (ss ++ [k]) ∧ (ss ++ [k]).length + q1 ≤ c ∧ RowAt w2 W.heap.size 3 ((ss ++ [k]).map (fun k : Nat => Value.int .i64 (k : Int)) ++ List.replicate (c - (ss ++ [k]).length) (Value.int .i64 0)) ∧ Turn (fun _ => False) W w2) := by
        refine ⟨(hrg1.alloc _).kept hg2 (by simp; omega) (by simp), hcol.step hgk hlk, by simp; omega, ?_, ?_⟩
        · have e : (ss ++ [k]).map (fun k : Nat => Value.int .i64 (k : Int)) ++ List.replicate (c - (ss ++ [k]).length) (Value.int .i64 0) = (ss.map (fun k : Nat => Value.int .i64 (k : Int)) ++ List.replicate (c - ss.length) (Value.int .i64 0)).take ss.length ++ [Value.int .i64 (k : Int)] ++ (ss.map (fun k : Nat => Value.int .i64 (k : Int)) ++ List.replicate (c - ss.length) (Value.int .i64 0)).drop (ss.length + [Value.int .i64 (k : Int)].length) := by
            rw [List.take_append_of_le_length (by simp), List.take_of_length_le (by simp), List.drop_append, List.drop_eq_nil_of_le (by simp), List.drop_replicate, List.nil_append, show ss.length + [Value.int .i64 (k : Int)].length - (ss.map (fun k : Nat => Value.int .i64 (k : Int))).length = 1 by simp, show c - (ss ++ [k]).length = c - ss.length - 1 by simp; omega, List.map_append]
            rfl
          rw [e]
          exact hrow2
        · exact (hT1.alloc _).trans (S' := fun x => x = W.heap.size) (Turn.grown hg2 (fun k hk => by cases hk; exact .inl rfl)) (fun x hx => .inr (by rw [hx]; exact Nat.le_refl _))
      have HM : Hid (w2.rangeLeft mb (W.heap.size + 1) < wr.rangeLeft mb (W.heap.size + 1)) := by
        show _ < _
        rw [HX2.out.1.left_eq, hrg.left_eq]; exact hlt
      clear hs1 HX hrg hcol hrow hT hT1 hrow1 hnew hrowA hrow2 hg2 hg1 hrg1 HRG hlk hgk hrl
      go_wp2_with (first
        | (at_builtin; refine Lib.wpList_append_run _ rfl _ _ 47 47 rfl _ _ rfl rfl _ _ (hr2 _) ?_)
        | go_in)
      go_roundw
      case rel => exact ⟨_, _, ss ++ [k], by simp, HX2⟩
      case measure => exact HM.out
end Go.Proofs.Ytlfgnbjioofplab

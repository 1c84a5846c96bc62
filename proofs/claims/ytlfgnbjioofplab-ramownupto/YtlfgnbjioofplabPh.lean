import Derived.Test.YtlfgnbjioofplabPg
namespace Go.Proofs.Ytlfgnbjioofplab
open Go.RowKit
set_option linter.unusedVariables false

def encA (l : List Int) : Array Value := (encF l).toArray
theorem loadF (W : World) (fb : Nat) (m : Nat → Int) (n : Nat) (h : RowAt W fb 74 (encF (fr m n))) : (Instr.loadAt 74 (Value.pointer (some ⟨fb, 0, none⟩))).run Try.prog W = .ok (.agg (encA (fr m n))) W := by
  have hl := run_loadCells_list (P := Try.prog) W ⟨fb, 0, none⟩ (encF (fr m n)) (fun j v hj => by rw [Addr.add_lit, Nat.zero_add, h.cell]; exact hj)
  rw [encF_len] at hl
  simp [Instr.loadAt, Instr.sureAddr, loadVar, Try.isAgg74, Try.sizeOf74, hl, encA]
theorem storeF (W : World) (q : Nat) (m : Nat → Int) (n : Nat) (cur : List Value) (h : RowAt W q 74 cur) (hc : cur.length = 4097) : (Instr.storeAt 74 (Value.pointer (some ⟨q, 0, none⟩)) (.agg (encA (fr m n)))).run Try.prog W = .ok () (W.setRow q (encA (fr m n))) := by
  have hl := run_storeCells_at Try.prog q 0 74 (encF (fr m n)) 0 cur.toArray W h (by rw [encF_len]; simp [hc]) (by
    intro v hv
    rcases List.mem_append.1 hv with h1 | h1
    · exact encB_one _ _ h1
    · simp at h1; subst h1; rfl)
  have e : (cur.take 0 ++ encF (fr m n) ++ cur.drop (0 + (encF (fr m n)).length)) = encF (fr m n) := by
    rw [List.take_zero, List.nil_append, Nat.zero_add, encF_len, List.drop_eq_nil_of_le (by omega), List.append_nil]
  have hsz : (encA (fr m n)).size = 4097 := by show (encF (fr m n)).toArray.size = 4097; rw [List.size_toArray, encF_len]
  simp only [Nat.add_zero] at hl
  rw [e] at hl
  simp [Instr.storeAt, Instr.sureAddr, storeVar, Value.cells, Try.sizeOf74, hsz]
  exact hl
theorem makeMapH (W : World) (c : Int) : (Instr.makeMap 69 (some (Value.int .i64 c))).run Try.prog W = .ok (.map (some W.heap.size)) (W.alloc (.map #[] 0)) := by
  simp [Instr.makeMap, run_underlying Try.underlying69, asInt, asIntOf]

theorem wpl_loadF (w : World) {ops : Array Oper} {rest : List Oper} {o : Oper} {a : Act} {Q : Exit → Act → World → Prop} (hgd : o.guard = none) (x : Operand) (ho : o.op = Op.load 74 x) (v : Value) (hx : a.eval x = v) {v' : Value}
    (hr : (Instr.loadAt 74 v).run Try.prog w = .ok v' w) (h : wpList Try.prog ops Q rest (a.put o.dst v') w) : wpList Try.prog ops Q (o :: rest) a w := by
  refine wpList_plain hgd fun _ hK => ?_
  unfold Oper.wp execOp
  simp only [ho, hx, Sem.run_bind, hr, Sem.run_pure, Result.andThen_ok]
  exact hK _ _ h
theorem wpl_storeF (w : World) {ops : Array Oper} {rest : List Oper} {o : Oper} {a : Act} {Q : Exit → Act → World → Prop} (hgd : o.guard = none) (x y : Operand) (ho : o.op = Op.store 74 x y) (v u : Value) (hx : a.eval x = v) (hy : a.eval y = u) {w' : World}
    (hr : (Instr.storeAt 74 v u).run Try.prog w = .ok () w') (h : wpList Try.prog ops Q rest (a.put o.dst undef) w') : wpList Try.prog ops Q (o :: rest) a w := by
  refine wpList_plain hgd fun _ hK => ?_
  unfold Oper.wp execOp
  simp only [ho, hx, hy, Sem.run_bind, hr, Sem.run_pure, Result.andThen_ok]
  exact hK _ _ h
theorem copyF (w : World) (m : Nat → Int) (k : Nat) : ∃ w2, (Instr.storeAt 74 (Value.pointer (some ⟨w.heap.size, 0, none⟩)) (.agg (encA (fr m k)))).run Try.prog (w.alloc (.cells zF 74)) = .ok () w2 ∧ RowAt w2 w.heap.size 74 (encF (fr m k)) ∧ (w.alloc (.cells zF 74)).grownBy w2 (some w.heap.size) := by
  have hz := zF_row w (m := fun _ => 0) (n := 0) (cnt_none 0)
  have hl : (encF (fr (fun _ => 0) 0)).length = 4097 := encF_len _ _
  generalize encF (fr (fun _ => 0) 0) = cur at hz hl
  refine ⟨_, storeF _ w.heap.size m k cur hz hl, ?_, grownBy_setRow _ _ _⟩
  unfold encA
  generalize encF (fr m k) = l
  exact setRow_heap _ _ _ _ _ _ hz
/-- What a clone under way holds. -/
def Copy (wr W : World) (N : Nat) (m : Nat → Int) (g : Nat → Option Nat) (left : Lit → Bool) (g2 : Nat → Option Nat) : Prop :=
  (∀ k fb, g2 k = some fb → g k ≠ none ∧ left (lk k) = false ∧ RowAt wr fb 74 (encF (fr m k)) ∧ W.heap.size ≤ fb) ∧ (∀ k, g k ≠ none → left (lk k) = false → g2 k ≠ none) ∧ (∀ a b fb, g2 a = some fb → g2 b = some fb → a = b)

set_option maxHeartbeats 8000000 in
set_option maxRecDepth 100000 in
theorem clone_any (W : World) (S : Nat → Prop) (p N : Nat) (m : Nat → Int) (h : PM W S p N m) :
    Calls Try.prog 23 #[.pointer (some ⟨p, 0, none⟩)] W fun e W' => ∃ q, e = .returned (.pointer (some ⟨q, 0, none⟩)) ∧ PM W' (gr (fun _ => False) W W') q N m ∧ Turn (fun _ => False) W W' := by
  obtain ⟨mb, D, g, h⟩ := h
  have hc0 := h.cell0
  have hc1 := h.cell1
  have hN := h.n2
  have hown := h.own
  have hview := h.view
  have hpl := h.lt
  have hml := h.low mb h.Sm
  have hmm := makeMapH W (Maps.size D)
  have hzf := zeroF
  have HH : Hid (PMx W S p N m mb D g) := h
  clear h
  have e1 : (W.alloc (.map #[] 0)).heap.size = W.heap.size + 1 := by simp
  go_enter Try.func23, Try.ntmps23
  go_wp2_with (first
    | (at_len; refine wpList_len_own _ rfl _ 69 rfl 3 67 Try.underlying69 Rf mb N D rfl hown ?_)
    | (at_range; refine wpList_range_own _ rfl _ 69 rfl 3 67 law_int Try.underlying69 Rf mb N D rfl (hown.alloc _) ?_; intro w0 hrg0 hg0 hs0; rw [e1] at hrg0 hs0)
    | go_in)
  go_frame
  rw [e1]
  clear hmm e1
  have HS0 : Hid (w0.ranges Try.prog 3 Rf mb (W.heap.size + 1) N D (Maps.has D) (Maps.size D) ∧ w0.ownsMap Try.prog 3 Rf W.heap.size N (.map []) ∧ Turn (fun _ => False) W w0) :=
    ⟨hrg0, (((World.ownsMap_made W Try.prog 3 Rf).mono (Nat.zero_le _)).kept hg0 (by simp)), ((Turn.refl _ W).alloc _).trans (S' := fun _ => False) (Turn.grown hg0 (fun k hk => by cases hk)) (fun _ h => h.elim)⟩
  clear hrg0 hg0 hs0
  go_loopw [4] (fun _ wr => ∃ (left : Lit → Bool) (q : Nat) (D2 : DataW Unit) (g2 : Nat → Option Nat), Hid (wr.ranges Try.prog 3 Rf mb (W.heap.size + 1) N D left q ∧ wr.ownsMap Try.prog 3 Rf W.heap.size N D2 ∧ View N D2 g2 ∧ Copy wr W N m g left g2 ∧ Turn (fun _ => False) W wr)) (fun _ wr => wr.rangeLeft mb (W.heap.size + 1))
  case atStart =>
    refine ⟨Maps.has D, Maps.size D, .map [], fun _ => none, HS0.out.1, HS0.out.2.1, View.empty N, ⟨?_, ?_, ?_⟩, HS0.out.2.2⟩
    · intro k fb h
      cases h
    · intro k h1 h2
      rw [hview.1 k] at h2
      cases hgk : g k with
      | none => exact absurd hgk h1
      | some fb => rw [hgk] at h2; cases h2
    · intro a b fb h
      cases h
  case round =>
    obtain ⟨left, q, D2, g2, HX⟩ := hrel
    clear HS0
    have HRG := HX.out.1
    go_wp2_with (first
      | (at_next; refine wpl_next _ rfl _ rfl mb (W.heap.size + 1) N D g left q rfl HRG hview ?_ ?_)
      | go_in)
    · intro hq0 hl0
      obtain ⟨hrg, hown2, hview2, hcp, hT⟩ := HX.out
      have hc0w : wr.cell? ⟨p, 0, none⟩ = some (.int .i64 N) := by rw [hT.cell hpl (fun h => h)]; exact hc0
      have HF : Hid (∀ w', w' = wr.alloc (.cells #[.int .i64 (N : Int), .map (some W.heap.size)] 71) → PM w' (gr (fun _ => False) W w') wr.heap.size N m ∧ Turn (fun _ => False) W w') := by
        rintro w' rfl
        have hsz : W.heap.size ≤ wr.heap.size := hT.size
        have hTa : Turn (fun _ => False) wr (wr.alloc (.cells #[.int .i64 (N : Int), .map (some W.heap.size)] 71)) := (Turn.refl _ _).alloc _
        refine ⟨⟨W.heap.size, D2, g2, ⟨?_, hown2.alloc _, hview2, ?_, ?_, hcp.2.2, ?_, ?_, HH.out.byts, HH.out.n1, hN, ?_⟩⟩, hT.alloc _⟩
        · exact (MapKept.heap_alloc wr _).1
        · intro n fb hgn
          obtain ⟨c1, c2, c3, c4⟩ := hcp.1 n fb hgn
          refine ⟨c3.turn hTa (fun h => h), ?_, .inr ⟨c4, Nat.lt_of_lt_of_le c3.lt hTa.size⟩⟩
          cases hgk : g n with
          | none => exact absurd hgk c1
          | some fb' => exact (HH.out.frm n fb' hgk).2.1
        · intro n hn hgn
          refine HH.out.out n hn ?_
          cases hgk : g n with
          | none => rfl
          | some fb' => exact absurd hgn (hcp.2.1 n (by rw [hgk]; simp) (hl0 _))
        · exact .inr ⟨hsz, by simp⟩
        · exact .inr ⟨Nat.le_refl _, by simp; omega⟩
        · exact gr_low (fun _ h => h.elim) (by simp; omega)
      clear HX HRG hrg hown2 hcp hT
      go_wp2
      go_ret
      exact ⟨_, rfl, HF.out _ rfl⟩
    · intro k fb w1 q1 hgk hlk hrg1 hlt hg1 hs1 hen
      obtain ⟨hrg, hown2, hview2, hcp, hT⟩ := HX.out
      have hT1 : Turn (fun _ => False) W w1 := hT.trans (S' := fun x => x = W.heap.size + 1) (Turn.grown hg1 (fun k hk => by cases hk; exact .inl rfl)) (fun x hx => .inr (by rw [hx]; omega))
      have hkN := (hview.2.1 k fb hgk).1
      have hrow1 : RowAt w1 fb 74 (encF (fr m k)) := (HH.out.frm k fb hgk).1.turn hT1 (fun h => h)
      have hown1 : w1.ownsMap Try.prog 3 Rf W.heap.size N D2 := hown2.kept hg1 (by simp)
      have hld := loadF w1 fb m k hrow1
      obtain ⟨wB, hst, hrown, hgB⟩ := copyF w1 m k
      have hWl := hown1.lt
      have hrl := hrg1.lt
      have hownB : wB.ownsMap Try.prog 3 Rf W.heap.size N D2 := (hown1.alloc _).kept hgB (by simp; omega)
      have HLD : Hid _ := hld
      have HST : Hid _ := hst
      clear hld hst hs1 HRG
      have hnk : k ≤ 9223372036854775807 := by omega
      have hmlen : N < maxLen := by unfold maxLen; omega
      go_wp2_with (first
        | (guard_target =~ wpList _ _ _ (Oper.mk (some 25) _ _ _ _ _ :: _) _ _; refine wpl_loadF _ rfl _ rfl (.pointer (some ⟨fb, 0, none⟩)) rfl HLD.out ?_)
        | (guard_target =~ wpList _ _ _ (Oper.mk none (Op.store 74 _ _) _ _ _ _ :: _) _ _; refine wpl_storeF _ rfl _ _ rfl (.pointer (some ⟨w1.heap.size, 0, none⟩)) (.agg (encA (fr m k))) rfl rfl HST.out ?_)
        | (at_mapUpdate; refine wpList_mapUpdate_own _ rfl _ _ _ 69 rfl 3 67 law_int Try.underlying69 Rf W.heap.size N D2 rfl hownB hmlen _ _ _ rfl rfl (key_lk k hnk) _ [] (Rf_some _) ?_; intro w2 hown3 hg3; go_frame)
        | go_in)
      have hne1 : ∀ fb' l, RowAt wr fb' 74 l → fb' ≠ W.heap.size + 1 ∧ fb' ≠ W.heap.size := fun fb' l hl => by
        obtain ⟨es, clock, since, seen, c0, _, _, _, _, hr, _⟩ := hrg
        obtain ⟨es2, clock2, hb2, _⟩ := hown2
        constructor
        · intro e
          rw [← e, show wr.heap[fb']? = _ from hl] at hr
          cases hr
        · intro e
          rw [← e, show wr.heap[fb']? = _ from hl] at hb2
          cases hb2
      have hs2 := hg1.size
      have hX2 : w2.ranges Try.prog 3 Rf mb (W.heap.size + 1) N D (fun z => left z && !z.sameKey (lk k)) q1 := ((hrg1.alloc _).kept hgB (by simp; omega) (by simp; omega)).kept hg3 (by simp; omega) (by simp)
      have hV2 := hview2.put hown2.isMap k w1.heap.size hkN
      have hO2 := ownsMap_tight hown3 (hV2.size ((hown2.tidy law_int).put (lk_key k) _) (own_keys hown3 Try.underlying3))
      have hTB : Turn (fun _ => False) W w2 := ((hT1.alloc _).trans (S' := fun x => x = w1.heap.size) (Turn.grown hgB (fun k hk => by cases hk; exact .inl rfl)) (fun x hx => .inr (by rw [hx]; omega))).trans (S' := fun x => x = W.heap.size) (Turn.grown hg3 (fun k hk => by cases hk; exact .inl rfl)) (fun x hx => .inr (by rw [hx]; exact Nat.le_refl _))
      have hC2 : Copy w2 W N m g (fun z => left z && !z.sameKey (lk k)) (setG g2 k (some w1.heap.size)) := by
        refine ⟨fun k' fb' hk' => ?_, fun k' h1 h2 => ?_, fun a b fb' ha hb => ?_⟩
        · by_cases e : k' = k
          · subst e
            simp [setG] at hk'
            subst hk'
            exact ⟨by rw [hgk]; simp, by simp [same_lk], hrown.grown hg3 (by simp; omega), by omega⟩
          · simp [setG, e] at hk'
            obtain ⟨c1, c2, c3, c4⟩ := hcp.1 k' fb' hk'
            have hn := hne1 fb' _ c3
            have hl3 := c3.lt
            refine ⟨c1, by simp [c2], ?_, c4⟩
            exact (((c3.grown hg1 (by simp; exact hn.1)).grown (World.grownBy_alloc _ _ none) (by simp)).grown hgB (by simp; omega)).grown hg3 (by simp; exact hn.2)
        · by_cases e : k' = k
          · subst e; simp [setG]
          · simp [setG, e]
            simp [same_lk, e] at h2
            exact hcp.2.1 k' h1 h2
        · by_cases e1 : a = k
          · by_cases e2 : b = k
            · rw [e1, e2]
            · simp [setG, e2] at hb
              simp [setG, e1] at ha
              have := (hcp.1 b fb' hb).2.2.1.lt
              omega
          · by_cases e2 : b = k
            · simp [setG, e1] at ha
              simp [setG, e2] at hb
              have := (hcp.1 a fb' ha).2.2.1.lt
              omega
            · simp [setG, e1] at ha
              simp [setG, e2] at hb
              exact hcp.2.2 a b fb' ha hb
      have HM : Hid (w2.rangeLeft mb (W.heap.size + 1) < wr.rangeLeft mb (W.heap.size + 1)) := by
        show _ < _
        rw [hX2.left_eq, hrg.left_eq]; exact hlt
      go_roundw
      case rel => exact ⟨_, _, _, _, hX2, hO2, hV2, hC2, hTB⟩
      case measure => exact HM.out
end Go.Proofs.Ytlfgnbjioofplab

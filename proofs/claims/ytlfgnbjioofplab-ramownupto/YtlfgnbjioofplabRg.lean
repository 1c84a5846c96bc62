import Derived.Test.YtlfgnbjioofplabRe
import Derived.Deep.QuietTactic
import Derived.BigQuiet
import Derived.BigRegion
namespace Go.Proofs.Ytlfgnbjioofplab
open Go.RowKit
set_option linter.unusedVariables false

def encI (l : List Int) : List Value := l.map (Value.int .i64)
theorem encI_len (l : List Int) : (encI l).length = l.length := by simp [encI]
theorem encI_one (l : List Int) : ∀ u ∈ encI l, u.oneCell' = true := by
  intro u hu
  obtain ⟨x, _, rfl⟩ := List.mem_map.1 hu
  rfl
theorem encI_at {l : List Int} {i : Nat} {v : Int} (h : l[i]? = some v) : (encI l)[i]? = some (.int .i64 v) := by rw [encI, List.getElem?_map, h]; rfl
/-- append of one int to a list of the call's own. -/
theorem appI (wr : World) (lo : Nat) (v : Value) (l : List Int) (b : Int) (h : wr.ownsRow lo 3 1 v l.length (encI l)) (hlo : lo ≤ wr.heap.size) (hk : l.length ≤ 268435456) :
    ∃ g cap w' cur, (∀ ty, (Builtin.append_ #[47, 47] ty #[v, .slice (some ⟨wr.heap.size, 0, none⟩) 1 1]).run Try.prog (wr.alloc (.cells #[.int .i64 b] 3)) = .ok (.slice (some ⟨g, 0, none⟩) (l.length + 1) cap) w') ∧ lo ≤ g ∧ RowAt w' g 3 (encI (l ++ [b]) ++ cur) ∧ l.length + 1 ≤ cap ∧ cap ≤ maxLen ∧ (encI (l ++ [b]) ++ cur).length = cap ∧ Turn (fun x => lo ≤ x) wr w' := by
  obtain ⟨i0, hi, hz0, hz1, hz2⟩ := info_parts infoI
  have hB := row_new wr [.int .i64 b] 3
  have ho := own_turn h (((Turn.refl (fun _ => False) wr).alloc (.cells #[.int .i64 b] 3))) (fun _ _ h => h)
  obtain ⟨v', w', hr, ho', hg, hb⟩ := append_any (P := Try.prog) (wr.alloc (.cells #[.int .i64 b] 3)) 47 3 i0 _ Try.underlying47 hi hz0 (by rw [hz1]; rfl) lo l.length 1 v (.slice (some ⟨wr.heap.size, 0, none⟩) 1 1) (encI l) [.int .i64 b] (by rw [hz1]; exact ho)
    (by rw [hz1]; exact Src.ofSlice _ Try.underlying47 ⟨wr.heap.size, 0, none⟩ 1 1 _ rfl (fun j u hj => by rw [Addr.add_lit, Nat.zero_add]; exact (hB.cell j).trans hj) (fun u hu => by simp at hu; subst hu; rfl)) (by simp; omega) (by unfold maxLen; omega) (by rw [hz2]; omega)
  have hT : Turn (fun x => lo ≤ x) wr w' := ((Turn.refl (fun x => lo ≤ x) wr).alloc _).trans (S' := fun x => lo ≤ x) (Turn.grown hg (fun x hx => .inl (World.ownsRow.lt h x hx).1)) (fun x hx => .inl hx)
  rw [hz1] at ho'
  rcases row_of_own ho' with ⟨_, h2, _⟩ | ⟨g, cap, cur, rfl, a, b2, c, d, e1, f⟩
  · omega
  · have e2 : encI (l ++ [b]) = cur.take (l.length + 1) := by
      rw [Nat.mul_one] at f
      rw [f]; simp [encI]
    have e3 : encI (l ++ [b]) ++ cur.drop (l.length + 1) = cur := by rw [e2, List.take_append_drop]
    exact ⟨g, cap, w', cur.drop (l.length + 1), hr, a, by rw [e3]; exact b2, c, d, by rw [e3, e1]; omega, hT⟩

def Ins (m : Nat → Int) (fs : List (Nat × Nat)) (L : List Int) : Prop := L.Pairwise (· < ·) ∧ ∀ i : Int, i ∈ L ↔ ∃ x ∈ fs, i = (x.1 : Int) ∧ cnt (fr m x.1) ≠ 0
theorem Ins.skip {m : Nat → Int} {fs : List (Nat × Nat)} {L : List Int} (h : Ins m fs L) {x : Nat × Nat} (hx : cnt (fr m x.1) = 0) : Ins m (fs ++ [x]) L := by
  refine ⟨h.1, fun i => (h.2 i).trans ⟨?_, ?_⟩⟩
  · rintro ⟨y, hy, r⟩
    exact ⟨y, by simp [hy], r⟩
  · rintro ⟨y, hy, e, hc⟩
    rcases List.mem_append.1 hy with hy | hy
    · exact ⟨y, hy, e, hc⟩
    · simp at hy
      subst hy
      exact absurd hx hc
theorem Ins.add {m : Nat → Int} {fs : List (Nat × Nat)} {P Q : List Int} {x : Nat × Nat} (h : Ins m fs (P ++ Q)) (hx : cnt (fr m x.1) ≠ 0) (hP : ∀ p ∈ P, p < (x.1 : Int)) (hQ : ∀ q ∈ Q, (x.1 : Int) < q) : Ins m (fs ++ [x]) (P ++ (x.1 : Int) :: Q) := by
  obtain ⟨h1, h2⟩ := h
  rw [List.pairwise_append] at h1
  refine ⟨?_, fun i => ?_⟩
  · rw [List.pairwise_append, List.pairwise_cons]
    refine ⟨h1.1, ⟨hQ, h1.2.1⟩, fun a ha b hb => ?_⟩
    rcases List.mem_cons.1 hb with rfl | hb
    · exact hP a ha
    · exact h1.2.2 a ha b hb
  · have := h2 i
    rw [List.mem_append] at this
    rw [List.mem_append, List.mem_cons]
    constructor
    · intro hi
      rcases hi with hi | rfl | hi
      · obtain ⟨y, hy, r⟩ := this.1 (.inl hi); exact ⟨y, by simp [hy], r⟩
      · exact ⟨x, by simp, rfl, hx⟩
      · obtain ⟨y, hy, r⟩ := this.1 (.inr hi); exact ⟨y, by simp [hy], r⟩
    · rintro ⟨y, hy, e, hc⟩
      rcases List.mem_append.1 hy with hy | hy
      · rcases this.2 ⟨y, hy, e, hc⟩ with h | h
        · exact .inl h
        · exact .inr (.inr h)
      · simp at hy
        subst hy
        exact .inr (.inl e)

theorem rising_len {N : Nat} {L : List Int} (h : L.Pairwise (· < ·)) (hN : ∀ i ∈ L, ∃ n : Nat, i = n ∧ n < N) : L.length ≤ N := by
  rw [← List.length_map (f := Int.toNat)]
  refine nodup_below N _ (List.pairwise_map.2 (h.imp_of_mem fun {a b} ha hb hab e => ?_)) fun x hx => ?_
  · obtain ⟨n, rfl, _⟩ := hN a ha
    obtain ⟨k, rfl, _⟩ := hN b hb
    simp at e
    omega
  · obtain ⟨y, hy, rfl⟩ := List.mem_map.1 hx
    obtain ⟨n, rfl, hn⟩ := hN y hy
    simpa using hn

set_option maxHeartbeats 8000000 in
set_option maxRecDepth 100000 in
theorem rtouched_any (W : World) (S : Nat → Prop) (r N : Nat) (m : Nat → Int) (h : RM W S r N m) :
    Calls Try.prog 12 #[.pointer (some ⟨r, 0, none⟩)] W fun e W' => ∃ v L, e = .returned v ∧ Touch N m L ∧ W'.ownsRow W.heap.size 3 1 v L.length (encI L) ∧ Turn (fun _ => False) W W' := by
  obtain ⟨v, fs, h⟩ := h
  have hN := h.n2
  have hlen := h.len
  have hrl := h.lt
  obtain ⟨a, cap, rfl, hcells⟩ := h.view
  have hc1 := h.cell1
  have HC : Hid (∀ i x, fs[i]? = some x → ∃ gb, a = some ⟨gb, 0, none⟩ ∧ S gb ∧ W.cell? ⟨gb, i * 2, none⟩ = some (.int .i64 (x.1 : Int)) ∧ W.cell? ⟨gb, i * 2 + 1, none⟩ = some (.slice (some ⟨x.2, 0, none⟩) 4096 4096)) := hcells
  have HH : Hid _ := h
  have hlow := h.low
  clear hcells h
  generalize hq : fs.length = q at *
  have HQ : Hid (fs.length = q) := hq
  clear hq
  go_enter Try.func12, Try.ntmps12
  go_wp2
  go_loopw [3, 4] (fun v i wr => ∃ (k : Nat) (L : List Int), k ≤ q ∧ i = .int .i64 k ∧ Hid (wr.ownsRow W.heap.size 3 1 v L.length (encI L) ∧ Ins m (fs.take k) L ∧ Turn (fun _ => False) W wr)) (fun _ i _ => q - (intOf i).toNat)
  case atStart => exact ⟨0, [], Nat.zero_le _, rfl, World.ownsRow_nil _ _ _ _, ⟨List.Pairwise.nil, fun i => by simp⟩, Turn.refl _ _⟩
  case round =>
    obtain ⟨k, L, hk, rfl, HX⟩ := hrel
    obtain ⟨hoL, hins, hT⟩ := HX.out
    have hc1w : wr.cell? ⟨r, 1, none⟩ = some (.slice a q cap) := by rw [hT.cell hrl (fun h => h)]; exact hc1
    obtain ⟨vA, vC, rfl⟩ := slice_form hoL
    by_cases hlt : k < q
    · have hkz : (k : Int) < (q : Int) := by omega
      obtain ⟨x, hx⟩ : ∃ x, fs[k]? = some x := ⟨_, List.getElem?_eq_getElem (by rw [HQ.out]; omega)⟩
      obtain ⟨gb, rfl, hgS, e0, e1⟩ := HC.out k x hx
      have hgl := hlow gb hgS
      rw [← hT.cell hgl (fun h => h)] at e0 e1
      obtain ⟨f1, f2, f3⟩ := HH.out.frm x (List.mem_of_getElem? hx)
      have f2' := f2.turn hT (fun h => h)
      have hz := rzero_any wr (some ⟨x.2, 0, none⟩) 4096 (fr m x.1) (fun i b hi => ⟨x.2, 0, rfl, by rw [f2'.cell, Nat.zero_add, List.getElem?_map, hi]; rfl⟩) (by rw [fr_len]; omega)
      rw [fr_len] at hz
      have hts := take_snoc fs hx
      have HTS : Hid (fs.take (k + 1) = fs.take k ++ [x]) := hts
      have hLl : L.length ≤ 65536 := Nat.le_trans (rising_len (N := N) hins.1 (fun i hi => by
        obtain ⟨y, hy, e, _⟩ := (hins.2 i).1 hi
        exact ⟨y.1, e, (HH.out.frm y (List.mem_of_mem_take hy)).1⟩)) hN
      by_cases hzx : cnt (fr m x.1) = 0
      · rw [decide_eq_true hzx] at hz
        have HI : Hid (Ins m (fs.take (k + 1)) L) := by show Ins _ _ _; rw [hts]; exact hins.skip hzx
        have HO : Hid _ := hoL
        have HT : Hid _ := hT
        clear hts hx HX hoL hins f1 f2 f2' hT
        go_wp2_with (first
          | (go_at_call 31; refine hz.mono ?_; rintro e w1 ⟨rfl, rfl⟩)
          | go_in)
        go_roundw
        case rel => exact ⟨k + 1, L, by omega, by go_num, HO.out, HI.out, HT.out⟩
        case measure => simp [intOf]; omega
      · rw [decide_eq_false hzx] at hz
        obtain ⟨g, cp, w2, cur, hr, hlog, hrow, hcp1, hcp2, hcl, hT2⟩ := appI wr W.heap.size _ L (x.1 : Int) hoL hT.size (by omega)
        have hnew : ¬ (x.1 : Int) ∈ L := fun hm => by
          obtain ⟨y, hy, e, _⟩ := (hins.2 _).1 hm
          have hp := HH.out.nod1
          obtain ⟨j, hj⟩ := List.getElem?_of_mem hy
          rw [List.getElem?_take] at hj
          split at hj
          · rename_i hjk
            have h1 : (fs.map (·.1))[j]? = some x.1 := by rw [List.getElem?_map, hj, show x.1 = y.1 by omega]; rfl
            have h2 : (fs.map (·.1))[k]? = some x.1 := by rw [List.getElem?_map, hx]; rfl
            have := (List.getElem?_inj (by simpa using (List.getElem?_eq_some_iff.1 hj).1) hp).1 (h1.trans h2.symm)
            omega
          · cases hj
        have HTT : Hid (Turn (fun _ => False) W w2) := hT.trans hT2 (fun x hx => .inr hx)
        have HROW : Hid (RowAt w2 g 3 (encI (L ++ [(x.1 : Int)]) ++ cur) ∧ (encI (L ++ [(x.1 : Int)]) ++ cur).length = cp ∧ cp ≤ maxLen) := ⟨hrow, hcl, hcp2⟩
        have HN : Hid (¬ (x.1 : Int) ∈ L ∧ Ins m (fs.take k) L ∧ cnt (fr m x.1) ≠ 0) := ⟨hnew, hins, hzx⟩
        have hxr : (x.1 : Int) < 65536 := by omega
        clear hts hx HX hoL hins f1 f2 f2' hT hT2 hrow hcl hcp2 hnew hzx
        go_wp2_with (first
          | (go_at_call 31; refine hz.mono ?_; rintro e w1 ⟨rfl, rfl⟩)
          | (at_builtin; refine Lib.wpList_append_run _ rfl _ _ 47 47 rfl _ _ rfl rfl _ _ (hr _) ?_)
          | go_in)
        generalize wr = wz at *
        go_loopw [5] (fun c wr => ∃ P Q : List Int, c = .int .i64 (P.length : Int) ∧ P.length + Q.length = L.length ∧ Hid (P ++ Q = L ∧ (∀ y ∈ Q, (x.1 : Int) < y) ∧ RowAt wr g 3 (encI (P ++ (x.1 : Int) :: Q) ++ cur) ∧ Turn (fun _ => False) W wr)) (fun c _ => (intOf c).toNat)
        case atStart => exact ⟨L, [], rfl, by simp, by simp, by simp, HROW.out.1, HTT.out⟩
        case round =>
          obtain ⟨P, Q, rfl, hPQ, HY⟩ := hrel
          have HEND : Hid ((∀ p ∈ P, p < (x.1 : Int)) → ∀ w3, w3.heap = wr.heap → w3.os = wr.os → w3.tape = wr.tape → w3.output = wr.output → w3.ownsRow W.heap.size 3 1 (.slice (some ⟨g, 0, none⟩) (L.length + 1) cp) (P ++ (x.1 : Int) :: Q).length (encI (P ++ (x.1 : Int) :: Q)) ∧ Ins m (fs.take (k + 1)) (P ++ (x.1 : Int) :: Q) ∧ Turn (fun _ => False) W w3) := by
            intro hP w3 e1 e2 e3 e4
            obtain ⟨hE, hQ, hrow, hT⟩ := HY.out
            have hll : (P ++ (x.1 : Int) :: Q).length = L.length + 1 := by simp; omega
            refine ⟨?_, ?_, ⟨e2.trans hT.os, e3.trans hT.tape, e4.trans hT.output, by rw [e1]; exact hT.size, fun k hk hn => by rw [e1]; exact hT.block k hk hn⟩⟩
            · have hrow3 : RowAt w3 g 3 (encI (P ++ (x.1 : Int) :: Q) ++ cur) := by show w3.heap[g]? = _; rw [e1]; exact hrow
              have hl2 := HROW.out.2.1
              rw [hll]
              refine own_of_row hrow3 hlog hcp1 HROW.out.2.2 ?_ ?_
              · rw [List.length_append, encI_len] at hl2 ⊢
                rw [hll]
                simp at hl2
                omega
              · rw [Nat.mul_one, List.take_append_of_le_length (by rw [encI_len, hll]; exact Nat.le_refl _), List.take_of_length_le (by rw [encI_len, hll]; exact Nat.le_refl _)]
            · rw [HTS.out]
              refine Ins.add (by rw [hE]; exact HN.out.2.1) HN.out.2.2 hP hQ
          rcases List.eq_nil_or_concat P with rfl | ⟨A, p, hPc⟩
          · have hend := HEND.out (by simp)
            have HE2 : Hid _ := hend
            clear hend HEND
            simp only [List.length_nil, Int.natCast_zero] at *
            go_wp2
            go_quiet (fail)
            go_wp2
            go_roundw
            case rel =>
              exact ⟨k + 1, (x.1 : Int) :: Q, by omega, by go_num, by
                have := HE2.out (wr.drewN nq) rfl rfl rfl rfl
                simp only [List.nil_append] at this
                rw [show (x.1 :: Q : List Int).length = L.length + 1 by simp; omega] at *
                exact this⟩
            case measure => simp [intOf]; omega
          · rw [List.concat_eq_append] at hPc
            subst hPc
            have hAl : (A ++ [p]).length = A.length + 1 := by simp
            have hAz : ((A ++ [p]).length : Int) = (A.length : Int) + 1 := by omega
            obtain ⟨hE, hQ, hrow, hT⟩ := HY.out
            have hAL : A.length + 1 ≤ L.length := by omega
            have c0 : wr.cell? ⟨g, A.length, none⟩ = some (.int .i64 p) := by
              rw [hrow.cell, List.getElem?_append_left (by rw [encI_len]; simp)]
              exact encI_at (by simp)
            have c1 : wr.cell? ⟨g, A.length + 1, none⟩ = some (.int .i64 (x.1 : Int)) := by
              rw [hrow.cell, List.getElem?_append_left (by rw [encI_len]; simp)]
              exact encI_at (by simp)
            have hfz := hrow.frozen
            have hpr : 0 ≤ p ∧ p < 65536 := by
              obtain ⟨y, hy, e, _⟩ := (HN.out.2.1.2 p).1 (by rw [← hE]; simp)
              have := (HH.out.frm y (List.mem_of_mem_take hy)).1
              omega
            rw [hAz]
            have b1 : (0 : Int) < (A.length : Int) + 1 := by omega
            have b2 : (A.length : Int) < (L.length : Int) + 1 := by omega
            have b3 : (A.length : Int) + 1 < (L.length : Int) + 1 := by omega
            have b4 : (A.length : Int) + 1 - 1 = (A.length : Int) := by omega
            by_cases hgt : (x.1 : Int) < p
            · have HY2 : Hid _ := HY.out
              clear HEND HY hE hQ hrow hT
              go_wp2
              go_quiet (fail)
              go_wp2
              go_big_region
              go_wp2
              go_roundw
              case rel =>
                obtain ⟨hE, hQ, hrow, hT⟩ := HY2.out
                refine ⟨A, p :: Q, rfl, by simp; omega, by rw [← hE]; simp, fun y hy => ?_, ?_, ?_⟩
                · rcases List.mem_cons.1 hy with rfl | hy
                  · exact hgt
                  · exact hQ y hy
                · have h3 : RowAt (wr.drewN (nq + 1)) g 3 (encI (A ++ [p] ++ (x.1 : Int) :: Q) ++ cur) := hrow
                  have h4 := (h3.set A.length (.int .i64 (x.1 : Int))).set (A.length + 1) (.int .i64 p)
                  have e5 : ((encI (A ++ [p] ++ (x.1 : Int) :: Q) ++ cur).set A.length (.int .i64 (x.1 : Int))).set (A.length + 1) (.int .i64 p) = encI (A ++ (x.1 : Int) :: p :: Q) ++ cur := by
                    simp [encI]
                  rw [e5] at h4
                  exact h4
                · exact ((hT.drewN (nq + 1)).setCell (.inr hlog) _).setCell (.inr hlog) _
              case measure => simp [intOf]
            · have hple : p < (x.1 : Int) := by
                have hne : p ≠ (x.1 : Int) := fun e => HN.out.1 (by rw [← e, ← hE]; simp)
                omega
              have hend := HEND.out (fun y hy => by
                rcases List.mem_append.1 hy with hy | hy
                · have h1 := HN.out.2.1.1
                  rw [← hE, List.append_assoc, List.pairwise_append] at h1
                  have := h1.2.2 y hy p (by simp)
                  omega
                · simp at hy
                  omega)
              have HE2 : Hid _ := hend
              have hdb : decide ((x.1 : Int) < p) = false := decide_eq_false hgt
              clear hend HEND HY hE hQ hrow hT hgt hple
              go_wp2
              go_quiet (fail)
              go_wp2
              go_roundw
              case rel => exact ⟨k + 1, A ++ [p] ++ (x.1 : Int) :: Q, by omega, by go_num, by
                have := HE2.out (wr.drewN nq) rfl rfl rfl rfl
                rw [show (A ++ [p] ++ (x.1 : Int) :: Q).length = L.length + 1 by simp; omega] at *
                exact this⟩
              case measure => simp [intOf]; omega
    · have hkn : fs.take k = fs := List.take_of_length_le (by rw [HQ.out]; omega)
      rw [hkn] at hins
      have HF : Hid (Touch N m L) := ⟨hins.1, fun i => (hins.2 i).trans ⟨fun ⟨x, hx, e, hc⟩ => ⟨x.1, e, (HH.out.frm x hx).1, hc⟩, fun ⟨n, e, hn, hc⟩ => by
        rcases HH.out.parted n with ⟨j, x, hx, hxn⟩ | hno
        · exact ⟨x, List.mem_of_getElem? hx, by rw [hxn]; exact e, by rw [hxn]; exact hc⟩
        · exact absurd (HH.out.out n hn hno) hc⟩⟩
      have HO : Hid _ := hoL
      have HT : Hid _ := hT
      clear hins HX hoL hT hkn
      go_wp2
      go_ret
      exact ⟨_, L, rfl, HF.out, HO.out, HT.out⟩
end Go.Proofs.Ytlfgnbjioofplab

import Derived.Test.YtlfgnbjioofplaaPv
import Derived.Test.YtlfgnbjioofplaaHo
import Derived.Test.YtlfgnbjioofplaaOq
namespace Go.Proofs.Ytlfgnbjioofplaa
open Go.RowKit
set_option linter.unusedVariables false

/-- The bytes of a book, in a new list. -/
theorem app_book (w : World) (bk : Nat) (m : Nat → Int) (cap : Nat) (hb : Bk w bk m) :
    ∃ g cp w', (∀ ty, (Builtin.append_ #[38, 38] ty #[.slice (some ⟨w.heap.size, 0, none⟩) 0 0, .slice (some ⟨bk, 0, none⟩) 16384 cap]).run Try.prog (w.alloc (.cells #[] 5)) = .ok (.slice (some ⟨g, 0, none⟩) 16384 cp) w') ∧ w.heap.size ≤ g ∧ g < w'.heap.size ∧ (∀ i, i < 16384 → w'.cell? ⟨g, i, none⟩ = some (.int .u8 (m i))) ∧ Turn (fun _ => False) w w' := by
  obtain ⟨i0, hi, hz0, hz1, hz2⟩ := info_parts info8
  have hB := row_new w [] 5
  have ho : (w.alloc (.cells #[] 5)).ownsRow w.heap.size 5 1 (.slice (some ⟨w.heap.size, 0, none⟩) 0 0) 0 [] := own_of_row hB (Nat.le_refl _) (Nat.le_refl _) (Nat.zero_le _) rfl rfl
  have hb1 : Bk (w.alloc (.cells #[] 5)) bk m := hb.turn ((Turn.refl (fun _ => False) w).alloc _) (fun h => h)
  obtain ⟨v', w', hr, ho', hg, hbn⟩ := append_any (P := Try.prog) (w.alloc (.cells #[] 5)) 38 5 i0 _ Try.underlying38 hi hz0 (by rw [hz1]; rfl) w.heap.size 0 16384 _ (.slice (some ⟨bk, 0, none⟩) 16384 cap) [] (encB (rd m 0 16384)) (by rw [hz1]; exact ho)
    (by rw [hz1]; exact Src.ofSlice _ Try.underlying38 ⟨bk, 0, none⟩ 16384 cap _ (by rw [encB_len, rd_len]) (fun j u hj => by rw [Addr.add_lit, Nat.zero_add]; exact (RowAt.cell hb1 j).trans hj) (encB_one _)) (by simp) (by unfold maxLen; omega) (by rw [hz2]; omega)
  rw [hz1, List.nil_append, Nat.zero_add] at ho'
  have hT : Turn (fun _ => False) w w' := ((Turn.refl (fun _ => False) w).alloc (.cells #[] 5)).trans (S' := fun x => x = w.heap.size) (Turn.grown hg (fun k hk => by cases hk; exact .inl rfl)) (fun x hx => .inr (by rw [hx]; exact Nat.le_refl _))
  rcases row_of_own ho' with ⟨_, h2, _⟩ | ⟨g, cp, cur, rfl, a, b, c, d, e1, f⟩
  · omega
  · refine ⟨g, cp, w', hr, a, b.lt, fun i hi => ?_, hT⟩
    rw [b.cell]
    have := congrArg (fun l => l[i]?) f
    simp only [Nat.mul_one, List.getElem?_take_of_lt hi] at this
    rw [this]
    refine encB_at ?_
    rw [rd_at _ _ _ hi, Nat.zero_add]

/-- The clone, and the book as it was then. -/
def Cl (w : World) (S : Nat → Prop) (bk : Nat) (c old : Value) : Prop :=
  c = .pointer none ∨ ∃ q T m2 g cap, c = .pointer (some ⟨q, 0, none⟩) ∧ old = .slice (some ⟨g, 0, none⟩) 16384 cap ∧ PM w T q 4 m2 ∧ (∀ i, i < 16384 → w.cell? ⟨g, i, none⟩ = some (.int .u8 (m2 i))) ∧ g < w.heap.size ∧ (∀ b, T b → ¬ S b ∧ b ≠ bk) ∧ ¬ S g ∧ g ≠ bk
theorem Cl.keep {w w' : World} {S : Nat → Prop} {bk : Nat} {c old : Value} (h : Cl w S bk c old) (T : Turn (fun b => S b ∨ b = bk) w w') : Cl w' (gr S w w') bk c old := by
  rcases h with h | ⟨q, T2, m2, g, cap, rfl, rfl, hp, hc, hg, hd, h1, h2⟩
  · exact .inl h
  · refine .inr ⟨q, T2, m2, g, cap, rfl, rfl, hp.keep T (fun b hb hx => ?_), fun i hi => ?_, Nat.lt_of_lt_of_le hg T.size, fun b hb => ⟨?_, (hd b hb).2⟩, ?_, h2⟩
    · rcases hx with hx | hx
      · exact (hd b hb).1 hx
      · exact (hd b hb).2 hx
    · rw [T.cell hg (fun hx => hx.elim h1 h2)]
      exact hc i hi
    · rintro (hx | ⟨hx, _⟩)
      · exact (hd b hb).1 hx
      · have := hp.low b hb
        omega
    · rintro (hx | ⟨hx, _⟩)
      · exact h1 hx
      · omega
theorem Cl.drew {w w' : World} {S : Nat → Prop} {bk : Nat} {c old : Value} (h : Cl w S bk c old) (T : Turn (fun _ => False) w w') : Cl w' S bk c old := by
  rcases h with h | ⟨q, T2, m2, g, cap, rfl, rfl, hp, hc, hg, hd, h1, h2⟩
  · exact .inl h
  · exact .inr ⟨q, T2, m2, g, cap, rfl, rfl, hp.keep T (fun b hb hx => hx), fun i hi => by rw [T.cell hg (fun hx => hx)]; exact hc i hi, Nat.lt_of_lt_of_le hg T.size, hd, h1, h2⟩

/-- What the script has come to. -/
structure LS (W w : World) (p bk : Nat) (c old : Value) : Prop where
  st : ∃ S m, PB w S p bk m ∧ Cl w S bk c old ∧ ∀ b, S b → W.heap.size ≤ b
  trn : Turn (fun b => W.heap.size ≤ b) W w
  lo : W.heap.size ≤ bk

theorem LS.put {W w : World} {p bk : Nat} {c old : Value} (h : LS W w p bk c old) (cap : Nat) (A v wide : Int) (wp : Bool) (hv0 : 0 ≤ v) (hv1 : v < 256) :
    Calls Try.prog 16 #[.pointer (some ⟨p, 0, none⟩), .slice (some ⟨bk, 0, none⟩) 16384 cap, .agg #[.int .i64 A, .int .u8 v, .bool wp, .int .i64 wide]] w fun e w' => e = .returned (.bool true) ∧ LS W w' p bk c old := by
  obtain ⟨⟨S, m, hP, hC, hS⟩, hT, hl⟩ := h
  refine (puts_any w S p bk m cap A v wide wp hv0 hv1 hP).mono ?_
  rintro e w' ⟨rfl, m', h1, h2⟩
  have hz := hT.size
  refine ⟨rfl, ⟨⟨_, m', h1, hC.keep h2, ?_⟩, hT.trans h2 ?_, hl⟩⟩
  · rintro b (hb | ⟨hb, _⟩)
    · exact hS b hb
    · omega
  · rintro x (hx | rfl)
    · exact .inl (hS x hx)
    · exact .inl hl
theorem LS.drew {W w w' : World} {p bk : Nat} {c old : Value} (h : LS W w p bk c old) (T : Turn (fun _ => False) w w') : LS W w' p bk c old := by
  obtain ⟨⟨S, m, ⟨hP, hB, hn⟩, hC, hS⟩, hT, hl⟩ := h
  exact ⟨⟨S, m, ⟨hP.keep T (fun _ _ h => h), hB.turn T (fun h => h), hn⟩, hC.drew T, hS⟩, hT.trans T (fun _ h => h.elim), hl⟩
/-- A clone is made, and the book is kept beside. -/
theorem LS.clone {W w : World} {p bk : Nat} {c old : Value} (h : LS W w p bk c old) (cap : Nat) :
    Calls Try.prog 15 #[.pointer (some ⟨p, 0, none⟩)] w fun e w1 => ∃ q, e = .returned (.pointer (some ⟨q, 0, none⟩)) ∧ ∃ g cp w2, (∀ ty, (Builtin.append_ #[38, 38] ty #[.slice (some ⟨w1.heap.size, 0, none⟩) 0 0, .slice (some ⟨bk, 0, none⟩) 16384 cap]).run Try.prog (w1.alloc (.cells #[] 5)) = .ok (.slice (some ⟨g, 0, none⟩) 16384 cp) w2) ∧ LS W w2 p bk (.pointer (some ⟨q, 0, none⟩)) (.slice (some ⟨g, 0, none⟩) 16384 cp) := by
  obtain ⟨⟨S, m, ⟨hP, hB, hn⟩, hC, hS⟩, hT, hl⟩ := h
  refine (clone_any w S p 4 m hP).mono ?_
  rintro e w1 ⟨q, rfl, h1, h2⟩
  have hB1 := hB.turn h2 (fun h => h)
  obtain ⟨g, cp, w2, hr, hg, hg2, hc, ht⟩ := app_book w1 bk m cap hB1
  have hbl := RowAt.lt hB
  have hz := h2.size
  have hlow := hP.low
  refine ⟨q, rfl, g, cp, w2, hr, ⟨⟨S, m, ⟨(hP.keep h2 (fun _ _ h => h)).keep ht (fun _ _ h => h), hB1.turn ht (fun h => h), hn⟩, ?_, hS⟩, (hT.trans h2 (fun _ h => h.elim)).trans ht (fun _ h => h.elim), hl⟩⟩
  refine .inr ⟨q, _, m, g, cp, rfl, rfl, h1.keep ht (fun _ _ h => h), hc, hg2, ?_, ?_, by omega⟩
  · rintro b (hb | ⟨hb, _⟩)
    · exact hb.elim
    · exact ⟨fun hs => by have := hlow b hs; omega, by omega⟩
  · exact fun hs => by have := hlow g hs; omega
theorem LS.holds1 {W w : World} {p bk : Nat} {c old : Value} (h : LS W w p bk c old) (cap : Nat) :
    Calls Try.prog 17 #[.pointer (some ⟨p, 0, none⟩), .slice (some ⟨bk, 0, none⟩) 16384 cap] w fun e w' => e = .returned (.bool true) ∧ LS W w' p bk c old := by
  have h' := h
  obtain ⟨⟨S, m, ⟨hP, hB, hn⟩, hC, hS⟩, hT, hl⟩ := h
  refine (holds_any w S p bk m cap hP (fun i hi => hB.cell hi) (RowAt.lt hB)).mono ?_
  rintro e w' ⟨rfl, ht⟩
  exact ⟨rfl, h'.drew ht⟩
theorem LS.holds2 {W w : World} {p bk q : Nat} {old : Value} (h : LS W w p bk (.pointer (some ⟨q, 0, none⟩)) old) :
    ∃ g cap, old = .slice (some ⟨g, 0, none⟩) 16384 cap ∧ Calls Try.prog 17 #[.pointer (some ⟨q, 0, none⟩), .slice (some ⟨g, 0, none⟩) 16384 cap] w fun e w' => e = .returned (.bool true) ∧ Turn (fun b => W.heap.size ≤ b) W w' := by
  obtain ⟨⟨S, m, ⟨hP, hB, hn⟩, hC, hS⟩, hT, hl⟩ := h
  rcases hC with h | ⟨q', T2, m2, g, cap, e1, rfl, hp, hc, hg, hd, h1, h2⟩
  · cases h
  · cases e1
    refine ⟨g, cap, rfl, (holds_any w T2 q g m2 cap hp hc hg).mono ?_⟩
    rintro e w' ⟨rfl, ht⟩
    exact ⟨rfl, hT.trans ht (fun _ h => h.elim)⟩
/-- The beginning: a memory whose last byte is 9, and its book. -/
theorem LS.start {W w1 w2 : World} {p : Nat} (h1 : PM w1 (gr (fun _ => False) W w1) p 4 (fun _ => 0)) (t1 : Turn (fun _ => False) W w1) (h2 : PM w2 (gr (gr (fun _ => False) W w1) w1 w2) p 4 (setV 4 (fun _ => 0) 16383 1 9)) (t2 : Turn (gr (fun _ => False) W w1) w1 w2) (old : Value) :
    LS W ((w2.alloc (.cells (zr 16384 (Value.int .u8 0)) 5)).setCell ⟨w2.heap.size, 16383, none⟩ (.int .u8 9)) p w2.heap.size (.pointer none) old := by
  have z1 := t1.size
  have z2 := t2.size
  have hm : setV 4 (fun _ => 0) 16383 1 9 = upd (fun _ => 0) 16383 9 := by
    rw [upd_wrs1 _ _ _ (by omega) (by omega), if_pos (err0 16383 1 (by omega) (by omega) (by omega))]
  rw [hm] at h2
  have hb0 : Bk (w2.alloc (.cells (zr 16384 (Value.int .u8 0)) 5)) w2.heap.size (fun _ => 0) := by
    have := zr_row w2 16384 (.int .u8 0) 5
    unfold Bk
    rw [show rd (fun _ => (0 : Int)) 0 16384 = List.replicate 16384 0 from rd_zero (fun _ _ => rfl)]
    unfold encB
    rw [List.map_replicate]
    exact this
  have hb1 := hb0.upd 16383 9
  have hlow := h2.low
  have t3 : Turn (fun b => b = w2.heap.size) w2 ((w2.alloc (.cells (zr 16384 (Value.int .u8 0)) 5)).setCell ⟨w2.heap.size, 16383, none⟩ (.int .u8 9)) := ((Turn.refl (fun b => b = w2.heap.size) w2).alloc _).setCell (p := ⟨w2.heap.size, 16383, none⟩) (.inl rfl) _
  refine ⟨⟨_, _, ⟨h2.keep t3 ?_, hb1, ?_⟩, .inl rfl, ?_⟩, ?_, by omega⟩
  · intro b hb e
    have := hlow b hb
    omega
  · intro hb
    have := hlow _ hb
    omega
  · rintro b ((hb | ⟨hb, _⟩) | ⟨hb, _⟩)
    · exact hb.elim
    · exact hb
    · omega
  · refine ((t1.mono (S' := fun b => W.heap.size ≤ b) (fun _ _ h => h.elim)).trans t2 ?_).trans t3 ?_
    · rintro x (hx | ⟨hx, _⟩)
      · exact hx.elim
      · exact .inl hx
    · rintro x rfl
      exact .inl (by omega)
end Go.Proofs.Ytlfgnbjioofplaa

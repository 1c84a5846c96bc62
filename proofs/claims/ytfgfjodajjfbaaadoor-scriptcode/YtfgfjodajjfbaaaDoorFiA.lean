import Derived.Test.YtfgfjodajjfbaaaDoorCu
import Derived.Test.YtfgfjodajjfbaaaDoorPlD
namespace Go.Proofs.YtfgfjodajjfbaaaDoor
open Go.RowKit
set_option linter.unusedVariables false

theorem info9 : (Tryd.prog.info? 9).map (fun i => (i.zero, i.size, i.bytes)) = some (some (.string ⟨#[]⟩), 1, 16) := by kernel_rfl

/-- A list of texts, owned from block B on. -/
def Owns (B : Nat) (w : World) (v : Value) (l : List ByteArray) : Prop := w.ownsRow B 9 1 v l.length (l.map Value.string)

theorem owns_nil (B : Nat) (w : World) : Owns B w (.slice none 0 0) [] := World.ownsRow_nil _ _ _ _

theorem owns_drewN {B : Nat} {w : World} {v : Value} {l : List ByteArray} (h : Owns B w v l) (q : Nat) : Owns B (w.drewN q) v l := by
  obtain ⟨h1, h2⟩ := h
  refine ⟨h1, ?_⟩
  rcases h2 with h2 | ⟨g, cap, cur, a, b, c, d⟩
  · exact .inl h2
  · exact .inr ⟨g, cap, cur, a, b, c, d⟩

theorem owns_mono {B C : Nat} {w : World} {v : Value} {l : List ByteArray} (h : Owns B w v l) (hC : C ≤ B) : Owns C w v l := by
  obtain ⟨h1, h2⟩ := h
  refine ⟨h1, ?_⟩
  rcases h2 with h2 | ⟨g, cap, cur, a, b, c⟩
  · exact .inl h2
  · exact .inr ⟨g, cap, cur, a, by omega, c⟩

/-- An iterator's step, the list kept. -/
theorem next_step {B : Nat} {w wr : World} {t : ByteArray} {pos : Nat} {v : Value} {l : List ByteArray} (hB : Below B w wr) (hsz : B + 1 ≤ wr.heap.size) (hit : wr.heap[B]? = some (.stringIter t pos)) (hown : Owns (B + 1) wr v l) (hp : pos < t.size) :
    ∃ u : World, (∀ ty, (Instr.next (.pointer (some ⟨B, 0, none⟩)) true ty).run Tryd.prog wr = .ok (.tuple #[.bool true, .int .i64 pos, .int .i32 (Utf8.decode t pos).1]) u) ∧
      Below B w u ∧ B + 1 ≤ u.heap.size ∧ u.heap[B]? = some (.stringIter t (pos + (Utf8.decode t pos).2)) ∧ Owns (B + 1) u v l :=
  ⟨wr.iterAt B t (pos + (Utf8.decode t pos).2), fun ty => Lib.run_next_any_at wr B t pos ty hit hp, Lib.below_iterAt hB (Nat.le_refl _) _ _, by rw [Lib.iterAt_size]; exact hsz,
    Lib.iterAt_heap wr B t pos _ hit, ownsRow_iterAt hown (by omega) _ _⟩

/-- Behind an append. -/
theorem app_step {B C : Nat} {w u w1 : World} {v v' : Value} {acc : List ByteArray} {x : ByteArray} {o : Obj} (hC : B ≤ C) (hB : Below B w u) (hsz : C ≤ u.heap.size) (hown : Owns C u v acc)
    (hown' : w1.ownsRow C 9 1 v' (acc.length + 1) (acc.map Value.string ++ [.string x])) (hg : (u.alloc o).grownBy w1 v.ownBlock) :
    Below B w w1 ∧ C ≤ w1.heap.size ∧ Owns C w1 v' (acc ++ [x]) ∧ ∀ k, k < C → w1.heap[k]? = u.heap[k]? := by
  have hrow : ∀ k, v.ownBlock = some k → C ≤ k := fun k hk => (World.ownsRow.lt hown k hk).1
  have hsz' : (u.alloc o).heap.size = u.heap.size + 1 := by simp
  refine ⟨(hB.alloc (by omega) o).grown hg (by omega) (fun k hk => by have := hrow k hk; omega), by have := hg.size; omega, ?_, fun k hk => ?_⟩
  · unfold Owns
    simpa using hown'
  · rw [hg.block k (by omega) (fun e => by have := hrow k e.symm; omega)]
    exact Below.heap_alloc _ _ _ (by omega)

theorem cell_new (u : World) (x : Value) (t : TypeId) : ∀ j y, [x][j]? = some y → (u.alloc (.cells #[x] t)).cell? ((⟨u.heap.size, 0, none⟩ : Addr).add j) = some y := by
  intro j y hj
  match j, hj with
  | 0, hj => simp at hj; subst hj; simp [Addr.add]
  | j + 1, hj => simp at hj

set_option maxRecDepth 100000 in
set_option maxHeartbeats 2000000 in
/-- words.Fields. -/
theorem fields_any (s : ByteArray) (w : World) (hs : s.size ≤ 2097152) :
    Calls Tryd.prog 14 #[.string s] w fun e w' => ∃ v, e = .returned v ∧ Owns w.heap.size w' v (fieldsB (ahead s)) ∧ Below w.heap.size w w' := by
  obtain ⟨i0, hi, hz0, hz1, hz2⟩ := info_parts info9
  have hts : (ahead s).size ≤ 2097152 := by rw [ahead_size]; have := hpos_le s; omega
  have HCUT : Hid (∀ W, Calls Tryd.prog 25 #[.string s, .string ⟨#[35]⟩] W fun e w' => ∃ a b, e = .returned (.tuple #[.string (ahead s), .string a, .bool b]) ∧ ∃ q, w' = W.drewN q) := fun W => cut_any s W (by omega)
  generalize ahead s = t at hts HCUT ⊢
  go_enter Tryd.func14, Tryd.ntmps14
  go_wp2_with (go_at_call 25; refine (HCUT.out _).mono ?_; rintro e w' ⟨a, b, rfl, q, rfl⟩)
  go_loopw [6, 7, 8, 9] (fun v y _ _ w' => ∃ (pos f : Nat) (st : Int) (acc : List ByteArray), Below w.heap.size w w' ∧ w.heap.size + 1 ≤ w'.heap.size ∧ w'.heap[w.heap.size]? = some (.stringIter t pos) ∧ Owns (w.heap.size + 1) w' v acc ∧ y = .int .i64 st ∧ acc ++ fieldsFrom t f pos st = fieldsB t ∧ t.size ≤ pos + f ∧ acc.length ≤ pos ∧ -1 ≤ st ∧ st ≤ pos ∧ pos ≤ t.size) (fun _ _ _ _ w' => t.size - w'.iterPos w.heap.size)
  case atStart => exact ⟨0, t.size, -1, [], (below_drewN (Below.refl _ _) q).alloc (Nat.le_refl _) _, by show w.heap.size + 1 ≤ (w.heap.push _).size; simp, World.iter_heap (w.drewN q) t 0, owns_nil _ _, rfl, rfl, by omega, by simp, by omega, by omega, by omega⟩
  case round =>
    obtain ⟨pos, f, st, acc, hB, hsz, hit, hown, rfl, hc, hf, hl, hst0, hst1, hle⟩ := hrel
    have HC : Hid (_ = _) := hc
    clear hc
    by_cases hp : pos < t.size
    · obtain ⟨u, hnx, hB2, hsz2, hit2, hown2⟩ := next_step hB hsz hit hown hp
      have hmeas : wr.iterPos w.heap.size = pos := iterPos_of hit
      have HM : Hid (_ = _) := hmeas
      have HI : Hid (_ = _) := hit2
      have hwd := rl_bd t pos
      have hin := rl_in t pos hp
      unfold rl at hwd hin
      clear hit hit2 hmeas
      cases hb : blk ((Utf8.decode t pos).1 : Int)
      · have HBK : Hid (_ = _) := hb
        clear hb
        by_cases hst : 0 ≤ st
        · go_wp2_with (go_at_call 26; refine (isBlank_any _ _).mono ?_; rintro e w' ⟨rfl, rfl⟩; rw [HBK.out])
          go_roundw
          case rel =>
            obtain ⟨g, rfl, hg⟩ := fields_in hp hf HBK.out hst
            exact ⟨_, g, st, acc, hB2, hsz2, HI.out, hown2, rfl, by rw [← hg]; exact HC.out, by omega, by omega, hst0, by omega, hin⟩
          case measure =>
            rw [HM.out, iterPos_of HI.out]
            omega
        · have hstn : st < 0 := by omega
          go_wp2_with (go_at_call 26; refine (isBlank_any _ _).mono ?_; rintro e w' ⟨rfl, rfl⟩; rw [HBK.out])
          go_roundw
          case rel =>
            obtain ⟨g, rfl, hg⟩ := fields_on (st := st) hp hf HBK.out (by omega)
            exact ⟨_, g, pos, acc, hB2, hsz2, HI.out, hown2, rfl, by rw [← hg]; exact HC.out, by omega, by omega, by omega, by omega, hin⟩
          case measure =>
            rw [HM.out, iterPos_of HI.out]
            omega
      · have HBK : Hid (_ = _) := hb
        clear hb
        by_cases hst : 0 ≤ st
        · obtain ⟨k, rfl⟩ := Int.eq_ofNat_of_zero_le hst
          have hk1 : (k : Int) ≤ (pos : Int) := hst1
          have hk2 : (pos : Int) ≤ (t.size : Int) := by omega
          go_wp2_with (first | (go_at_call 26; refine (isBlank_any _ _).mono ?_; rintro e w' ⟨rfl, rfl⟩; rw [HBK.out]) | (at_builtin; refine wpList_append_own _ rfl _ _ 56 rfl (w.heap.size + 1) 9 i0 (.string ⟨#[]⟩) 1 16 Tryd.underlying56 hi hz0 hz1 hz2 rfl (by decide) _ _ _ rfl (World.ownsRow.alloc hown2 _) ⟨u.heap.size, 0, none⟩ 1 1 [.string (t.extract k pos)] rfl rfl ?c1 ?c2 ?c3 ?c4 ?c5 ?_))
          case c1 => exact cell_new u _ _
          case c2 => intro y hy; simp at hy; subst hy; rfl
          case c3 => unfold maxLen; omega
          case c4 => omega
          case c5 => simp; omega
          · intro v' w1 hown3 hgrow _
            obtain ⟨hB3, hsz3, hown4, hkeep⟩ := app_step (by omega) hB2 hsz2 hown2 hown3 hgrow
            have HI3 : Hid (w1.heap[w.heap.size]? = some (.stringIter t (pos + (Utf8.decode t pos).2))) := (hkeep _ (by omega)).trans HI.out
            clear hown3 hgrow hkeep hown2 hB2 HI
            go_wp2
            go_roundw
            case rel =>
              obtain ⟨g, rfl, hg⟩ := fields_cut hp hf HBK.out hst
              exact ⟨_, g, -1, acc ++ [t.extract k pos], hB3, hsz3, HI3.out, hown4, rfl, by rw [← HC.out, hg]; simp, by omega, by simp; omega, by omega, by omega, hin⟩
            case measure =>
              rw [HM.out, iterPos_of HI3.out]
              omega
        · have hstn : st < 0 := by omega
          go_wp2_with (go_at_call 26; refine (isBlank_any _ _).mono ?_; rintro e w' ⟨rfl, rfl⟩; rw [HBK.out])
          go_roundw
          case rel =>
            obtain ⟨g, rfl, hg⟩ := fields_skip (st := st) hp hf HBK.out (by omega)
            exact ⟨_, g, -1, acc, hB2, hsz2, HI.out, hown2, by go_num, by rw [← hg]; exact HC.out, by omega, by omega, by omega, by omega, hin⟩
          case measure =>
            rw [HM.out, iterPos_of HI.out]
            omega
    · have hnx : ∀ ty, (Instr.next (.pointer (some ⟨w.heap.size, 0, none⟩)) true ty).run Tryd.prog wr = _ := fun ty => Lib.run_next_end_at wr _ t pos ty hit hp
      have HE : Hid (_ = _) := fields_end (t := t) (f := f) (st := st) hp
      by_cases hst : 0 ≤ st
      · obtain ⟨k, rfl⟩ := Int.eq_ofNat_of_zero_le hst
        have hk1 : (k : Int) ≤ (t.size : Int) := by omega
        go_wp2_with (at_builtin; refine wpList_append_own _ rfl _ _ 56 rfl (w.heap.size + 1) 9 i0 (.string ⟨#[]⟩) 1 16 Tryd.underlying56 hi hz0 hz1 hz2 rfl (by decide) _ _ _ rfl (World.ownsRow.alloc hown _) ⟨wr.heap.size, 0, none⟩ 1 1 [.string (t.extract k t.size)] rfl rfl ?c1 ?c2 ?c3 ?c4 ?c5 ?_)
        case c1 => exact cell_new wr _ _
        case c2 => intro y hy; simp at hy; subst hy; rfl
        case c3 => unfold maxLen; omega
        case c4 => omega
        case c5 => simp; omega
        · intro v' w1 hown3 hgrow _
          obtain ⟨hB3, hsz3, hown4, hkeep⟩ := app_step (by omega) hB hsz hown hown3 hgrow
          clear hown3 hgrow hkeep
          go_wp2
          go_ret
          refine ⟨_, rfl, ?_, hB3⟩
          rw [← HC.out, HE.out, if_pos hst]
          exact owns_mono hown4 (by omega)
      · have hstn : st < 0 := by omega
        go_wp2
        go_ret
        refine ⟨_, rfl, ?_, hB⟩
        rw [← HC.out, HE.out, if_neg (by omega), List.append_nil]
        exact owns_mono hown (by omega)
end Go.Proofs.YtfgfjodajjfbaaaDoor

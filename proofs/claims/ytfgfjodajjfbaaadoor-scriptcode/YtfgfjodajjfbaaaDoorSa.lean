import Derived.Test.YtfgfjodajjfbaaaDoorSp
namespace Go.Proofs.YtfgfjodajjfbaaaDoor
open Go.RowKit
set_option linter.unusedVariables false

theorem s_ne {a b : ByteArray} (h : a ≠ b) : (a.toList == b.toList) = false := by
  rw [ByteArray.toList_eq, ByteArray.toList_eq]
  refine beq_eq_false_iff_ne.2 fun e => h ?_
  exact ByteArray.ext (Array.ext' e)
theorem s_is {a b : ByteArray} (h : a = b) : (a.toList == b.toList) = true := by
  subst h
  simp
theorem s_neL {a b : ByteArray} {l : List UInt8} (h : a ≠ b) (hl : b.toList = l) : (a.toList == l) = false := by rw [← hl]; exact s_ne h
theorem s_isL {a b : ByteArray} {l : List UInt8} (h : a = b) (hl : b.toList = l) : (a.toList == l) = true := by rw [← hl]; exact s_is h
/-- One list or another, by an error. -/
def pickL (e : Int) (a b : List Value) : List Value := if e = 0 then a else b
theorem pickL_ne {e : Int} (a b : List Value) (h : e ≠ 0) : pickL e a b = b := if_neg h
/-- One block alone has turned. -/
abbrev TA (g : Nat) (w w' : World) : Prop := Turn (fun b => b = g) w w'
theorem TA.set {g : Nat} {w w' : World} (h : TA g w w') (o : Nat) (u : Value) : TA g w (w'.setCell ⟨g, o, none⟩ u) := Turn.setCell (S := fun b => b = g) (p := ⟨g, o, none⟩) h (.inl rfl) u
theorem TA.of {g : Nat} {w w' : World} (h : Below w.heap.size w w') : TA g w w' := Turn.below h
/-- The program's tables. -/
structure TP (w : World) : Prop where
  nm : ∀ j, j < 21 → w.cell? ⟨0, j, none⟩ = some (.string (nmW j))
  ac : w.cell? ⟨2, 0, none⟩ = some (.string noneW) ∧ w.cell? ⟨2, 1, none⟩ = some (.string evictW) ∧ w.cell? ⟨2, 2, none⟩ = some (.string fillW) ∧ w.cell? ⟨2, 3, none⟩ = some (.string eW)
  tb : w.cell? ⟨3, 0, none⟩ = some (.string eW) ∧ w.cell? ⟨3, 1, none⟩ = some (.string iW) ∧ w.cell? ⟨3, 2, none⟩ = some (.string dW) ∧ w.cell? ⟨3, 3, none⟩ = some (.string mainW)
  sz : Tab w
theorem cell_keep {w w' : World} {p : Addr} {v : Value} (h : w.cell? p = some v) (hb : Below w.heap.size w w') : w'.cell? p = some v := (hb.cell (cell_lt h)).trans h
theorem Tab.below {w w' : World} (h : Tab w) (hb : Below w.heap.size w w') : Tab w' := ⟨cell_keep h.c1 hb, cell_keep h.c2 hb, cell_keep h.c3 hb, cell_keep h.c4 hb⟩
theorem TP.below {w w' : World} (h : TP w) (hb : Below w.heap.size w w') : TP w' :=
  ⟨fun j hj => cell_keep (h.nm j hj) hb, ⟨cell_keep h.ac.1 hb, cell_keep h.ac.2.1 hb, cell_keep h.ac.2.2.1 hb, cell_keep h.ac.2.2.2 hb⟩, ⟨cell_keep h.tb.1 hb, cell_keep h.tb.2.1 hb, cell_keep h.tb.2.2.1 hb, cell_keep h.tb.2.2.2 hb⟩, h.sz.below hb⟩
theorem cell_turn {S : Nat → Prop} {w w' : World} {p : Addr} {v : Value} (h : w.cell? p = some v) (hb : Turn S w w') (hn : ¬ S p.block) : w'.cell? p = some v := by
  have := hb.block p.block (cell_lt h) hn
  unfold World.cell? at h ⊢
  rw [this]
  exact h
theorem Tab.turn {S : Nat → Prop} {w w' : World} (h : Tab w) (hb : Turn S w w') (hS : ∀ b, b ≤ 8 → ¬ S b) : Tab w' := ⟨cell_turn h.c1 hb (hS _ (by simp)), cell_turn h.c2 hb (hS _ (by simp)), cell_turn h.c3 hb (hS _ (by simp)), cell_turn h.c4 hb (hS _ (by simp))⟩
theorem TP.turn {S : Nat → Prop} {w w' : World} (h : TP w) (hb : Turn S w w') (hS : ∀ b, b ≤ 8 → ¬ S b) : TP w' :=
  ⟨fun j hj => cell_turn (h.nm j hj) hb (hS _ (by simp)), ⟨cell_turn h.ac.1 hb (hS _ (by simp)), cell_turn h.ac.2.1 hb (hS _ (by simp)), cell_turn h.ac.2.2.1 hb (hS _ (by simp)), cell_turn h.ac.2.2.2 hb (hS _ (by simp))⟩, ⟨cell_turn h.tb.1 hb (hS _ (by simp)), cell_turn h.tb.2.1 hb (hS _ (by simp)), cell_turn h.tb.2.2.1 hb (hS _ (by simp)), cell_turn h.tb.2.2.2 hb (hS _ (by simp))⟩, h.sz.turn hb hS⟩

set_option maxRecDepth 100000 in
set_option maxHeartbeats 400000 in
/-- script.kindOf. -/
theorem kindOf_any (s : ByteArray) (w : World) (ht : TP w) : Calls Tryd.prog 15 #[.string s] w fun e w' => e = .returned (.int .i64 (kindN s)) ∧ w = w' := by
  have HT : Hid _ := ht.nm
  clear ht
  go_enter Tryd.func15, Tryd.ntmps15
  go_wp2
  go_loopw [2, 3] (fun r i wr => ∃ (n : Nat), r = .int .i64 0 ∧ i = .int .i64 n ∧ w = wr ∧ 1 ≤ n ∧ n ≤ 21 ∧ Hid (∀ j, 1 ≤ j → j < n → nmW j ≠ s)) (fun _ i _ => 21 - (intOf i).toNat)
  case atStart => exact ⟨1, rfl, rfl, rfl, by omega, by omega, fun j h1 h2 => by omega⟩
  case round =>
    obtain ⟨n, rfl, rfl, rfl, h1, h21, HN⟩ := hrel
    by_cases hn : n ≤ 20
    · have hc := HT.out n (by omega)
      have b1 : (n : Int) ≤ 20 := by omega
      have b0 : (0 : Int) ≤ (n : Int) := by omega
      have b2 : (n : Int) < 21 := by omega
      by_cases he : nmW n = s
      · have hk : kindN s = n := by rw [← he]; exact kindN_at n h1 hn
        rw [he] at hc
        have HK : Hid (_ = _) := hk
        clear he hk
        go_wp2
        go_ret
        exact ⟨ret_int HK.out.symm, rfl⟩
      · have hq := s_ne he
        have HE : Hid (nmW n ≠ s) := he
        clear he
        obtain ⟨z, hz⟩ : ∃ z, nmW n = z := ⟨_, rfl⟩
        rw [hz] at hc hq
        clear hz
        go_wp2
        go_roundw
        case rel =>
          refine ⟨n + 1, by go_num, by go_num, trivial, by omega, by omega, fun j h1 h2 => ?_⟩
          rcases Nat.lt_or_eq_of_le (Nat.le_of_lt_succ h2) with h3 | rfl
          · exact HN.out j h1 h3
          · exact HE.out
        case measure =>
          simp [intOf]
          omega
    · have hn' : n = 21 := by omega
      subst hn'
      go_wp2
      go_ret
      exact ⟨ret_int (kindN_no (fun j h1 h2 => HN.out j h1 (by omega))).symm, rfl⟩

set_option maxRecDepth 100000 in
set_option maxHeartbeats 400000 in
/-- script.name.read. -/
theorem nameRead (g o : Nat) (T : TypeId) (l : List Value) (s : ByteArray) (w : World) (hg : Bl w g T l) (ho : o < l.length) (hs : s.size ≤ 4611686018427387904) :
    Calls Tryd.prog 110 #[.agg #[.pointer (some ⟨g, o, none⟩)], .string s] w fun e w' => e = .returned (.int .i64 (nmE s)) ∧ Bl w' g T (pickL (nmE s) (l.set o (.string s)) l) ∧ TA g w w' := by
  have hlt := hg.lt
  have hg1 : Bl (w.alloc (.cells #[.pointer (some ⟨g, o, none⟩)] 121)) g T l := hg.below (below_new _ _)
  have hx1 : Bl (w.alloc (.cells #[.pointer (some ⟨g, o, none⟩)] 121)) w.heap.size 121 [.pointer (some ⟨g, o, none⟩)] := Bl.new w _ _
  have HH : Hid _ := And.intro hg1 hx1
  clear hg1 hx1
  cases hn : nameB s
  · have he : nmE s = 10 := by unfold nmE; rw [hn]; rfl
    rw [he]
    have HN : Hid (_ = _) := hn
    clear hn he
    go_enter Tryd.func110, Tryd.ntmps110
    go_wp2_with (go_at_call 112; refine (name_any _ _ hs).mono ?_; rintro e w1 ⟨rfl, b1⟩; rw [HN.out])
    go_ret
    exact ⟨rfl, HH.out.1.below b1, TA.of (Below.one b1)⟩
  · have he : nmE s = 0 := by unfold nmE; rw [hn]; rfl
    rw [he]
    have HN : Hid (_ = _) := hn
    clear hn he
    go_enter Tryd.func110, Tryd.ntmps110
    go_wp2_with (go_at_call 112; refine (name_any _ _ hs).mono ?_; rintro e w1 ⟨rfl, b1⟩; rw [HN.out]; have hg2 := HH.out.1.below b1; have q0 := (HH.out.2.below b1).cell 0; have q1 := hg2.cell o; rw [List.getElem?_eq_getElem ho] at q1; have q2 := hg2.frozen o)
    go_ret
    exact ⟨rfl, hg2.set o _, (TA.of (Below.one b1)).set o _⟩
end Go.Proofs.YtfgfjodajjfbaaaDoor

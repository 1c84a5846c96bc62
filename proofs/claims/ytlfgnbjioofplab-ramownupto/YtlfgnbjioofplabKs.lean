import Derived.Test.YtlfgnbjioofplabLb
namespace Go.Proofs.Ytlfgnbjioofplab
open Go.RowKit
set_option linter.unusedVariables false

def up {α : Type} (f : Nat → α) (i : Nat) (x : α) : Nat → α := fun k => if k = i then x else f k
theorem up_same {α : Type} (f : Nat → α) (i : Nat) (x : α) : up f i x i = x := by simp [up]
theorem up_other {α : Type} (f : Nat → α) {i k : Nat} (x : α) (h : k ≠ i) : up f i x k = f k := by simp [up, h]

/-- Three memories of the program's, three of the reference's. -/
structure St where
  pp : Nat → Nat
  rr : Nat → Nat
  np : Nat → Nat
  nr : Nat → Nat
  mp : Nat → Nat → Int
  mr : Nat → Nat → Int
def St.upP (s : St) (i : Nat) (m : Nat → Int) : St := { s with mp := up s.mp i m }
def St.upR (s : St) (i : Nat) (m : Nat → Int) : St := { s with mr := up s.mr i m }
def St.good (s : St) : Prop := (∀ i, i < 3 → s.np i = s.nr i) ∧ ∀ i, i < 3 → s.mp i = s.mr i

def boxL (s : St) : List Value := [.pointer (some ⟨s.pp 0, 0, none⟩), .pointer (some ⟨s.pp 1, 0, none⟩), .pointer (some ⟨s.pp 2, 0, none⟩), .pointer (some ⟨s.rr 0, 0, none⟩), .pointer (some ⟨s.rr 1, 0, none⟩), .pointer (some ⟨s.rr 2, 0, none⟩)]

structure KSx (W0 w : World) (B tb : Nat) (S : Nat → Nat → Prop) (s : St) (xs : List (Nat × TypeId × List Value)) : Prop where
  box : RowAt w tb 42 (boxL s)
  pm : ∀ i, i < 3 → PM w (S i) (s.pp i) (s.np i) (s.mp i)
  rm : ∀ i, i < 3 → RM w (S (3 + i)) (s.rr i) (s.nr i) (s.mr i)
  dis : ∀ k j b, k < 6 → j < 6 → k ≠ j → S k b → ¬ S j b
  tbS : ∀ k, k < 6 → ¬ S k tb
  lo : ∀ k b, k < 6 → S k b → B ≤ b
  loT : B ≤ tb
  out : ∀ x ∈ xs, RowAt w x.1 x.2.1 x.2.2 ∧ x.1 ≠ tb ∧ B ≤ x.1 ∧ ∀ k, k < 6 → ¬ S k x.1
  trn : Turn (fun b => B ≤ b) W0 w
def KS (W0 w : World) (B tb : Nat) (s : St) (xs : List (Nat × TypeId × List Value)) : Prop := ∃ S, KSx W0 w B tb S s xs

section
variable {W0 w w' : World} {B tb : Nat} {S : Nat → Nat → Prop} {s : St} {xs : List (Nat × TypeId × List Value)}
theorem KSx.low (h : KSx W0 w B tb S s xs) : ∀ k b, k < 6 → S k b → b < w.heap.size := fun k b hk hb => by
  by_cases h3 : k < 3
  · exact (h.pm k h3).low b hb
  · have := (h.rm (k - 3) (by omega)).low
    rw [show 3 + (k - 3) = k by omega] at this
    exact this b hb
/-- What lies outside has turned, or is new. -/
theorem KSx.keep (h : KSx W0 w B tb S s xs) {Q : Nat → Prop} (T : Turn Q w w') (hQ : ∀ k b, k < 6 → S k b → ¬ Q b) (hT : ¬ Q tb) (hx : ∀ x ∈ xs, ¬ Q x.1) (hB : ∀ b, Q b → B ≤ b) : KSx W0 w' B tb S s xs := by
  refine ⟨h.box.turn T hT, fun i hi => (h.pm i hi).keep T (fun b hb => hQ i b (by omega) hb), fun i hi => (h.rm i hi).keep T (fun b hb => hQ (3 + i) b (by omega) hb), h.dis, h.tbS, h.lo, h.loT, fun x hm => ?_, h.trn.trans T (fun x hx => .inl (hB x hx))⟩
  obtain ⟨r1, r2⟩ := h.out x hm
  exact ⟨r1.turn T (hx x hm), r2⟩
theorem KS.keep (h : KS W0 w B tb s xs) (T : Turn (fun _ => False) w w') : KS W0 w' B tb s xs := by
  obtain ⟨S, h⟩ := h
  exact ⟨S, h.keep T (fun _ _ _ _ h => h) (fun h => h) (fun _ _ h => h) (fun _ h => h.elim)⟩
theorem KS.drewN (h : KS W0 w B tb s xs) (n : Nat) : KS W0 (w.drewN n) B tb s xs := h.keep ((Turn.refl _ w).drewN n)
/-- A new row outside. -/
theorem KS.add (h : KS W0 w B tb s xs) (T : Turn (fun _ => False) w w') {g : Nat} {e : TypeId} {l : List Value} (hg : w.heap.size ≤ g) (hr : RowAt w' g e l) (hB : B ≤ w.heap.size) : KS W0 w' B tb s ((g, e, l) :: xs) := by
  obtain ⟨S, h⟩ := h
  have hl := h.low
  have htb := h.box.lt
  have h' := h.keep T (fun _ _ _ _ h => h) (fun h => h) (fun _ _ h => h) (fun _ h => h.elim)
  refine ⟨S, ⟨h'.box, h'.pm, h'.rm, h'.dis, h'.tbS, h'.lo, h'.loT, fun x hx => ?_, h'.trn⟩⟩
  rcases List.mem_cons.1 hx with rfl | hx
  · exact ⟨hr, by show g ≠ tb; omega, by show B ≤ g; omega, fun k hk hs => by have := hl k g hk hs; omega⟩
  · exact h'.out x hx
theorem KS.row (h : KS W0 w B tb s xs) {g : Nat} {e : TypeId} {l : List Value} (hm : (g, e, l) ∈ xs) : RowAt w g e l := by
  obtain ⟨S, h⟩ := h
  exact (h.out _ hm).1
theorem KS.box (h : KS W0 w B tb s xs) : RowAt w tb 42 (boxL s) := by obtain ⟨S, h⟩ := h; exact h.box
theorem KS.trn (h : KS W0 w B tb s xs) : Turn (fun b => B ≤ b) W0 w := by obtain ⟨S, h⟩ := h; exact h.trn
theorem KS.drop (h : KS W0 w B tb s xs) {ys : List (Nat × TypeId × List Value)} (hy : ∀ y ∈ ys, y ∈ xs) : KS W0 w B tb s ys := by
  obtain ⟨S, h⟩ := h
  exact ⟨S, ⟨h.box, h.pm, h.rm, h.dis, h.tbS, h.lo, h.loT, fun x hx => h.out x (hy x hx), h.trn⟩⟩
/-- A cell of the first row outside has turned. -/
theorem KS.set {g : Nat} {e : TypeId} {l : List Value} (h : KS W0 w B tb s ((g, e, l) :: xs)) (hn : ∀ x ∈ xs, x.1 ≠ g) (j : Nat) (v : Value) : KS W0 (w.setCell ⟨g, j, none⟩ v) B tb s ((g, e, l.set j v) :: xs) := by
  obtain ⟨S, h⟩ := h
  obtain ⟨r1, r2, r3, r4⟩ := h.out (g, e, l) (by simp)
  have T : Turn (fun b => b = g) w (w.setCell ⟨g, j, none⟩ v) := (Turn.refl (fun b => b = g) w).setCell (p := ⟨g, j, none⟩) (.inl rfl) _
  have h1 : KSx W0 w B tb S s xs := ⟨h.box, h.pm, h.rm, h.dis, h.tbS, h.lo, h.loT, fun x hx => h.out x (by simp [hx]), h.trn⟩
  have h' := h1.keep T (fun k b hk hb e => r4 k hk (e ▸ hb)) (fun e => r2 e.symm) (fun x hx e => hn x hx e) (fun b hb => by rw [hb]; exact r3)
  refine ⟨S, ⟨h'.box, h'.pm, h'.rm, h'.dis, h'.tbS, h'.lo, h'.loT, fun x hx => ?_, h'.trn⟩⟩
  rcases List.mem_cons.1 hx with rfl | hx
  · exact ⟨r1.set j v, r2, r3, r4⟩
  · exact h'.out x hx

theorem gr_disj {S T : Nat → Prop} {W W' : World} (h : ∀ b, S b → ¬ T b) (hl : ∀ b, T b → b < W.heap.size) : ∀ b, gr S W W' b → ¬ T b := fun b hb ht => by
  rcases hb with h1 | ⟨h1, _⟩
  · exact h b h1 ht
  · have := hl b ht; omega
/-- One memory has turned. -/
theorem KSx.one (h : KSx W0 w B tb S s xs) (hB : B ≤ w.heap.size) {k : Nat} (hk : k < 6) (T : Turn (S k) w w') {s' : St} (hbx : boxL s' = boxL s)
    (hp : ∀ i, i < 3 → i ≠ k → s'.pp i = s.pp i ∧ s'.np i = s.np i ∧ s'.mp i = s.mp i) (hr : ∀ i, i < 3 → 3 + i ≠ k → s'.rr i = s.rr i ∧ s'.nr i = s.nr i ∧ s'.mr i = s.mr i)
    (hpk : ∀ i, i < 3 → i = k → PM w' (gr (S k) w w') (s'.pp i) (s'.np i) (s'.mp i)) (hrk : ∀ i, i < 3 → 3 + i = k → RM w' (gr (S k) w w') (s'.rr i) (s'.nr i) (s'.mr i)) : KSx W0 w' B tb (up S k (gr (S k) w w')) s' xs := by
  have hl := h.low
  have hdk : ∀ j b, j < 6 → j ≠ k → S j b → ¬ S k b := fun j b hj hjk hb => h.dis j k b hj hk hjk hb
  refine ⟨by rw [hbx]; exact h.box.turn T (h.tbS k hk), fun i hi => ?_, fun i hi => ?_, fun a j b ha hj hne hb => ?_, fun j hj => ?_, fun j b hj hb => ?_, h.loT, fun x hx => ?_, h.trn.trans T (fun x hx => .inl (h.lo k x hk hx))⟩
  · by_cases e : i = k
    · subst e
      rw [up_same]
      exact hpk i hi rfl
    · rw [up_other _ _ e, (hp i hi e).1, (hp i hi e).2.1, (hp i hi e).2.2]
      exact (h.pm i hi).keep T (fun b hb => hdk i b (by omega) e hb)
  · by_cases e : 3 + i = k
    · subst e
      rw [up_same]
      exact hrk i hi rfl
    · rw [up_other _ _ e, (hr i hi e).1, (hr i hi e).2.1, (hr i hi e).2.2]
      exact (h.rm i hi).keep T (fun b hb => hdk (3 + i) b (by omega) e hb)
  · by_cases e1 : a = k
    · subst e1
      rw [up_same] at hb
      rw [up_other _ _ (Ne.symm hne)]
      exact gr_disj (fun b hb => h.dis a j b ha hj hne hb) (fun b hb => hl j b hj hb) b hb
    · rw [up_other _ _ e1] at hb
      by_cases e2 : j = k
      · subst e2
        rw [up_same]
        intro hg
        exact gr_disj (fun b hb => h.dis j a b hj ha (Ne.symm hne) hb) (fun b hb => hl a b ha hb) b hg hb
      · rw [up_other _ _ e2]
        exact h.dis a j b ha hj hne hb
  · by_cases e : j = k
    · subst e
      rw [up_same]
      intro hg
      exact gr_disj (T := fun b => b = tb) (fun b hb e => h.tbS j hj (e ▸ hb)) (fun b hb => by rw [hb]; exact h.box.lt) tb hg rfl
    · rw [up_other _ _ e]; exact h.tbS j hj
  · by_cases e : j = k
    · subst e
      rw [up_same] at hb
      rcases hb with hb | ⟨hb, _⟩
      · exact h.lo j b hj hb
      · omega
    · rw [up_other _ _ e] at hb; exact h.lo j b hj hb
  · obtain ⟨r1, r2, r3, r4⟩ := h.out x hx
    refine ⟨r1.turn T (r4 k hk), r2, r3, fun j hj => ?_⟩
    by_cases e : j = k
    · subst e
      rw [up_same]
      intro hg
      exact gr_disj (T := fun b => b = x.1) (fun b hb e => r4 j hj (e ▸ hb)) (fun b hb => by rw [hb]; exact r1.lt) x.1 hg rfl
    · rw [up_other _ _ e]; exact r4 j hj

/-- A call that turns a memory of the program's. -/
theorem ksP {F : Nat} {args : Array Value} (hK : KS W0 w B tb s xs) (hB : B ≤ w.heap.size) {i : Nat} (hi : i < 3) (m' : Nat → Int) (e0 : Ending)
    (hc : ∀ S : Nat → Prop, PM w S (s.pp i) (s.np i) (s.mp i) → (∀ b, b < B → ¬ S b) → (∀ x ∈ xs, ¬ S x.1) → Calls Try.prog F args w fun e w' => e = e0 ∧ PM w' (gr S w w') (s.pp i) (s.np i) m' ∧ Turn S w w') :
    Calls Try.prog F args w fun e w' => e = e0 ∧ KS W0 w' B tb (s.upP i m') xs ∧ w.heap.size ≤ w'.heap.size := by
  obtain ⟨S, hK⟩ := hK
  refine (hc (S i) (hK.pm i hi) (fun b hb hs => by have := hK.lo i b (by omega) hs; omega) (fun x hx => (hK.out x hx).2.2.2 i (by omega))).mono ?_
  rintro e w' ⟨rfl, hp, T⟩
  refine ⟨rfl, ⟨_, hK.one hB (by omega : i < 6) T (s' := s.upP i m') rfl (fun j hj hne => ⟨rfl, rfl, up_other _ _ hne⟩) (fun j hj hne => ⟨rfl, rfl, rfl⟩) (fun j hj hjk => ?_) (fun j hj hjk => by omega)⟩, T.size⟩
  subst hjk
  show PM w' _ (s.pp j) (s.np j) (up s.mp j m' j)
  rw [up_same]
  exact hp
theorem ksR {F : Nat} {args : Array Value} (hK : KS W0 w B tb s xs) (hB : B ≤ w.heap.size) {i : Nat} (hi : i < 3) (m' : Nat → Int) (e0 : Ending)
    (hc : ∀ S : Nat → Prop, RM w S (s.rr i) (s.nr i) (s.mr i) → (∀ b, b < B → ¬ S b) → (∀ x ∈ xs, ¬ S x.1) → Calls Try.prog F args w fun e w' => e = e0 ∧ RM w' (gr S w w') (s.rr i) (s.nr i) m' ∧ Turn S w w') :
    Calls Try.prog F args w fun e w' => e = e0 ∧ KS W0 w' B tb (s.upR i m') xs ∧ w.heap.size ≤ w'.heap.size := by
  obtain ⟨S, hK⟩ := hK
  refine (hc (S (3 + i)) (hK.rm i hi) (fun b hb hs => by have := hK.lo (3 + i) b (by omega) hs; omega) (fun x hx => (hK.out x hx).2.2.2 (3 + i) (by omega))).mono ?_
  rintro e w' ⟨rfl, hp, T⟩
  refine ⟨rfl, ⟨_, hK.one hB (by omega : 3 + i < 6) T (s' := s.upR i m') rfl (fun j hj hne => ⟨rfl, rfl, rfl⟩) (fun j hj hne => ⟨rfl, rfl, up_other _ _ (by omega)⟩) (fun j hj hjk => by omega) (fun j hj hjk => ?_)⟩, T.size⟩
  have : j = i := by omega
  subst this
  show RM w' _ (s.rr j) (s.nr j) (up s.mr j m' j)
  rw [up_same]
  exact hp
theorem KS.pm (h : KS W0 w B tb s xs) {i : Nat} (hi : i < 3) : ∃ S, PM w S (s.pp i) (s.np i) (s.mp i) := by obtain ⟨S, h⟩ := h; exact ⟨_, h.pm i hi⟩
theorem KS.rm (h : KS W0 w B tb s xs) {i : Nat} (hi : i < 3) : ∃ S, RM w S (s.rr i) (s.nr i) (s.mr i) := by obtain ⟨S, h⟩ := h; exact ⟨_, h.rm i hi⟩
theorem KS.cellP (h : KS W0 w B tb s xs) {i : Nat} (hi : i < 3) : w.cell? ⟨tb, i, none⟩ = some (.pointer (some ⟨s.pp i, 0, none⟩)) := by
  rw [h.box.cell]
  rcases (show i = 0 ∨ i = 1 ∨ i = 2 by omega) with rfl | rfl | rfl <;> rfl
theorem KS.cellR (h : KS W0 w B tb s xs) {i : Nat} (hi : i < 3) : w.cell? ⟨tb, 3 + i, none⟩ = some (.pointer (some ⟨s.rr i, 0, none⟩)) := by
  rw [h.box.cell]
  rcases (show i = 0 ∨ i = 1 ∨ i = 2 by omega) with rfl | rfl | rfl <;> rfl
end
end Go.Proofs.Ytlfgnbjioofplab

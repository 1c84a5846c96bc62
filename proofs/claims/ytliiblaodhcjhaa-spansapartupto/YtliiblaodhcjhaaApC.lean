import Derived.Test.YtliiblaodhcjhaaApB
namespace Go.Proofs.Ytliiblaodhcjhaa
open Go.RowKit
set_option linter.unusedVariables false

/-- A list that is written full of marks: of its elements of sz cells each, of type e, in a block from t to t', those below k have the mark m at place o. -/
def Mk (w : World) (e : TypeId) (la : Option Addr) (t t' n sz o k : Nat) (m : Value) : Prop := ∀ i, i < n → ∃ g, la = some ⟨g, 0, none⟩ ∧ t ≤ g ∧ g < t' ∧ Blk w g e (n * sz) ∧ (i < k → w.cell? ⟨g, i * sz + o, none⟩ = some m)

theorem cell_set_other {w : World} {g o g' o' : Nat} {z : Value} (h : ¬ (g' = g ∧ o' = o)) : (w.setCell ⟨g, o, none⟩ z).cell? ⟨g', o', none⟩ = w.cell? ⟨g', o', none⟩ :=
  World.cell?_setCell_other w _ _ _ (fun e => h (by cases e; exact ⟨rfl, rfl⟩))

theorem Mk.set {w : World} {e : TypeId} {la : Option Addr} {t t' n sz o k : Nat} {m : Value} (h : Mk w e la t t' n sz o k m) {g p : Nat} {z : Value} (hno : ∀ i, i < k → i < n → la = some ⟨g, 0, none⟩ → p ≠ i * sz + o) : Mk (w.setCell ⟨g, p, none⟩ z) e la t t' n sz o k m := by
  intro i hi
  obtain ⟨g', h1, h2, h3, h4, h5⟩ := h i hi
  refine ⟨g', h1, h2, h3, h4.set _ _, fun hk => ?_⟩
  rw [cell_set_other]
  · exact h5 hk
  · rintro ⟨e1, e2⟩
    subst e1
    exact hno i hk hi h1 e2.symm

theorem Mk.next {w : World} {e : TypeId} {la : Option Addr} {t t' n sz o k : Nat} {m : Value} (h : Mk w e la t t' n sz o k m) {g : Nat} (hg : la = some ⟨g, 0, none⟩) (hm : w.cell? ⟨g, k * sz + o, none⟩ = some m) : Mk w e la t t' n sz o (k + 1) m := by
  intro i hi
  obtain ⟨g', h1, h2, h3, h4, h5⟩ := h i hi
  refine ⟨g', h1, h2, h3, h4, fun hk => ?_⟩
  by_cases hik : i = k
  · subst hik
    rw [hg] at h1
    cases h1
    exact hm
  · exact h5 (by omega)

theorem Mk.drew {w : World} {e : TypeId} {la : Option Addr} {t t' n sz o k : Nat} {m : Value} (h : Mk w e la t t' n sz o k m) : Mk w.drew e la t t' n sz o k m := h

/-- What is grown of the lists, and what they hold beyond. -/
structure Far (w : World) (g t t' T o : Nat) (m : Value) : Prop where
  place : (t ≤ g ∧ g < t') ∨ T ≤ g
  cell : w.cell? ⟨g, o, none⟩ = some m

theorem Far.set {w : World} {g t t' T o : Nat} {m : Value} (h : Far w g t t' T o m) {g' p : Nat} {z : Value} (hno : ¬ (g = g' ∧ o = p)) : Far (w.setCell ⟨g', p, none⟩ z) g t t' T o m :=
  ⟨h.place, by rw [cell_set_other hno]; exact h.cell⟩

/-- The lists a, b of spans and x, y of rooms, what is grown of them, and how far the marks are written. -/
structure Ap (w : World) (t0 t1 t2 t3 t4 : Nat) (la lb lx ly : Option Addr) (gp gq gu gw n r ka kx : Nat) : Prop where
  ord : t0 ≤ t1 ∧ t1 ≤ t2 ∧ t2 ≤ t3 ∧ t3 ≤ t4
  a : Mk w 44 la t0 t1 n 3 2 ka (.int .i64 77)
  b : Mk w 44 lb t1 t2 n 3 2 ka (.int .i64 78)
  x : Mk w 57 lx t2 t3 r 2 0 kx (.int .u64 79)
  y : Mk w 57 ly t3 t4 r 2 0 kx (.int .u64 80)
  p : Far w gp t0 t1 t4 (n * 3 + 2) (.int .i64 71)
  q : Far w gq t1 t2 t4 ((n + 1) * 3 + 2) (.int .i64 74)
  u : Far w gu t2 t3 t4 (r * 2) (.int .u64 75)
  v : Far w gw t3 t4 t4 (r * 2) (.int .u64 76)

theorem Ap.setA {w : World} {t0 t1 t2 t3 t4 : Nat} {la lb lx ly : Option Addr} {gp gq gu gw n r ka kx : Nat} (h : Ap w t0 t1 t2 t3 t4 la lb lx ly gp gq gu gw n r ka kx) {g j : Nat} (z : Value) (hg : la = some ⟨g, 0, none⟩) (hk : ka < n) (hj : j < 3) : Ap (w.setCell ⟨g, ka * 3 + j, none⟩ z) t0 t1 t2 t3 t4 la lb lx ly gp gq gu gw n r ka kx := by
  obtain ⟨o1, o2, o3, o4⟩ := h.ord
  obtain ⟨g', h1, h2, h3, _⟩ := h.a ka hk
  rw [hg] at h1
  cases h1
  refine ⟨h.ord, h.a.set (fun i hi _ _ => by omega), h.b.set (fun i hi hn e => ?_), h.x.set (fun i hi hn e => ?_), h.y.set (fun i hi hn e => ?_), h.p.set (fun e => by omega), h.q.set (fun e => by omega), h.u.set (fun e => ?_), h.v.set (fun e => ?_)⟩
  · obtain ⟨g', e1, e2, e3, _⟩ := h.b i hn
    rw [e1] at e
    cases e
    omega
  · obtain ⟨g', e1, e2, e3, _⟩ := h.x i hn
    rw [e1] at e
    cases e
    omega
  · obtain ⟨g', e1, e2, e3, _⟩ := h.y i hn
    rw [e1] at e
    cases e
    omega
  · have := h.u.place
    omega
  · have := h.v.place
    omega

theorem Ap.setB {w : World} {t0 t1 t2 t3 t4 : Nat} {la lb lx ly : Option Addr} {gp gq gu gw n r ka kx : Nat} (h : Ap w t0 t1 t2 t3 t4 la lb lx ly gp gq gu gw n r ka kx) {g j : Nat} (z : Value) (hg : lb = some ⟨g, 0, none⟩) (hk : ka < n) (hj : j < 3) : Ap (w.setCell ⟨g, ka * 3 + j, none⟩ z) t0 t1 t2 t3 t4 la lb lx ly gp gq gu gw n r ka kx := by
  obtain ⟨o1, o2, o3, o4⟩ := h.ord
  obtain ⟨g', h1, h2, h3, _⟩ := h.b ka hk
  rw [hg] at h1
  cases h1
  refine ⟨h.ord, h.a.set (fun i hi hn e => ?_), h.b.set (fun i hi _ _ => by omega), h.x.set (fun i hi hn e => ?_), h.y.set (fun i hi hn e => ?_), h.p.set (fun e => by omega), h.q.set (fun e => by omega), h.u.set (fun e => ?_), h.v.set (fun e => ?_)⟩
  · obtain ⟨g', e1, e2, e3, _⟩ := h.a i hn
    rw [e1] at e
    cases e
    omega
  · obtain ⟨g', e1, e2, e3, _⟩ := h.x i hn
    rw [e1] at e
    cases e
    omega
  · obtain ⟨g', e1, e2, e3, _⟩ := h.y i hn
    rw [e1] at e
    cases e
    omega
  · have := h.u.place
    omega
  · have := h.v.place
    omega

theorem Ap.setX {w : World} {t0 t1 t2 t3 t4 : Nat} {la lb lx ly : Option Addr} {gp gq gu gw n r ka kx : Nat} (h : Ap w t0 t1 t2 t3 t4 la lb lx ly gp gq gu gw n r ka kx) {g j : Nat} (z : Value) (hg : lx = some ⟨g, 0, none⟩) (hk : kx < r) (hj : j < 2) : Ap (w.setCell ⟨g, kx * 2 + j, none⟩ z) t0 t1 t2 t3 t4 la lb lx ly gp gq gu gw n r ka kx := by
  obtain ⟨o1, o2, o3, o4⟩ := h.ord
  obtain ⟨g', h1, h2, h3, _⟩ := h.x kx hk
  rw [hg] at h1
  cases h1
  refine ⟨h.ord, h.a.set (fun i hi hn e => ?_), h.b.set (fun i hi hn e => ?_), h.x.set (fun i hi _ _ => by omega), h.y.set (fun i hi hn e => ?_), h.p.set (fun e => ?_), h.q.set (fun e => ?_), h.u.set (fun e => by omega), h.v.set (fun e => by omega)⟩
  · obtain ⟨g', e1, e2, e3, _⟩ := h.a i hn
    rw [e1] at e
    cases e
    omega
  · obtain ⟨g', e1, e2, e3, _⟩ := h.b i hn
    rw [e1] at e
    cases e
    omega
  · obtain ⟨g', e1, e2, e3, _⟩ := h.y i hn
    rw [e1] at e
    cases e
    omega
  · have := h.p.place
    omega
  · have := h.q.place
    omega

theorem Ap.setY {w : World} {t0 t1 t2 t3 t4 : Nat} {la lb lx ly : Option Addr} {gp gq gu gw n r ka kx : Nat} (h : Ap w t0 t1 t2 t3 t4 la lb lx ly gp gq gu gw n r ka kx) {g j : Nat} (z : Value) (hg : ly = some ⟨g, 0, none⟩) (hk : kx < r) (hj : j < 2) : Ap (w.setCell ⟨g, kx * 2 + j, none⟩ z) t0 t1 t2 t3 t4 la lb lx ly gp gq gu gw n r ka kx := by
  obtain ⟨o1, o2, o3, o4⟩ := h.ord
  obtain ⟨g', h1, h2, h3, _⟩ := h.y kx hk
  rw [hg] at h1
  cases h1
  refine ⟨h.ord, h.a.set (fun i hi hn e => ?_), h.b.set (fun i hi hn e => ?_), h.x.set (fun i hi hn e => ?_), h.y.set (fun i hi _ _ => by omega), h.p.set (fun e => ?_), h.q.set (fun e => ?_), h.u.set (fun e => by omega), h.v.set (fun e => by omega)⟩
  · obtain ⟨g', e1, e2, e3, _⟩ := h.a i hn
    rw [e1] at e
    cases e
    omega
  · obtain ⟨g', e1, e2, e3, _⟩ := h.b i hn
    rw [e1] at e
    cases e
    omega
  · obtain ⟨g', e1, e2, e3, _⟩ := h.x i hn
    rw [e1] at e
    cases e
    omega
  · have := h.p.place
    omega
  · have := h.q.place
    omega

/-- A round of the first loop. -/
theorem Ap.roundA {w : World} {t0 t1 t2 t3 t4 : Nat} {la lb lx ly : Option Addr} {gp gq gu gw n r ka kx ga gb : Nat} (h : Ap w t0 t1 t2 t3 t4 la lb lx ly gp gq gu gw n r ka kx) (hga : la = some ⟨ga, 0, none⟩) (hgb : lb = some ⟨gb, 0, none⟩) (hk : ka < n) :
    Ap ((((((w.setCell ⟨ga, ka * 3, none⟩ (.int .u64 0)).setCell ⟨ga, ka * 3 + 1, none⟩ (.int .u64 0)).setCell ⟨ga, ka * 3 + 2, none⟩ (.int .i64 77)).setCell ⟨gb, ka * 3, none⟩ (.int .u64 0)).setCell ⟨gb, ka * 3 + 1, none⟩ (.int .u64 0)).setCell ⟨gb, ka * 3 + 2, none⟩ (.int .i64 78)) t0 t1 t2 t3 t4 la lb lx ly gp gq gu gw n r (ka + 1) kx := by
  obtain ⟨o1, o2, o3, o4⟩ := h.ord
  obtain ⟨_, h1, p1, p2, p3, _⟩ := h.a ka hk
  rw [hga] at h1
  cases h1
  obtain ⟨_, h1, q1, q2, q3, _⟩ := h.b ka hk
  rw [hgb] at h1
  cases h1
  have s1 := h.setA (j := 0) (.int .u64 0) hga hk (by omega)
  have s2 := s1.setA (j := 1) (.int .u64 0) hga hk (by omega)
  have s3 := s2.setA (j := 2) (.int .i64 77) hga hk (by omega)
  have s4 := s3.setB (j := 0) (.int .u64 0) hgb hk (by omega)
  have s5 := s4.setB (j := 1) (.int .u64 0) hgb hk (by omega)
  have s6 := s5.setB (j := 2) (.int .i64 78) hgb hk (by omega)
  simp only [Nat.add_zero] at s6
  have c1 : ((((((w.setCell ⟨ga, ka * 3, none⟩ (.int .u64 0)).setCell ⟨ga, ka * 3 + 1, none⟩ (.int .u64 0)).setCell ⟨ga, ka * 3 + 2, none⟩ (.int .i64 77)).setCell ⟨gb, ka * 3, none⟩ (.int .u64 0)).setCell ⟨gb, ka * 3 + 1, none⟩ (.int .u64 0)).setCell ⟨gb, ka * 3 + 2, none⟩ (.int .i64 78)).cell? ⟨ga, ka * 3 + 2, none⟩ = some (.int .i64 77) := by
    rw [cell_set_other (by omega), cell_set_other (by omega), cell_set_other (by omega)]
    exact World.cell?_setCell_same' _ _ _ (by
      rw [cell_set_other (by omega), cell_set_other (by omega)]
      exact p3.cell (by omega))
  have c2 : ((((((w.setCell ⟨ga, ka * 3, none⟩ (.int .u64 0)).setCell ⟨ga, ka * 3 + 1, none⟩ (.int .u64 0)).setCell ⟨ga, ka * 3 + 2, none⟩ (.int .i64 77)).setCell ⟨gb, ka * 3, none⟩ (.int .u64 0)).setCell ⟨gb, ka * 3 + 1, none⟩ (.int .u64 0)).setCell ⟨gb, ka * 3 + 2, none⟩ (.int .i64 78)).cell? ⟨gb, ka * 3 + 2, none⟩ = some (.int .i64 78) :=
    World.cell?_setCell_same' _ _ _ (by
      rw [cell_set_other (by omega), cell_set_other (by omega), cell_set_other (by omega), cell_set_other (by omega), cell_set_other (by omega)]
      exact q3.cell (by omega))
  exact ⟨s6.ord, s6.a.next hga c1, s6.b.next hgb c2, s6.x, s6.y, s6.p, s6.q, s6.u, s6.v⟩

/-- A round of the second loop. -/
theorem Ap.roundX {w : World} {t0 t1 t2 t3 t4 : Nat} {la lb lx ly : Option Addr} {gp gq gu gw n r ka kx gx gy : Nat} (h : Ap w t0 t1 t2 t3 t4 la lb lx ly gp gq gu gw n r ka kx) (hgx : lx = some ⟨gx, 0, none⟩) (hgy : ly = some ⟨gy, 0, none⟩) (hk : kx < r) :
    Ap ((((w.setCell ⟨gx, kx * 2, none⟩ (.int .u64 79)).setCell ⟨gx, kx * 2 + 1, none⟩ (.int .u64 0)).setCell ⟨gy, kx * 2, none⟩ (.int .u64 80)).setCell ⟨gy, kx * 2 + 1, none⟩ (.int .u64 0)) t0 t1 t2 t3 t4 la lb lx ly gp gq gu gw n r ka (kx + 1) := by
  obtain ⟨o1, o2, o3, o4⟩ := h.ord
  obtain ⟨_, h1, p1, p2, p3, _⟩ := h.x kx hk
  rw [hgx] at h1
  cases h1
  obtain ⟨_, h1, q1, q2, q3, _⟩ := h.y kx hk
  rw [hgy] at h1
  cases h1
  have s1 := h.setX (j := 0) (.int .u64 79) hgx hk (by omega)
  have s2 := s1.setX (j := 1) (.int .u64 0) hgx hk (by omega)
  have s3 := s2.setY (j := 0) (.int .u64 80) hgy hk (by omega)
  have s4 := s3.setY (j := 1) (.int .u64 0) hgy hk (by omega)
  simp only [Nat.add_zero] at s4
  have c1 : ((((w.setCell ⟨gx, kx * 2, none⟩ (.int .u64 79)).setCell ⟨gx, kx * 2 + 1, none⟩ (.int .u64 0)).setCell ⟨gy, kx * 2, none⟩ (.int .u64 80)).setCell ⟨gy, kx * 2 + 1, none⟩ (.int .u64 0)).cell? ⟨gx, kx * 2, none⟩ = some (.int .u64 79) := by
    rw [cell_set_other (by omega), cell_set_other (by omega), cell_set_other (by omega)]
    exact World.cell?_setCell_same' _ _ _ (p3.cell (by omega))
  have c2 : ((((w.setCell ⟨gx, kx * 2, none⟩ (.int .u64 79)).setCell ⟨gx, kx * 2 + 1, none⟩ (.int .u64 0)).setCell ⟨gy, kx * 2, none⟩ (.int .u64 80)).setCell ⟨gy, kx * 2 + 1, none⟩ (.int .u64 0)).cell? ⟨gy, kx * 2, none⟩ = some (.int .u64 80) := by
    rw [cell_set_other (by omega)]
    exact World.cell?_setCell_same' _ _ _ (by
      rw [cell_set_other (by omega), cell_set_other (by omega)]
      exact q3.cell (by omega))
  exact ⟨s4.ord, s4.a, s4.b, s4.x.next hgx c1, s4.y.next hgy c2, s4.p, s4.q, s4.u, s4.v⟩
end Go.Proofs.Ytliiblaodhcjhaa

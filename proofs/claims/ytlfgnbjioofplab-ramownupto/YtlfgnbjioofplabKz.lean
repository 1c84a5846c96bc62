import Derived.Test.YtlfgnbjioofplabTk
namespace Go.Proofs.Ytlfgnbjioofplab
open Go.RowKit
set_option linter.unusedVariables false

/-- Three memories beside blocks that are another's. -/
def KZ (W0 w : World) (B tb : Nat) (s : St) (Z : Nat → Prop) : Prop := ∃ S, KSx W0 w B tb S s [] ∧ ∀ b, Z b → b ≠ tb ∧ B ≤ b ∧ (∀ k, k < 6 → ¬ S k b) ∧ ∃ e cur, RowAt w b e cur
theorem rows_of (w : World) (Z : Nat → Prop) (h : ∀ b, Z b → ∃ e cur, RowAt w b e cur) : ∃ zs : List (Nat × TypeId × List Value), (∀ b, Z b → ∃ x ∈ zs, x.1 = b) ∧ ∀ x ∈ zs, RowAt w x.1 x.2.1 x.2.2 ∧ Z x.1 := by
  have key : ∀ n, ∃ zs : List (Nat × TypeId × List Value), (∀ b, b < n → Z b → ∃ x ∈ zs, x.1 = b) ∧ ∀ x ∈ zs, RowAt w x.1 x.2.1 x.2.2 ∧ Z x.1 := by
    intro n
    induction n with
    | zero => exact ⟨[], fun b hb => absurd hb (Nat.not_lt_zero b), fun x hx => by cases hx⟩
    | succ n ih =>
      obtain ⟨zs, h1, h2⟩ := ih
      by_cases hZ : Z n
      · obtain ⟨e, cur, hr⟩ := h n hZ
        refine ⟨(n, e, cur) :: zs, fun b hb hzb => ?_, fun x hx => ?_⟩
        · by_cases e : b = n
          · exact ⟨_, List.mem_cons_self .., e.symm⟩
          · obtain ⟨x, hx, hxe⟩ := h1 b (by omega) hzb
            exact ⟨x, List.mem_cons_of_mem _ hx, hxe⟩
        · rcases List.mem_cons.1 hx with rfl | hx
          · exact ⟨hr, hZ⟩
          · exact h2 x hx
      · refine ⟨zs, fun b hb hzb => ?_, h2⟩
        by_cases e : b = n
        · subst e; exact absurd hzb hZ
        · exact h1 b (by omega) hzb
  obtain ⟨zs, h1, h2⟩ := key w.heap.size
  refine ⟨zs, fun b hb => ?_, h2⟩
  obtain ⟨e, cur, hr⟩ := h b hb
  exact h1 b hr.lt hb

section
variable {W0 w w' : World} {B tb : Nat} {s : St} {Z Z' : Nat → Prop}
theorem KZ.toKS (h : KZ W0 w B tb s Z) : ∃ zs, KS W0 w B tb s zs ∧ (∀ b, Z b → ∃ x ∈ zs, x.1 = b) ∧ ∀ x ∈ zs, RowAt w x.1 x.2.1 x.2.2 ∧ Z x.1 := by
  obtain ⟨S, h, hz⟩ := h
  obtain ⟨zs, h1, h2⟩ := rows_of w Z (fun b hb => (hz b hb).2.2.2)
  refine ⟨zs, ⟨S, ⟨h.box, h.pm, h.rm, h.dis, h.tbS, h.lo, h.loT, fun x hx => ?_, h.trn⟩⟩, h1, h2⟩
  obtain ⟨q1, q2, q3, _⟩ := hz x.1 (h2 x hx).2
  exact ⟨(h2 x hx).1, q1, q2, q3⟩
theorem KZ.ofKS {zs : List (Nat × TypeId × List Value)} (h : KS W0 w B tb s zs) (hz : ∀ b, Z b → ∃ x ∈ zs, x.1 = b) : KZ W0 w B tb s Z := by
  obtain ⟨S, h⟩ := h
  refine ⟨S, ⟨h.box, h.pm, h.rm, h.dis, h.tbS, h.lo, h.loT, fun x hx => (by cases hx), h.trn⟩, fun b hb => ?_⟩
  obtain ⟨x, hx, rfl⟩ := hz b hb
  obtain ⟨q1, q2, q3, q4⟩ := h.out x hx
  exact ⟨q2, q3, q4, _, _, q1⟩
theorem KZ.trn (h : KZ W0 w B tb s Z) : Turn (fun b => B ≤ b) W0 w := by obtain ⟨S, h, _⟩ := h; exact h.trn
theorem KZ.ks (h : KZ W0 w B tb s Z) : KS W0 w B tb s [] := by obtain ⟨S, h, _⟩ := h; exact ⟨S, h⟩
theorem KZ.re (h : KZ W0 w B tb s Z) (T : Turn Z w w') (hB : B ≤ w.heap.size) (hZ : ∀ b, Z' b → (Z b ∨ w.heap.size ≤ b) ∧ ∃ e cur, RowAt w' b e cur) : KZ W0 w' B tb s Z' := by
  obtain ⟨S, h, hz⟩ := h
  have hl := h.low
  have htb := h.box.lt
  refine ⟨S, h.keep T (fun k b hk hs hzb => (hz b hzb).2.2.1 k hk hs) (fun hzb => (hz tb hzb).1 rfl) (fun x hx => by cases hx) (fun b hb => (hz b hb).2.1), fun b hb => ?_⟩
  obtain ⟨h1, h2⟩ := hZ b hb
  rcases h1 with h1 | h1
  · obtain ⟨q1, q2, q3, _⟩ := hz b h1
    exact ⟨q1, q2, q3, h2⟩
  · exact ⟨by omega, by omega, fun k hk hs => by have := hl k b hk hs; omega, h2⟩
theorem KZ.keep (h : KZ W0 w B tb s Z) (T : Turn (fun _ => False) w w') (hB : B ≤ w.heap.size) : KZ W0 w' B tb s Z :=
  h.re (T.mono (fun _ _ h => h.elim)) hB (fun b hb => ⟨.inl hb, by
    obtain ⟨S, h, hz⟩ := h
    obtain ⟨e, cur, hr⟩ := (hz b hb).2.2.2
    exact ⟨e, cur, hr.turn T (fun h => h)⟩⟩)
theorem step_z (o : Op3) (hK : KZ W0 w B tb s Z) (hB : B ≤ w.heap.size) (hg : s.good) (ho : o.ok W0 B) :
    Calls Try.prog 5 #[.pointer (some ⟨tb, 0, none⟩), .agg #[.int .i64 o.kind, .int .i64 o.who, .int .i64 o.n, .int .u64 o.pa, .int .u32 o.v, .slice o.a o.bs.length o.cap]] w fun e w' => e = .returned (.bool true) ∧ ∃ s', KZ W0 w' B tb s' Z ∧ s'.good ∧ Turn (fun b => ¬ Z b) w w' := by
  obtain ⟨zs, hk, h1, h2⟩ := hK.toKS
  have t0 := hK.trn
  refine (step_any W0 w B tb s o hk hB hg ho).mono ?_
  rintro e w' ⟨rfl, s', hk', hg', hz⟩
  have t1 := hk'.trn
  refine ⟨rfl, s', KZ.ofKS hk' h1, hg', ⟨t1.os.trans t0.os.symm, t1.tape.trans t0.tape.symm, t1.output.trans t0.output.symm, hz, fun k hk hn => ?_⟩⟩
  have hZ : Z k := Classical.not_not.1 hn
  obtain ⟨x, hx, rfl⟩ := h1 k hZ
  have r0 := (h2 x hx).1
  have r1 := hk'.row (g := x.1) (e := x.2.1) (l := x.2.2) hx
  exact (show w'.heap[x.1]? = _ from r1).trans (show w.heap[x.1]? = _ from r0).symm
end

/-- A book's blocks. -/
def ZB (bb : Nat) (v : Nat → Value) (es : List Ent) : Nat → Prop := fun b => b = bb ∨ (∃ k, k < 4 ∧ (v k).ownBlock = some b) ∨ ∃ e ∈ es, ∃ k, k < 4 ∧ (proj k e).ownBlock = some b
structure BK (w : World) (bb : Nat) (v : Nat → Value) (es : List Ent) : Prop where
  bo : BO w bb v (fun k => es.map (proj k))
  inn : ∀ e ∈ es, Inn w e
theorem BK.keep {w w' : World} {bb : Nat} {v : Nat → Value} {es : List Ent} (h : BK w bb v es) {Q : Nat → Prop} (T : Turn Q w w') (hQ : ∀ b, ZB bb v es b → ¬ Q b) : BK w' bb v es :=
  ⟨h.bo.keep T (hQ bb (.inl rfl)) (fun k b hk hb => hQ b (.inr (.inl ⟨k, hk, hb⟩))), fun e he => (h.inn e he).keep T (fun k b hk hb => hQ b (.inr (.inr ⟨e, he, k, hk, hb⟩)))⟩
theorem BK.rows {w : World} {bb : Nat} {v : Nat → Value} {es : List Ent} (h : BK w bb v es) : ∀ b, ZB bb v es b → ∃ e cur, RowAt w b e cur := by
  rintro b (rfl | ⟨k, hk, hb⟩ | ⟨e, he, k, hk, hb⟩)
  · exact ⟨_, _, h.bo.box⟩
  · obtain ⟨cur, hr⟩ := own_row (h.bo.own k hk) hb
    exact ⟨_, cur, hr⟩
  · obtain ⟨t, cur, hr, _⟩ := (h.inn e he).row hk hb
    exact ⟨t, cur, hr⟩

theorem KZ.weak {W0 w : World} {B tb : Nat} {s : St} {Z Z' : Nat → Prop} (h : KZ W0 w B tb s Z) (hz : ∀ b, Z' b → Z b) : KZ W0 w B tb s Z' := by
  obtain ⟨S, h, h2⟩ := h
  exact ⟨S, h, fun b hb => h2 b (hz b hb)⟩
def ZR (bb : Nat) (v : Nat → Value) (es : List Ent) (ro : List (Nat × TypeId × List Value)) : Nat → Prop := fun b => ZB bb v es b ∨ ∃ x ∈ ro, x.1 = b
/-- The law's state: memories, book, and rows of the round's own. -/
structure RS (W w : World) (bb : Nat) (s : St) (v : Nat → Value) (es : List Ent) (ro : List (Nat × TypeId × List Value)) : Prop where
  kz : KZ W w W.heap.size W.heap.size s (ZR bb v es ro)
  bk : BK w bb v es
  good : s.good
  size : W.heap.size ≤ w.heap.size
  row : ∀ x ∈ ro, RowAt w x.1 x.2.1 x.2.2 ∧ ¬ ZB bb v es x.1
section
variable {W w w' : World} {bb : Nat} {s : St} {v : Nat → Value} {es : List Ent} {ro : List (Nat × TypeId × List Value)}
theorem RS.zlt (h : RS W w bb s v es ro) {b : Nat} (hb : ZR bb v es ro b) : b < w.heap.size := by
  rcases hb with hb | ⟨x, hx, rfl⟩
  · obtain ⟨e, cur, hr⟩ := h.bk.rows b hb
    exact hr.lt
  · exact (h.row x hx).1.lt
theorem RS.keep (h : RS W w bb s v es ro) (T : Turn (fun _ => False) w w') : RS W w' bb s v es ro :=
  ⟨h.kz.keep T h.size, h.bk.keep T (fun _ _ h => h), h.good, Nat.le_trans h.size T.size, fun x hx => ⟨(h.row x hx).1.turn T (fun h => h), (h.row x hx).2⟩⟩
theorem RS.add (h : RS W w bb s v es ro) (T : Turn (fun _ => False) w w') {g : Nat} {e : TypeId} {cur : List Value} (hg : w.heap.size ≤ g) (hr : RowAt w' g e cur) : RS W w' bb s v es ((g, e, cur) :: ro) := by
  have h' := h.keep T
  refine ⟨h.kz.re (T.mono (fun _ _ h => h.elim)) h.size (fun b hb => ?_), h'.bk, h'.good, h'.size, fun x hx => ?_⟩
  · rcases hb with hb | ⟨x, hx, rfl⟩
    · exact ⟨.inl (.inl hb), h'.bk.rows b hb⟩
    · rcases List.mem_cons.1 hx with rfl | hx
      · exact ⟨.inr hg, e, cur, hr⟩
      · exact ⟨.inl (.inr ⟨x, hx, rfl⟩), _, _, (h'.row x hx).1⟩
  · rcases List.mem_cons.1 hx with rfl | hx
    · refine ⟨hr, fun hz => ?_⟩
      have := h.zlt (.inl hz)
      exact absurd hg (Nat.not_le.2 this)
    · exact h'.row x hx
theorem RS.drop (h : RS W w bb s v es ro) {ro' : List (Nat × TypeId × List Value)} (hy : ∀ y ∈ ro', y ∈ ro) : RS W w bb s v es ro' :=
  ⟨h.kz.weak (fun b hb => hb.imp id (fun ⟨x, hx, e⟩ => ⟨x, hy x hx, e⟩)), h.bk, h.good, h.size, fun x hx => h.row x (hy x hx)⟩
theorem RS.np1 (h : RS W w bb s v es ro) {i : Nat} (hi : i < 3) : 1 ≤ s.np i := by
  obtain ⟨S, hp⟩ := h.kz.ks.pm hi
  exact hp.n1
/-- A call of the script. -/
theorem RS.step (h : RS W w bb s v es ro) (o : Op3) (ho : o.ok W W.heap.size) :
    Calls Try.prog 5 #[.pointer (some ⟨W.heap.size, 0, none⟩), .agg #[.int .i64 o.kind, .int .i64 o.who, .int .i64 o.n, .int .u64 o.pa, .int .u32 o.v, .slice o.a o.bs.length o.cap]] w fun e' w' => e' = .returned (.bool true) ∧ ∃ s', RS W w' bb s' v es ro := by
  refine (step_z o h.kz h.size h.good ho).mono ?_
  rintro e w' ⟨rfl, s', hk, hg, hT⟩
  exact ⟨rfl, s', ⟨hk, h.bk.keep hT (fun b hb hn => hn (.inl hb)), hg, Nat.le_trans h.size hT.size, fun x hx => ⟨(h.row x hx).1.turn hT (fun hn => hn (.inr ⟨x, hx, rfl⟩)), (h.row x hx).2⟩⟩⟩
theorem RS.read (h : RS W w bb s v es ro) {i : Nat} (hi : i < 3) (pa n : Nat) (hp : pa + n ≤ 4096) :
    Calls Try.prog 7 #[.pointer (some ⟨s.pp i, 0, none⟩), .int .u64 pa, .int .i64 n] w fun e w' => e = .returned (.tuple #[.slice (some ⟨w.heap.size, 0, none⟩) n n, .int .i64 0]) ∧ RS W w' bb s v es ((w.heap.size, 5, encB (rd (s.mp i) pa n)) :: ro) := by
  obtain ⟨S, hP⟩ := h.kz.ks.pm hi
  have hn := hP.n1
  refine (read_ok w S (s.pp i) (s.np i) (s.mp i) pa n hP (by omega)).mono ?_
  rintro e w' ⟨rfl, hr, hT⟩
  exact ⟨rfl, h.add hT (Nat.le_refl _) hr⟩
theorem RS.touched (h : RS W w bb s v es ro) {i : Nat} (hi : i < 3) :
    Calls Try.prog 8 #[.pointer (some ⟨s.pp i, 0, none⟩)] w fun e w' => ∃ L cap cur, e = .returned (.slice (some ⟨w.heap.size, 0, none⟩) L.length cap) ∧ Touch (s.np i) (s.mp i) L ∧ L.length ≤ cap ∧ cap ≤ 65536 ∧ cur.length = cap ∧ cur.take L.length = encI L ∧ RS W w' bb s v es ((w.heap.size, 3, cur) :: ro) := by
  obtain ⟨S, hP⟩ := h.kz.ks.pm hi
  refine (touched_any w S (s.pp i) (s.np i) (s.mp i) hP).mono ?_
  rintro e w' ⟨v2, L, rfl, hL, ⟨cap, cur, rfl, h1, h2, h3, h4, h5⟩, hT⟩
  exact ⟨L, cap, cur, rfl, hL, h2, h3, h4, h5, h.add hT (Nat.le_refl _) h1⟩
theorem RS.rread (h : RS W w bb s v es ro) {i : Nat} (hi : i < 3) (pa n : Nat) (hp : pa + n ≤ 4096) (hn0 : 0 < n) :
    Calls Try.prog 9 #[.pointer (some ⟨s.rr i, 0, none⟩), .int .u64 pa, .int .i64 n] w fun e w' => ∃ g cap cur, e = .returned (.tuple #[.slice (some ⟨g, 0, none⟩) n cap, .int .i64 0]) ∧ cur.take n = encB (rd (s.mp i) pa n) ∧ RS W w' bb s v es ((g, 5, cur) :: ro) := by
  obtain ⟨S, hR⟩ := h.kz.ks.rm hi
  have hn := hR.n1
  have hm := h.good.2 i hi
  refine (rread_ok w S (s.rr i) (s.nr i) (s.mr i) pa n hR (by omega)).mono ?_
  rintro e w' ⟨v2, rfl, ho, hT⟩
  rcases row_of_own ho with ⟨_, q, _⟩ | ⟨g, cap, cur, rfl, q1, q2, q3, q4, q5, q6⟩
  · omega
  · exact ⟨g, cap, cur, rfl, by rw [Nat.mul_one] at q6; rw [hm]; exact q6, h.add hT q1 q2⟩
theorem RS.rtouched (h : RS W w bb s v es ro) {i : Nat} (hi : i < 3) {L : List Int} (hL : Touch (s.np i) (s.mp i) L) :
    Calls Try.prog 12 #[.pointer (some ⟨s.rr i, 0, none⟩)] w fun e w' => ∃ a cap, e = .returned (.slice a L.length cap) ∧ (∀ j x, L[j]? = some x → ∃ g o, a = some ⟨g, o, none⟩ ∧ w'.cell? ⟨g, o + j, none⟩ = some (.int .i64 x)) ∧ RS W w' bb s v es ro := by
  obtain ⟨S, hR⟩ := h.kz.ks.rm hi
  have hm := h.good.2 i hi
  have hn := h.good.1 i hi
  refine (rtouched_any w S (s.rr i) (s.nr i) (s.mr i) hR).mono ?_
  rintro e w' ⟨v2, L2, rfl, hL2, ho, hT⟩
  rw [← hn, ← hm] at hL2
  have := hL2.uniq hL
  subst this
  rcases row_of_own ho with ⟨q1, q2, _⟩ | ⟨g, cap, cur, rfl, q1, q2, q3, q4, q5, q6⟩
  · refine ⟨none, 0, by rw [q1, q2], fun j x hj => ?_, h.keep hT⟩
    rw [List.eq_nil_of_length_eq_zero q2] at hj
    simp at hj
  · refine ⟨some ⟨g, 0, none⟩, cap, rfl, fun j x hj => ⟨g, 0, rfl, ?_⟩, h.keep hT⟩
    rw [q2.cell, Nat.zero_add]
    have hjl := (List.getElem?_eq_some_iff.1 hj).1
    have := congrArg (fun l => l[j]?) q6
    simp only [Nat.mul_one, List.getElem?_take_of_lt hjl] at this
    rw [this]
    exact encI_at hj
theorem take_cell {w : World} {g : Nat} {e : TypeId} {cur xs : List Value} {n : Nat} (hr : RowAt w g e cur) (ht : cur.take n = xs) {j : Nat} {u : Value} (hj : xs[j]? = some u) (hn : xs.length = n) : w.cell? ⟨g, 0 + j, none⟩ = some u := by
  rw [hr.cell, Nat.zero_add]
  have hjl := (List.getElem?_eq_some_iff.1 hj).1
  have := congrArg (fun l => l[j]?) ht
  simp only [List.getElem?_take_of_lt (show j < n by omega)] at this
  rw [this]
  exact hj
theorem RS.bytes (h : RS W w bb s v es ro) {g g' : Nat} {cur cur' : List Value} {l : List Int} {ca cb n : Nat} (h1 : (g, 5, cur) ∈ ro) (h2 : (g', 5, cur') ∈ ro) (hl : l.length = n) (t1 : cur.take n = encB l) (t2 : cur'.take n = encB l) (hn : n ≤ 65536) :
    Calls Try.prog 10 #[.slice (some ⟨g, 0, none⟩) n ca, .slice (some ⟨g', 0, none⟩) n cb] w fun e w' => e = .returned (.bool true) ∧ RS W w' bb s v es ro := by
  subst hl
  refine (bytes_any w _ _ ca cb l (fun j x hj => ⟨g, 0, rfl, take_cell (h.row _ h1).1 t1 (encB_at hj) (encB_len l)⟩) (fun j x hj => ⟨g', 0, rfl, take_cell (h.row _ h2).1 t2 (encB_at hj) (encB_len l)⟩) (by omega)).mono ?_
  rintro e w' ⟨rfl, q, rfl⟩
  exact ⟨rfl, h.keep ((Turn.refl _ _).drewN q)⟩
theorem RS.ints (h : RS W w bb s v es ro) {g : Nat} {a : Option Addr} {cur : List Value} {l : List Int} {ca cb : Nat} (h1 : (g, 3, cur) ∈ ro) (t1 : cur.take l.length = encI l) (h2 : ∀ j x, l[j]? = some x → ∃ g o, a = some ⟨g, o, none⟩ ∧ w.cell? ⟨g, o + j, none⟩ = some (.int .i64 x)) (hn : l.length ≤ 65536) :
    Calls Try.prog 11 #[.slice (some ⟨g, 0, none⟩) l.length ca, .slice a l.length cb] w fun e w' => e = .returned (.bool true) ∧ RS W w' bb s v es ro := by
  refine (ints_any w _ _ ca cb l (fun j x hj => ⟨g, 0, rfl, take_cell (h.row _ h1).1 t1 (encI_at hj) (encI_len l)⟩) h2 (by omega)).mono ?_
  rintro e w' ⟨rfl, q, rfl⟩
  exact ⟨rfl, h.keep ((Turn.refl _ _).drewN q)⟩
theorem RS.cells (h : RS W w bb s v es ro) {g : Nat} {cur : List Value} {l : List Int} (h1 : (g, 3, cur) ∈ ro) (t1 : cur.take l.length = encI l) : ∀ j x, l[j]? = some x → ∃ g' o, (some ⟨g, 0, none⟩ : Option Addr) = some ⟨g', o, none⟩ ∧ w.cell? ⟨g', o + j, none⟩ = some (.int .i64 x) :=
  fun j x hj => ⟨g, 0, rfl, take_cell (h.row _ h1).1 t1 (encI_at hj) (encI_len l)⟩
theorem RS.take (h : RS W w bb s v es ro) (gl : Nat) (cl : List Value) (hl : (gl, 5, cl) ∈ ro) (hL : cl.length = 64) (gt ct nt : Nat) (cu : List Value) (ht : (gt, 3, cu) ∈ ro) (hct : ct ≤ 65536) (hnt : nt ≤ ct) (hcu : cu.length = ct) (hn : es.length ≤ 4194304) :
    Calls Try.prog 13 #[.pointer (some ⟨bb, 0, none⟩), .slice (some ⟨gl, 0, none⟩) 64 64, .slice (some ⟨gt, 0, none⟩) nt ct] w fun e w' => e = .returned (.tuple #[]) ∧ ∃ v' es', es'.length = es.length + 1 ∧ ∀ ro', (∀ x ∈ ro', x ∈ ro ∧ x.1 ≠ gl ∧ x.1 ≠ gt) → RS W w' bb s v' es' ro' := by
  obtain ⟨r1, r2⟩ := h.row _ hl
  obtain ⟨r3, r4⟩ := h.row _ ht
  refine (take_any w bb v es h.bk.bo h.bk.inn gl cl r1 hL gt ct nt cu r3 hct hnt hcu hn (fun e he k hk hb => r2 (.inr (.inr ⟨e, he, k, hk, hb⟩))) (fun e he k hk hb => r4 (.inr (.inr ⟨e, he, k, hk, hb⟩)))).mono ?_
  rintro e w' ⟨rfl, v', en, hO, hI, hT, hN1, hN2⟩
  have hbk : BK w' bb v' (es ++ [en]) := ⟨hO, hI⟩
  have hold : ∀ b, ZB bb v' (es ++ [en]) b → ZR bb v es ro b ∨ w.heap.size ≤ b := by
    rintro b (hb | ⟨k, hk, hb⟩ | ⟨e, he, k, hk, hb⟩)
    · exact .inl (.inl (.inl hb))
    · rcases hN1 k b hk hb with hq | hq
      · exact .inl (.inl (.inr (.inl ⟨k, hk, hq⟩)))
      · exact .inr hq
    · rcases List.mem_append.1 he with he | he
      · exact .inl (.inl (.inr (.inr ⟨e, he, k, hk, hb⟩)))
      · simp only [List.mem_cons, List.not_mem_nil, or_false] at he
        subst he
        rcases hN2 k b hk hb with hq | hq | hq
        · exact .inl (.inr ⟨_, hl, hq.symm⟩)
        · exact .inl (.inr ⟨_, ht, hq.symm⟩)
        · exact .inr hq
  have hTZ : Turn (ZR bb v es ro) w w' := hT.mono (fun b _ hb => by
    rcases hb with hb | hb | hb | hb
    · exact .inl (.inl hb)
    · exact .inl (.inr (.inl hb))
    · exact .inr ⟨_, hl, hb.symm⟩
    · exact .inr ⟨_, ht, hb.symm⟩)
  refine ⟨rfl, v', es ++ [en], by simp, fun ro' hro => ?_⟩
  have hrow : ∀ x ∈ ro', RowAt w' x.1 x.2.1 x.2.2 ∧ ¬ ZB bb v' (es ++ [en]) x.1 := fun x hx => by
    obtain ⟨q1, q2, q3⟩ := hro x hx
    obtain ⟨p1, p2⟩ := h.row x q1
    refine ⟨p1.turn hT (fun hb => ?_), fun hb => ?_⟩
    · rcases hb with hb | hb | hb | hb
      · exact p2 (.inl hb)
      · exact p2 (.inr (.inl hb))
      · exact q2 hb
      · exact q3 hb
    · have plt := p1.lt
      rcases hb with hb | ⟨k, hk, hb⟩ | ⟨e, he, k, hk, hb⟩
      · exact p2 (.inl hb)
      · rcases hN1 k _ hk hb with hq | hq
        · exact p2 (.inr (.inl ⟨k, hk, hq⟩))
        · omega
      · rcases List.mem_append.1 he with he | he
        · exact p2 (.inr (.inr ⟨e, he, k, hk, hb⟩))
        · simp only [List.mem_cons, List.not_mem_nil, or_false] at he
          subst he
          rcases hN2 k _ hk hb with hq | hq | hq
          · exact q2 hq
          · exact q3 hq
          · omega
  refine ⟨h.kz.re hTZ h.size (fun b hb => ?_), hbk, h.good, Nat.le_trans h.size hT.size, hrow⟩
  rcases hb with hb | ⟨x, hx, rfl⟩
  · exact ⟨hold b hb, hbk.rows b hb⟩
  · exact ⟨.inl (.inr ⟨x, (hro x hx).1, rfl⟩), _, _, (hrow x hx).1⟩
end
end Go.Proofs.Ytlfgnbjioofplab

import Derived.Test.YtilhceajhlaojaaGreatDoorZ24
import Derived.Deep.Cut
namespace Go.Proofs.YtilhceajhlaojaaGreatDoor
open Go.RowKit
set_option linter.unusedVariables false
set_option linter.unusedSimpArgs false
/-- A step whose condition does not hold, with all that it leaves alone. -/
theorem gStep_sqn (w : World) (cb lo lb : Nat) (pv hv av : Value) (l : Ln) (R : List Int) (i : Is.Ins) (hc : RB w cb 86 R [.bool false]) (hx : LX w lo lb pv hv av l) (mc : ¬ LO lb pv hv av cb) (te : TE w) (hlo : 4 < lo) (hcb : 4 < cb) (ho : LOk l) (hn : l.asked.length ≤ 400000000000) (hh : l.holes = []) (h4 : rg R 28 % 4 = 0)
    (hdec : Is.decP (rnV l R).toNat = some i) (op : 0 < i.op ∧ i.op < 53) (hp : Al.paF i.cond (flR R).n (flR R).z (flR R).c (flR R).v = false) :
    Calls Tryz.prog 16 #[.pointer (some ⟨cb, 0, none⟩), busV lb] w fun e w' => e = .returned (.tuple #[.agg (tkA (rnT l R)), .int .i64 0]) ∧ SQ w w' cb lo lb pv hv av (rnL l R) (pcR R (rg R 28)) := by
  refine gStep w cb lo lb 0 pv hv av l (rnL l R) R (pcR R (rg R 28)) (rnT l R) hc hx mc te hlo hcb (by decide) rfl ?_
  intro v hc hx te
  refine gnext v cb lo lb pv hv av l R hc hx mc te hlo ho hn hh h4 (rnT l R) (rnL l R) _ ?_ ?_
  · intro hd
    have : Is.decP (rnV l R).toNat = none := hd
    rw [hdec] at this
    cases this
  · intro j hd v2 b av' hc2 hdb hx2 n mc2 mb2
    have : Is.decP (rnV l R).toNat = some j := hd
    rw [hdec] at this
    cases this
    exact gdoins v2 cb b lo lb pv hv av' (rnL l R) (rnL l R) R R (pcR R (rg R 28)) false false i (rnT l R) (rnT l R) hc2 hdb hx2 n mc2 mb2 (hc.ok.rng 28) op false true hp rfl (fun _ => ⟨rfl, rfl, rfl⟩) (fun e => by cases e)
/-- While the law runs: the processor, the box of the state. -/
structure UX (W v : World) (B cb : Nat) (R S : List Int) : Prop where
  bel : Below W.heap.size W v
  hB : W.heap.size ≤ B
  hC : W.heap.size ≤ cb
  te : TE v
  cpu : RB v cb 86 R [.bool false]
  box : Bl v B 26 (RL S)
  n : B ≠ cb
  b4 : 4 < B
  c4 : 4 < cb
theorem UX.step {W v v' : World} {B cb : Nat} {R S : List Int} (h : UX W v B cb R S) (hb : Below v.heap.size v v') : UX W v' B cb R S := ⟨Below.step h.bel hb, h.hB, h.hC, h.te.below hb, h.cpu.below hb, h.box.below hb, h.n, h.b4, h.c4⟩
theorem UX.drew {W v : World} {B cb : Nat} {R S : List Int} (h : UX W v B cb R S) : UX W v.drew B cb R S := ⟨below_drew h.bel, h.hB, h.hC, h.te.drew, h.cpu.drew, h.box.drew, h.n, h.b4, h.c4⟩
theorem UX.put {W v : World} {B cb : Nat} {R S S' : List Int} (h : UX W v B cb R S) (hS : S.length = 30) (hS' : S'.length = 30) : UX W (v.setCells B 0 (RL S')) B cb R S' := by
  have hT : TA B v (v.setCells B 0 (RL S')) := set_turn _ 0 v v (Turn.refl _ _)
  have hbel : Below W.heap.size W (v.setCells B 0 (RL S')) := h.bel.trans (Turn.to hT (fun x hx => by have e : x = B := hx; have := h.hB; omega) h.bel.size)
  refine ⟨hbel, h.hB, h.hC, h.te.turn hT (fun g e => ?_), RB.turn h.cpu hT (fun e => h.n (show cb = B from e).symm), set_all h.box (by unfold RL; rw [List.length_map, List.length_map, hS, hS']), h.n, h.b4, h.c4⟩
  have e : g = B := e
  have := h.b4
  omega
theorem gmadeU (w : World) (te : TE w) (S : List Int) (hS : ROk S) : Calls Tryz.prog 9 #[.agg (RL S).toArray] (w.alloc (.cells (RL S).toArray 26)) fun e w' => e = .returned (.pointer (some ⟨w.heap.size + 2, 0, none⟩)) ∧ UX w w' w.heap.size (w.heap.size + 2) (mdS S) S := by
  have hb := below_new w (.cells (RL S).toArray 26)
  have h4 := te.size
  refine (gmade _ S hS).mono ?_
  rintro e w' ⟨rfl, hn⟩
  rw [World.size_alloc]
  have hc := hn.cpu
  rw [World.size_alloc] at hc
  exact ⟨rfl, Below.step hb hn.bel, Nat.le_refl _, by omega, (te.below hb).below hn.bel, hc, (Bl.new w 26 (RL S)).below hn.bel, by omega, by omega, by omega⟩
theorem md_ok {S : List Int} (h : ROk S) : ROk (mdS S) := by
  unfold mdS
  split
  · exact h
  · exact nw_ok
theorem md_pc {S : List Int} (h : ROk S) : rg (mdS S) 28 % 4 = 0 := by
  unfold mdS
  split
  · rename_i hs
    rw [isR_eq h] at hs
    simp only [Bool.and_eq_true, Bool.not_eq_true', bne_eq_false_iff_eq] at hs
    exact hs.1.1.1.1.1.1.2
  · decide
theorem putP_op (i : Is.Ins) (f v : Nat) (h0 : ¬ f = 0) : (Is.putP i f v).op = i.op := by
  unfold Is.putP
  rw [if_neg h0]
  by_cases h1 : f = 1
  · rw [if_pos h1]
  rw [if_neg h1]
  by_cases h2 : f = 2
  · rw [if_pos h2]
  rw [if_neg h2]
  by_cases h3 : f = 3
  · rw [if_pos h3]
  rw [if_neg h3]
  by_cases h4 : f = 4
  · rw [if_pos h4]
  rw [if_neg h4]
  by_cases h5 : f = 5
  · rw [if_pos h5]
  rw [if_neg h5]
  by_cases h6 : f = 6
  · rw [if_pos h6]
  rw [if_neg h6]
  by_cases h7 : f = 7
  · rw [if_pos h7]
  rw [if_neg h7]
  by_cases h8 : f = 8
  · rw [if_pos h8]
  rw [if_neg h8]
  by_cases h9 : f = 9
  · rw [if_pos h9]
  rw [if_neg h9]
  by_cases h10 : f = 10
  · rw [if_pos h10]
  rw [if_neg h10]
  by_cases h11 : f = 11
  · rw [if_pos h11]
  rw [if_neg h11]
  by_cases h12 : f = 12
  · rw [if_pos h12]
  rw [if_neg h12]
  by_cases h13 : f = 13
  · rw [if_pos h13]
  rw [if_neg h13]
  by_cases h14 : f = 14
  · rw [if_pos h14]
  rw [if_neg h14]
  by_cases h15 : f = 15
  · rw [if_pos h15]
  rw [if_neg h15]
  by_cases h16 : f = 16
  · rw [if_pos h16]
  rw [if_neg h16]
  by_cases h17 : f = 17
  · rw [if_pos h17]
  rw [if_neg h17]
theorem getP_small (w k : Nat) (h : (Is.plP k).fld = 0) : Is.getP w k < 16 := by
  have hk : (Is.plP k).wide ≤ 4 ∧ (Is.plP k).frm = 0 := by
    by_cases h28 : k < 28
    · have : ∀ k, k < 28 → (Is.plP k).fld = 0 → (Is.plP k).wide ≤ 4 ∧ (Is.plP k).frm = 0 := by decide
      exact this k h28 h
    · have e : Is.plP k = ⟨0, 0, 0, 0⟩ := by
        unfold Is.plP
        rw [List.getD_eq_getElem?_getD, List.getElem?_eq_none (by show 28 ≤ k; omega)]
        rfl
      rw [e]
      decide
  unfold Is.getP
  rw [hk.2]
  have h1 : w / 2 ^ (Is.plP k).at_ % 2 ^ (Is.plP k).wide < 2 ^ (Is.plP k).wide := Nat.mod_lt _ (Nat.two_pow_pos _)
  have h2 : 2 ^ (Is.plP k).wide ≤ 2 ^ 4 := Nat.pow_le_pow_right (by decide) hk.1
  have h3 : (2 : Nat) ^ 4 = 16 := by decide
  have h4 : (2 : Nat) ^ 0 = 1 := by decide
  rw [h4, Nat.mul_one]
  exact Nat.lt_of_le_of_lt (Nat.mod_le _ _) (by omega)
theorem readF_op (w : Nat) : ∀ (l : List Nat) (i : Is.Ins), 0 < i.op ∧ i.op < 53 → 0 < (Is.readF w i l).op ∧ (Is.readF w i l).op < 53
  | [], i, h => h
  | k :: l, i, h => by
    rw [Is.readF]
    refine readF_op w l _ ?_
    by_cases h0 : (Is.plP k).fld = 0
    · have hs := getP_small w k h0
      rw [h0]
      show 0 < (Is.getP w k : Int) + 1 ∧ (Is.getP w k : Int) + 1 < 53
      omega
    · rw [putP_op i _ _ h0]
      exact h
theorem readP_op (r : Is.RowP) (w : Nat) (h : 0 < r.op ∧ r.op < 53) : 0 < (Is.readP r w).op ∧ (Is.readP r w).op < 53 := by
  unfold Is.readP
  dsimp only
  split
  · exact readF_op w _ _ (by show (0 : Int) < (r.op : Int) ∧ (r.op : Int) < 53; omega)
  · exact readF_op w _ _ (by show (0 : Int) < (r.op : Int) ∧ (r.op : Int) < 53; omega)
theorem low_op : ∀ r ∈ Is.lowL, 0 < r.op ∧ r.op < 53 := by decide
theorem high_op : ∀ r ∈ Is.highL, 0 < r.op ∧ r.op < 53 := by decide
theorem decP_op {x : Nat} {i : Is.Ins} (h : Is.decP x = some i) : 0 < i.op ∧ i.op < 53 := by
  unfold Is.decP at h
  cases hr : Is.rowW x with
  | none => rw [hr] at h; cases h
  | some r =>
    rw [hr] at h
    dsimp only at h
    split at h
    · cases h
      refine readP_op r x ?_
      unfold Is.rowW at hr
      split at hr
      · exact low_op r (List.mem_of_find?_eq_some hr)
      · exact high_op r (List.mem_of_find?_eq_some hr)
    · cases h
/-- The same with the line. -/
structure VX (W v : World) (B cb lb : Nat) (R S : List Int) (p : Int × Int) (A : List Ak) : Prop where
  ux : UX W v B cb R S
  lx : ∃ pv hv av, LX v lb lb pv hv av ⟨[p], [], A, 0⟩
  b : B < lb
  c : cb < lb
theorem VX.step {W v v' : World} {B cb lb : Nat} {R S : List Int} {p : Int × Int} {A : List Ak} (h : VX W v B cb lb R S p A) (hb : Below v.heap.size v v') : VX W v' B cb lb R S p A := by
  obtain ⟨pv, hv, av, h1⟩ := h.lx
  exact ⟨h.ux.step hb, ⟨pv, hv, av, h1.below hb⟩, h.b, h.c⟩
theorem VX.drew {W v : World} {B cb lb : Nat} {R S : List Int} {p : Int × Int} {A : List Ak} (h : VX W v B cb lb R S p A) : VX W v.drew B cb lb R S p A := by
  obtain ⟨pv, hv, av, h1⟩ := h.lx
  exact ⟨h.ux.drew, ⟨pv, hv, av, h1.drew⟩, h.b, h.c⟩
theorem VX.put {W v : World} {B cb lb : Nat} {R S : List Int} {p : Int × Int} {A : List Ak} (h : VX W v B cb lb R S p A) (k : Nat) (u : Int) : VX W (v.setCell ⟨B, k, none⟩ (.int .u32 u)) B cb lb R (S.set k u) p A := by
  have hT : TA B v (v.setCell ⟨B, k, none⟩ (.int .u32 u)) := TA.set (Turn.refl _ v) k _
  have hb := h.b
  have h4 := h.ux.b4
  obtain ⟨pv, hv, av, h1⟩ := h.lx
  have e : RL (S.set k u) = (RL S).set k (.int .u32 u) := by unfold RL; rw [List.map_set]; rfl
  have hbel : Below W.heap.size W (v.setCell ⟨B, k, none⟩ (.int .u32 u)) := h.ux.bel.trans (Turn.to hT (fun x hx => by have e : x = B := hx; have := h.ux.hB; omega) h.ux.bel.size)
  refine ⟨⟨hbel, h.ux.hB, h.ux.hC, h.ux.te.turn hT (fun g e => ?_), RB.turn h.ux.cpu hT (fun e => h.ux.n (show cb = B from e).symm), ?_, h.ux.n, h.ux.b4, h.ux.c4⟩, ⟨pv, hv, av, h1.turn hT (fun g hg e => ?_)⟩, h.b, h.c⟩
  · have e : g = B := e
    omega
  · rw [e]
    exact h.ux.box.set k _
  · have e : g = B := e
    have := h1.ge hg
    omega
theorem gNewLine1 (W w : World) (B cb : Nat) (R S : List Int) (h : UX W w B cb R S) (a x : Int) : Calls Tryz.prog 15 #[.slice (some ⟨w.heap.size, 0, none⟩) 1 1, .slice none 0 0] (w.alloc (.cells #[.int .u32 a, .int .u32 x] 45)) fun e w' => e = .returned (.pointer (some ⟨w.heap.size + 1, 0, none⟩)) ∧ VX W w' B cb (w.heap.size + 1) R S (a, x) [] := by
  have hq := Bl.new w 45 [.int .u32 a, .int .u32 x]
  have hb0 := below_new w (.cells #[.int .u32 a, .int .u32 x] 45)
  have h1 := h.box.lt
  have h2 := h.cpu.bl.lt
  refine (gNewLine _ _ _ [(a, x)] [] (fun v hb => Src.ofSlice _ Tryz.underlying46 ⟨w.heap.size, 0, none⟩ 1 1 _ rfl (fun j u hj => by rw [Addr.add_lit, Nat.zero_add]; exact ((hq.below hb).cell j).trans hj) (by intro u hu; simp only [ptL, List.flatMap_cons, List.flatMap_nil, List.append_nil, List.mem_cons, List.mem_nil_iff, or_false] at hu; rcases hu with rfl | rfl <;> rfl)) (fun v hb => Src.ofNil v Tryz.underlying55 0) (by simp) (by simp)).mono ?_
  rintro e w' ⟨rfl, hb, pv, hv, hl⟩
  rw [World.size_alloc] at hl ⊢
  exact ⟨rfl, (h.step hb0).step hb, ⟨pv, hv, _, hl⟩, by omega, by omega⟩
theorem gStepV (W w : World) (B cb lb : Nat) (R S : List Int) (a x : Int) (i : Is.Ins) (h : VX W w B cb lb R S (a, x) []) (ha : rg R 28 = a) (hr : 0 ≤ a ∧ a < 4294967296) (h4 : a % 4 = 0) (hx : 0 ≤ x ∧ x < 4294967296) (hdec : Is.decP x.toNat = some i) (op : 0 < i.op ∧ i.op < 53) (hp : Al.paF i.cond (flR R).n (flR R).z (flR R).c (flR R).v = false) :
    Calls Tryz.prog 16 #[.pointer (some ⟨cb, 0, none⟩), .iface 42 (.pointer (some ⟨lb, 0, none⟩))] w fun e w' => e = .returned (.tuple #[.agg #[.int .i64 0, .int .u32 a, .int .u32 x, .int .u32 0, .int .i64 0, .int .i64 0, .int .i64 0, .bool false], .int .i64 0]) ∧ VX W w' B cb lb (pcR R a) S (a, x) [askP 1 a 0 (!(mdR R == 16))] := by
  obtain ⟨pv, hv, av, hl⟩ := h.lx
  have hb := h.b
  have hc := h.c
  have hb4 := h.ux.b4
  have hc4 := h.ux.c4
  have mc : ¬ LO lb pv hv av cb := fun e => by have := hl.ge e; omega
  have mB : ¬ LO lb pv hv av B := fun e => by have := hl.ge e; omega
  have eV : rnV ⟨[(a, x)], [], [], 0⟩ R = x := by
    unfold rnV
    rw [ha]
    show (if a - a % 4 = a then x else 0) = x
    rw [if_pos (by omega)]
  have := gStep_sqn w cb lb lb pv hv av ⟨[(a, x)], [], [], 0⟩ R i h.ux.cpu hl mc h.ux.te (by omega) hc4 ⟨by intro p hp; simp only [List.mem_cons, List.mem_nil_iff, or_false] at hp; subst hp; exact ⟨hr, hx⟩, by show (0 : Int) ≤ 0 ∧ (0 : Int) < 4294967296; decide⟩ (by simp) rfl (by rw [ha]; exact h4) (by rw [eV]; exact hdec) op hp
  refine this.mono ?_
  rintro e w' ⟨rfl, hs⟩
  obtain ⟨av', k1, k2⟩ := hs.lq
  have hcpu := hs.cpu
  rw [ha] at hcpu
  have eT : rnT ⟨[(a, x)], [], [], 0⟩ R = ⟨0, a, x, 0, 0, 0, 0, false⟩ := by unfold rnT; rw [eV, ha]
  have eL : rnL ⟨[(a, x)], [], [], 0⟩ R = ⟨[(a, x)], [], [askP 1 a 0 (!(mdR R == 16))], 0⟩ := by unfold rnL; rw [ha]; rfl
  rw [eT]
  rw [eL] at k1
  have hbel : Below W.heap.size W w' := h.ux.bel.trans (Turn.to hs.turn (fun g hg => by
    have h1 := h.ux.hB
    have h2 := h.ux.hC
    rcases hg with e | e
    · omega
    · have := hl.ge e; omega) h.ux.bel.size)
  refine ⟨rfl, ⟨hbel, h.ux.hB, h.ux.hC, h.ux.te.turn hs.turn (fun g hg => ?_), hcpu, h.ux.box.turn hs.turn (fun e => ?_), h.ux.n, hb4, hc4⟩, ⟨pv, hv, av', k1⟩, hb, hc⟩
  · rcases hg with e | e
    · omega
    · have := hl.ge e; omega
  · rcases e with e | e
    · exact h.ux.n e
    · exact mB e
theorem VX.asked {W v : World} {B cb lb : Nat} {R S : List Int} {p : Int × Int} {k : Ak} (h : VX W v B cb lb R S p [k]) : ∃ a c, v.cell? ⟨lb, 2, none⟩ = some (.slice a 1 c) := by
  obtain ⟨pv, hv, av, hl⟩ := h.lx
  obtain ⟨a, c, e⟩ := own_slice hl.a
  exact ⟨a, c, by rw [hl.cells.1.2.2.1, e]; rfl⟩
end Go.Proofs.YtilhceajhlaojaaGreatDoor
namespace Go.Proofs.YtilhceajhlaojaaGreatDoor
open Go.RowKit
set_option linter.unusedVariables false
set_option linter.unusedSimpArgs false
/-- The row of a supervisor call, and no other, fits such a word. -/
def svcR : Is.RowP := ⟨45, 0, 251658240, 251658240, 1024⟩
theorem and_up (x m : Nat) : (x &&& m) / 16777216 = (x / 16777216) &&& (m / 16777216) := by
  have h := Nat.shiftRight_and_distrib (a := x) (b := m) (i := 24)
  rw [Nat.shiftRight_eq_div_pow, Nat.shiftRight_eq_div_pow, Nat.shiftRight_eq_div_pow] at h
  exact h
theorem and_lo (x m : Nat) : (x &&& m) % 16777216 = (x % 16777216) &&& (m % 16777216) := by
  have h := Nat.and_mod_two_pow (a := x) (b := m) (n := 24)
  exact h
theorem svc_fit (x : Nat) (h : x / 16777216 = 239) : Is.rowW x = some svcR := by
  have hx : x < 4294967296 := by omega
  unfold Is.rowW
  rw [if_neg (by omega)]
  have hno : ∀ r ∈ Is.highL, ¬ r.op = 45 → Is.fitR x r = false := by
    intro r hr ho
    have hk : ∀ r ∈ Is.highL, ¬ r.op = 45 → ¬ (239 &&& (r.mask / 16777216)) = r.bits / 16777216 := by decide
    have := hk r hr ho
    unfold Is.fitR
    rw [beq_eq_false_iff_ne]
    intro e
    apply this
    rw [← e, and_up, h]
  have hyes : Is.fitR x svcR = true := by
    unfold Is.fitR
    rw [beq_iff_eq]
    have h1 := and_up x 251658240
    have h2 := and_lo x 251658240
    rw [h] at h1
    have e1 : 239 &&& 251658240 / 16777216 = 15 := by decide
    have e2 : (x % 16777216) &&& (251658240 % 16777216) = 0 := by
      show (x % 16777216) &&& 0 = 0
      exact Nat.and_zero _
    rw [e1] at h1
    rw [e2] at h2
    show x &&& 251658240 = 251658240
    omega
  have e : Is.highL = Is.highL.take 17 ++ svcR :: Is.highL.drop 18 := rfl
  have ha : (Is.highL.take 17).find? (Is.fitR x) = none := by
    rw [List.find?_eq_none]
    intro r hr
    have h45 : ∀ r ∈ Is.highL.take 17, ¬ r.op = 45 := by decide
    rw [hno r (List.mem_of_mem_take hr) (h45 r hr)]
    decide
  rw [e, List.find?_append, ha, Option.none_or, List.find?_cons_of_pos hyes]
theorem svc_dec (x : Nat) (h : x / 16777216 = 239) : ∃ i, Is.decP x = some i ∧ i.op = 45 ∧ i.cond = 14 := by
  have hc : x / 268435456 = 14 := by omega
  have h1 : (Is.readP svcR x).op = 45 := rfl
  have h2 : (Is.readP svcR x).cond = ((x / 268435456 : Nat) : Int) := rfl
  have h3 : (Is.readP svcR x).form = 0 := rfl
  rw [hc] at h2
  refine ⟨Is.readP svcR x, ?_, h1, h2⟩
  unfold Is.decP
  rw [svc_fit x h]
  have hm : Is.mayP (Is.readP svcR x) = true := by
    unfold Is.mayP Is.isOneP
    rw [h1, h2, h3]
    simp
  show (if Is.mayP (Is.readP svcR x) then some (Is.readP svcR x) else none) = _
  rw [hm]
  rfl
theorem pa14 (n z c v : Bool) : Al.paF 14 n z c v = true := by
  unfold Al.paF
  rfl
/-- A supervisor call, with all that it leaves alone. -/
theorem gStep_sqc (w : World) (cb lo lb : Nat) (pv hv av : Value) (l : Ln) (R : List Int) (i : Is.Ins) (hc : RB w cb 86 R [.bool false]) (hx : LX w lo lb pv hv av l) (mc : ¬ LO lb pv hv av cb) (te : TE w) (hlo : 4 < lo) (hcb : 4 < cb) (ho : LOk l) (hn : l.asked.length ≤ 400000000000) (hh : l.holes = []) (h4 : rg R 28 % 4 = 0)
    (hdec : Is.decP (rnV l R).toNat = some i) (op : i.op = 45) (hp : i.cond = 14) :
    Calls Tryz.prog 16 #[.pointer (some ⟨cb, 0, none⟩), busV lb] w fun e w' => e = .returned (.tuple #[.agg (tkA { rnT l R with kind := 2 }), .int .i64 0]) ∧ SQ w w' cb lo lb pv hv av (rnL l R) (raP 2 R) := by
  refine gStep w cb lo lb 2 pv hv av l (rnL l R) R R { rnT l R with kind := 2 } hc hx mc te hlo hcb (by decide) rfl ?_
  intro v hc hx te
  refine gnext v cb lo lb pv hv av l R hc hx mc te hlo ho hn hh h4 { rnT l R with kind := 2 } (rnL l R) _ ?_ ?_
  · intro hd
    have : Is.decP (rnV l R).toNat = none := hd
    rw [hdec] at this
    cases this
  · intro j hd v2 b av' hc2 hdb hx2 n mc2 mb2
    have : Is.decP (rnV l R).toNat = some j := hd
    rw [hdec] at this
    cases this
    exact gdoins v2 cb b lo lb pv hv av' (rnL l R) (rnL l R) R R (pcR R (rg R 28)) false false i (rnT l R) { rnT l R with kind := 2 } hc2 hdb hx2 n mc2 mb2 (hc.ok.rng 28) (by omega) true false (by rw [hp]; exact pa14 _ _ _ _) rfl (fun e => by cases e) (fun _ v3 av3 x1 x2 x3 x4 => by
      have e : dfn i.op.toNat = 73 := by rw [op]; rfl
      rw [e]
      refine (gcall v3 b _ false (busV lb) i (rnT l R) x2).mono ?_
      rintro e w' ⟨rfl, ht, hdb2⟩
      exact ⟨rfl, ⟨av3, x1.turn ht (fun g hg e => x3 ((show g = b from e) ▸ hg)), fun g hg => .inl hg⟩, ⟨ht.os, ht.tape, ht.output, ht.size, fun k hk hn => ht.block k hk (fun e => hn (.inl e))⟩, hdb2⟩)
/-- A word that says nothing. -/
theorem gStep_squ (w : World) (cb lo lb : Nat) (pv hv av : Value) (l : Ln) (R : List Int) (hc : RB w cb 86 R [.bool false]) (hx : LX w lo lb pv hv av l) (mc : ¬ LO lb pv hv av cb) (te : TE w) (hlo : 4 < lo) (hcb : 4 < cb) (ho : LOk l) (hn : l.asked.length ≤ 400000000000) (hh : l.holes = []) (h4 : rg R 28 % 4 = 0)
    (hdec : Is.decP (rnV l R).toNat = none) :
    Calls Tryz.prog 16 #[.pointer (some ⟨cb, 0, none⟩), busV lb] w fun e w' => e = .returned (.tuple #[.agg (tkA { rnT l R with kind := 1 }), .int .i64 0]) ∧ SQ w w' cb lo lb pv hv av (rnL l R) (raP 1 R) := by
  refine gStep w cb lo lb 1 pv hv av l (rnL l R) R R { rnT l R with kind := 1 } hc hx mc te hlo hcb (by decide) rfl ?_
  intro v hc hx te
  refine gnext v cb lo lb pv hv av l R hc hx mc te hlo ho hn hh h4 { rnT l R with kind := 1 } (rnL l R) _ (fun _ => ⟨rfl, rfl, rfl⟩) ?_
  intro j hd
  have : Is.decP (rnV l R).toNat = some j := hd
  rw [hdec] at this
  cases this
/-- A step of a line of one word, its exception taken: what it came to is of kind k. -/
theorem gStepK (W w : World) (B cb lb : Nat) (R S : List Int) (a x : Int) (k : Nat) (h : VX W w B cb lb R S (a, x) []) (ha : rg R 28 = a) (hr : 0 ≤ a ∧ a < 4294967296) (h4 : a % 4 = 0) (hx : 0 ≤ x ∧ x < 4294967296) (hk : (k = 1 ∧ Is.decP x.toNat = none) ∨ (k = 2 ∧ ∃ i, Is.decP x.toNat = some i ∧ i.op = 45 ∧ i.cond = 14)) :
    Calls Tryz.prog 16 #[.pointer (some ⟨cb, 0, none⟩), .iface 42 (.pointer (some ⟨lb, 0, none⟩))] w fun e w' => e = .returned (.tuple #[.agg #[.int .i64 (k : Nat), .int .u32 a, .int .u32 x, .int .u32 0, .int .i64 0, .int .i64 0, .int .i64 0, .bool false], .int .i64 0]) ∧ UX W w' B cb (raP k R) S ∧ Turn (fun g => g = cb ∨ lb ≤ g) w w' := by
  obtain ⟨pv, hv, av, hl⟩ := h.lx
  have hb := h.b
  have hc := h.c
  have hb4 := h.ux.b4
  have hc4 := h.ux.c4
  have mc : ¬ LO lb pv hv av cb := fun e => by have := hl.ge e; omega
  have mB : ¬ LO lb pv hv av B := fun e => by have := hl.ge e; omega
  have eV : rnV ⟨[(a, x)], [], [], 0⟩ R = x := by
    unfold rnV
    rw [ha]
    show (if a - a % 4 = a then x else 0) = x
    rw [if_pos (by omega)]
  have lok : LOk ⟨[(a, x)], [], [], 0⟩ := ⟨by intro p hp; simp only [List.mem_cons, List.mem_nil_iff, or_false] at hp; subst hp; exact ⟨hr, hx⟩, by show (0 : Int) ≤ 0 ∧ (0 : Int) < 4294967296; decide⟩
  have eT : rnT ⟨[(a, x)], [], [], 0⟩ R = ⟨0, a, x, 0, 0, 0, 0, false⟩ := by unfold rnT; rw [eV, ha]
  have hfin : ∀ (w' : World) (l' : Ln), SQ w w' cb lb lb pv hv av l' (raP k R) → UX W w' B cb (raP k R) S ∧ Turn (fun g => g = cb ∨ lb ≤ g) w w' := fun w' l' hs => by
    have hbel : Below W.heap.size W w' := h.ux.bel.trans (Turn.to hs.turn (fun g hg => by
      have h1 := h.ux.hB
      have h2 := h.ux.hC
      rcases hg with e | e
      · omega
      · have := hl.ge e; omega) h.ux.bel.size)
    refine ⟨⟨hbel, h.ux.hB, h.ux.hC, h.ux.te.turn hs.turn (fun g hg => ?_), hs.cpu, h.ux.box.turn hs.turn (fun e => ?_), h.ux.n, hb4, hc4⟩, ⟨hs.turn.os, hs.turn.tape, hs.turn.output, hs.turn.size, fun k hk hn => hs.turn.block k hk (fun e => hn (e.elim .inl (fun e => .inr (hl.ge e))))⟩⟩
    · rcases hg with e | e
      · omega
      · have := hl.ge e; omega
    · rcases e with e | e
      · exact h.ux.n e
      · exact mB e
  rcases hk with ⟨rfl, hd⟩ | ⟨rfl, i, hd, h45, h14⟩
  · have := gStep_squ w cb lb lb pv hv av ⟨[(a, x)], [], [], 0⟩ R h.ux.cpu hl mc h.ux.te (by omega) hc4 lok (by simp) rfl (by rw [ha]; exact h4) (by rw [eV]; exact hd)
    rw [eT] at this
    refine this.mono ?_
    rintro e w' ⟨rfl, hs⟩
    exact ⟨rfl, hfin w' _ hs⟩
  · have := gStep_sqc w cb lb lb pv hv av ⟨[(a, x)], [], [], 0⟩ R i h.ux.cpu hl mc h.ux.te (by omega) hc4 lok (by simp) rfl (by rw [ha]; exact h4) (by rw [eV]; exact hd) h45 h14
    rw [eT] at this
    refine this.mono ?_
    rintro e w' ⟨rfl, hs⟩
    exact ⟨rfl, hfin w' _ hs⟩
end Go.Proofs.YtilhceajhlaojaaGreatDoor
namespace Go.Proofs.YtilhceajhlaojaaGreatDoor
open Go.RowKit
set_option linter.unusedVariables false
set_option linter.unusedSimpArgs false
theorem enW_mode (x m : Int) (hx : 0 ≤ x ∧ x < 4294967296) (hm : 0 ≤ m ∧ m < 32) : enW x m % 32 = m := by
  obtain ⟨X, rfl⟩ := Int.eq_ofNat_of_zero_le hx.1
  obtain ⟨M, rfl⟩ := Int.eq_ofNat_of_zero_le hm.1
  unfold enW
  have e : (X : Int) - (X : Int) % 32 = ((X - X % 32 : Nat) : Int) := by omega
  have hb : (X - X % 32) ||| M < 2 ^ 32 := Nat.or_lt_two_pow (by omega) (by omega)
  have h32 : (2 : Nat) ^ 32 = 4294967296 := by decide
  rw [e, u32_or_nat _ M (by omega) (by omega), show (128 : Int) = ((128 : Nat) : Int) from rfl, u32_or_nat _ 128 (by omega) (by decide)]
  have h1 : ((X - X % 32) ||| M ||| 128) % 2 ^ 5 = M := by
    rw [Nat.or_mod_two_pow, Nat.or_mod_two_pow]
    have e5 : (2 : Nat) ^ 5 = 32 := by decide
    rw [e5, show (X - X % 32) % 32 = 0 by omega, show (128 : Nat) % 32 = 0 by decide, Nat.zero_or, Nat.or_zero]
    omega
  have e5 : (2 : Nat) ^ 5 = 32 := by decide
  rw [e5] at h1
  omega
theorem svc_plain (R : List Int) (h : ROk R) (h4 : rg R 28 % 4 = 0) : rg (raP 2 R) 28 = 8 ∧ rg (raP 2 R) 24 = rg R 29 ∧ bkR (raP 2 R) = 1 ∧ lvP (raP 2 R) ((gtR (raP 2 R) 14 - 0) % 4294967296) = ((R.set 28 ((rg R 28 + 4) % 4294967296)).set 19 ((rg R 28 + 4) % 4294967296)).set 24 (rg R 29) := by
  have h29 := h.rng 29
  have h28 := h.rng 28
  have hl := h.len
  clear h
  have em := enW_mode (rg R 29) 19 h29 (by decide)
  obtain ⟨a0, a1, a2, a3, a4, a5, a6, a7, a8, a9, a10, a11, a12, a13, a14, a15, a16, a17, a18, a19, a20, a21, a22, a23, a24, a25, a26, a27, a28, a29, rfl⟩ : ∃ a0 a1 a2 a3 a4 a5 a6 a7 a8 a9 a10 a11 a12 a13 a14 a15 a16 a17 a18 a19 a20 a21 a22 a23 a24 a25 a26 a27 a28 a29, R = [a0, a1, a2, a3, a4, a5, a6, a7, a8, a9, a10, a11, a12, a13, a14, a15, a16, a17, a18, a19, a20, a21, a22, a23, a24, a25, a26, a27, a28, a29] := by
    match R, hl with
    | [a0, a1, a2, a3, a4, a5, a6, a7, a8, a9, a10, a11, a12, a13, a14, a15, a16, a17, a18, a19, a20, a21, a22, a23, a24, a25, a26, a27, a28, a29], _ => exact ⟨_, _, _, _, _, _, _, _, _, _, _, _, _, _, _, _, _, _, _, _, _, _, _, _, _, _, _, _, _, _, rfl⟩
  change a28 % 4 = 0 at h4
  change 0 ≤ a28 ∧ a28 < 4294967296 at h28
  change enW a29 19 % 32 = 19 at em
  have hb : bkR (raP 2 [a0, a1, a2, a3, a4, a5, a6, a7, a8, a9, a10, a11, a12, a13, a14, a15, a16, a17, a18, a19, a20, a21, a22, a23, a24, a25, a26, a27, a28, a29]) = 1 := by
    show bkN (enW a29 19 % 32) = 1
    rw [em]
    rfl
  refine ⟨rfl, rfl, hb, ?_⟩
  have hg : gtR (raP 2 [a0, a1, a2, a3, a4, a5, a6, a7, a8, a9, a10, a11, a12, a13, a14, a15, a16, a17, a18, a19, a20, a21, a22, a23, a24, a25, a26, a27, a28, a29]) 14 = (a28 + 4) % 4294967296 := by
    unfold gtR
    rw [hb]
    rfl
  rw [hg]
  unfold lvP
  rw [hb]
  have ea : alW (((a28 + 4) % 4294967296 - 0) % 4294967296) = (a28 + 4) % 4294967296 := by unfold alW; omega
  rw [ea]
  rfl
theorem und_plain (R : List Int) (h : ROk R) (h4 : rg R 28 % 4 = 0) : rg (raP 1 R) 28 = 4 ∧ rg (raP 1 R) 26 = rg R 29 ∧ bkR (raP 1 R) = 3 ∧ lvP (raP 1 R) ((gtR (raP 1 R) 14 - 0) % 4294967296) = ((R.set 28 ((rg R 28 + 4) % 4294967296)).set 21 ((rg R 28 + 4) % 4294967296)).set 26 (rg R 29) := by
  have h29 := h.rng 29
  have h28 := h.rng 28
  have hl := h.len
  clear h
  have em := enW_mode (rg R 29) 27 h29 (by decide)
  obtain ⟨a0, a1, a2, a3, a4, a5, a6, a7, a8, a9, a10, a11, a12, a13, a14, a15, a16, a17, a18, a19, a20, a21, a22, a23, a24, a25, a26, a27, a28, a29, rfl⟩ : ∃ a0 a1 a2 a3 a4 a5 a6 a7 a8 a9 a10 a11 a12 a13 a14 a15 a16 a17 a18 a19 a20 a21 a22 a23 a24 a25 a26 a27 a28 a29, R = [a0, a1, a2, a3, a4, a5, a6, a7, a8, a9, a10, a11, a12, a13, a14, a15, a16, a17, a18, a19, a20, a21, a22, a23, a24, a25, a26, a27, a28, a29] := by
    match R, hl with
    | [a0, a1, a2, a3, a4, a5, a6, a7, a8, a9, a10, a11, a12, a13, a14, a15, a16, a17, a18, a19, a20, a21, a22, a23, a24, a25, a26, a27, a28, a29], _ => exact ⟨_, _, _, _, _, _, _, _, _, _, _, _, _, _, _, _, _, _, _, _, _, _, _, _, _, _, _, _, _, _, rfl⟩
  change a28 % 4 = 0 at h4
  change 0 ≤ a28 ∧ a28 < 4294967296 at h28
  change enW a29 27 % 32 = 27 at em
  have hb : bkR (raP 1 [a0, a1, a2, a3, a4, a5, a6, a7, a8, a9, a10, a11, a12, a13, a14, a15, a16, a17, a18, a19, a20, a21, a22, a23, a24, a25, a26, a27, a28, a29]) = 3 := by
    show bkN (enW a29 27 % 32) = 3
    rw [em]
    rfl
  refine ⟨rfl, rfl, hb, ?_⟩
  have hg : gtR (raP 1 [a0, a1, a2, a3, a4, a5, a6, a7, a8, a9, a10, a11, a12, a13, a14, a15, a16, a17, a18, a19, a20, a21, a22, a23, a24, a25, a26, a27, a28, a29]) 14 = (a28 + 4) % 4294967296 := by
    unfold gtR
    rw [hb]
    rfl
  rw [hg]
  unfold lvP
  rw [hb]
  have ea : alW (((a28 + 4) % 4294967296 - 0) % 4294967296) = (a28 + 4) % 4294967296 := by unfold alW; omega
  rw [ea]
  rfl
end Go.Proofs.YtilhceajhlaojaaGreatDoor
namespace Go.Proofs.YtilhceajhlaojaaGreatDoor
open Go.RowKit
set_option linter.unusedVariables false
set_option linter.unusedSimpArgs false
/-- While the law runs, with more boxes. -/
structure WCx (W v : World) (B cb : Nat) (R S : List Int) (L : List (Nat × TypeId × List Value)) : Prop where
  ux : UX W v B cb R S
  bs : ∀ q ∈ L, Bl v q.1 q.2.1 q.2.2 ∧ W.heap.size ≤ q.1 ∧ q.1 ≠ cb ∧ q.1 ≠ B
  nd : (L.map Prod.fst).Nodup
  w4 : 4 < W.heap.size
theorem WCx.of {W v : World} {B cb : Nat} {R S : List Int} (h : UX W v B cb R S) (te : TE W) : WCx W v B cb R S [] := ⟨h, by simp, by simp, te.size⟩
theorem WCx.step {W v v' : World} {B cb : Nat} {R S : List Int} {L : List (Nat × TypeId × List Value)} (h : WCx W v B cb R S L) (hb : Below v.heap.size v v') : WCx W v' B cb R S L := ⟨h.ux.step hb, fun q hq => ⟨(h.bs q hq).1.below hb, (h.bs q hq).2⟩, h.nd, h.w4⟩
theorem WCx.drew {W v : World} {B cb : Nat} {R S : List Int} {L : List (Nat × TypeId × List Value)} (h : WCx W v B cb R S L) : WCx W v.drew B cb R S L := ⟨h.ux.drew, fun q hq => ⟨(h.bs q hq).1.drew, (h.bs q hq).2⟩, h.nd, h.w4⟩
theorem WCx.new {W v v' : World} {B cb : Nat} {R S : List Int} {L : List (Nat × TypeId × List Value)} (h : WCx W v B cb R S L) (hb : Below v.heap.size v v') {t : TypeId} {l : List Value} (hn : Bl v' v.heap.size t l) : WCx W v' B cb R S ((v.heap.size, t, l) :: L) := by
  have h1 := h.step hb
  have h2 := h.ux.cpu.bl.lt
  have h3 := h.ux.box.lt
  have h4 := h.ux.bel.size
  refine ⟨h1.ux, fun q hq => ?_, ?_, h.w4⟩
  · rw [List.mem_cons] at hq
    rcases hq with rfl | hq
    · exact ⟨hn, h4, by show ¬ v.heap.size = cb; omega, by show ¬ v.heap.size = B; omega⟩
    · exact h1.bs q hq
  · rw [List.map_cons, List.nodup_cons]
    refine ⟨fun e => ?_, h.nd⟩
    obtain ⟨p, hp, e⟩ := List.mem_map.1 e
    have := (h.bs p hp).1.lt
    omega
theorem WCx.alloc {W v : World} {B cb : Nat} {R S : List Int} {L : List (Nat × TypeId × List Value)} (h : WCx W v B cb R S L) (t : TypeId) (l : List Value) : WCx W (v.alloc (.cells l.toArray t)) B cb R S ((v.heap.size, t, l) :: L) := h.new (below_new _ _) (Bl.new v t l)
theorem WCx.sub {W v : World} {B cb : Nat} {R S : List Int} {L : List (Nat × TypeId × List Value)} (h : WCx W v B cb R S L) (L' : List (Nat × TypeId × List Value)) (hs : ∀ q ∈ L', q ∈ L) (hn : (L'.map Prod.fst).Nodup) : WCx W v B cb R S L' := ⟨h.ux, fun q hq => h.bs q (hs q hq), hn, h.w4⟩
theorem WCx.put {W v v' : World} {B cb : Nat} {R S : List Int} {L : List (Nat × TypeId × List Value)} {q : Nat} {t : TypeId} {l l' : List Value} (h : WCx W v B cb R S ((q, t, l) :: L)) (ht : TA q v v') (hn : Bl v' q t l') : WCx W v' B cb R S ((q, t, l') :: L) := by
  obtain ⟨h1, h2, h3, h4⟩ := h.bs _ (List.mem_cons_self ..)
  have h1 : Bl v q t l := h1
  have h2 : W.heap.size ≤ q := h2
  have h3 : q ≠ cb := h3
  have h4 : q ≠ B := h4
  have hnd := h.nd
  rw [List.map_cons, List.nodup_cons] at hnd
  have hbel : Below W.heap.size W v' := h.ux.bel.trans (Turn.to ht (fun x hx => by have e : x = q := hx; omega) h.ux.bel.size)
  refine ⟨⟨hbel, h.ux.hB, h.ux.hC, h.ux.te.turn ht (fun g e => ?_), RB.turn h.ux.cpu ht (fun e => h3 (show cb = q from e).symm), h.ux.box.turn ht (fun e => h4 (show B = q from e).symm), h.ux.n, h.ux.b4, h.ux.c4⟩, fun p hp => ?_, ?_, h.w4⟩
  · have e : g = q := e
    have := h.w4
    omega
  · rw [List.mem_cons] at hp
    rcases hp with rfl | hp
    · exact ⟨hn, h2, h3, h4⟩
    · have k := h.bs p (List.mem_cons_of_mem _ hp)
      exact ⟨k.1.turn ht (fun e => hnd.1 (List.mem_map.2 ⟨p, hp, e⟩)), k.2⟩
  · rw [List.map_cons, List.nodup_cons]
    exact hnd
theorem WCx.box {W v : World} {B cb : Nat} {R S : List Int} {L : List (Nat × TypeId × List Value)} (h : WCx W v B cb R S L) (q : Nat) (t : TypeId) (l : List Value) (hq : (q, t, l) ∈ L) : Bl v q t l := (h.bs _ hq).1
theorem WCx.putR {W v : World} {B cb : Nat} {R S X : List Int} {L : List (Nat × TypeId × List Value)} {q : Nat} {t : TypeId} (h : WCx W v B cb R S ((q, t, RL X) :: L)) (k : Nat) (u : Int) : WCx W (v.setCell ⟨q, k, none⟩ (.int .u32 u)) B cb R S ((q, t, RL (X.set k u)) :: L) := by
  have e : RL (X.set k u) = (RL X).set k (.int .u32 u) := by unfold RL; rw [List.map_set]; rfl
  rw [e]
  exact h.put (TA.set (Turn.refl _ _) k _) ((h.box q t (RL X) (List.mem_cons_self ..)).set k _)
theorem WCx.putL {W v v2 : World} {B cb : Nat} {R S : List Int} {L : List (Nat × TypeId × List Value)} {q : Nat} {t : TypeId} {l : List Value} (h : WCx W v B cb R S ((q, t, l) :: L)) (l' : List Value) (hl : l'.length = l.length) (e : v.setCells q 0 l' = v2) : WCx W v2 B cb R S ((q, t, l') :: L) := by
  subst e
  exact h.put (set_turn l' 0 v v (Turn.refl _ _)) (set_all (h.box q t l (List.mem_cons_self ..)) hl)
/-- The same with a line ahead of a step. -/
structure YCx (W v : World) (B cb lb : Nat) (R S : List Int) (p : Int × Int) (L : List (Nat × TypeId × List Value)) : Prop where
  vx : VX W v B cb lb R S p []
  wx : WCx W v B cb R S L
  lt : ∀ q ∈ L, q.1 < lb
theorem gStateW {W v : World} {B cb : Nat} {R S : List Int} {L : List (Nat × TypeId × List Value)} (h : WCx W v B cb R S L) : Calls Tryz.prog 11 #[.pointer (some ⟨cb, 0, none⟩)] v fun e w' => e = .returned (.agg (RL R).toArray) ∧ WCx W w' B cb R S L :=
  (gState v cb R _ h.ux.cpu).mono (by rintro e w' ⟨rfl, hb⟩; exact ⟨rfl, h.step hb⟩)
theorem gNewLineW {W w : World} {B cb : Nat} {R S : List Int} {L : List (Nat × TypeId × List Value)} (h : WCx W w B cb R S L) (a x : Int) : Calls Tryz.prog 15 #[.slice (some ⟨w.heap.size, 0, none⟩) 1 1, .slice none 0 0] (w.alloc (.cells #[.int .u32 a, .int .u32 x] 45)) fun e w' => e = .returned (.pointer (some ⟨w.heap.size + 1, 0, none⟩)) ∧ YCx W w' B cb (w.heap.size + 1) R S (a, x) L := by
  have hq := Bl.new w 45 [.int .u32 a, .int .u32 x]
  have hb0 := below_new w (.cells #[.int .u32 a, .int .u32 x] 45)
  have h1 := h.ux.box.lt
  have h2 := h.ux.cpu.bl.lt
  refine (gNewLine _ _ _ [(a, x)] [] (fun v hb => Src.ofSlice _ Tryz.underlying46 ⟨w.heap.size, 0, none⟩ 1 1 _ rfl (fun j u hj => by rw [Addr.add_lit, Nat.zero_add]; exact ((hq.below hb).cell j).trans hj) (by intro u hu; simp only [ptL, List.flatMap_cons, List.flatMap_nil, List.append_nil, List.mem_cons, List.mem_nil_iff, or_false] at hu; rcases hu with rfl | rfl <;> rfl)) (fun v hb => Src.ofNil v Tryz.underlying55 0) (by simp) (by simp)).mono ?_
  rintro e w' ⟨rfl, hb, pv, hv, hl⟩
  rw [World.size_alloc] at hl ⊢
  exact ⟨rfl, ⟨(h.ux.step hb0).step hb, ⟨pv, hv, _, hl⟩, by omega, by omega⟩, (h.step hb0).step hb, fun q hq => by have := (h.bs q hq).1.lt; omega⟩
theorem gStepW {W w : World} {B cb lb : Nat} {R S : List Int} {a x : Int} {L : List (Nat × TypeId × List Value)} (h : YCx W w B cb lb R S (a, x) L) (k : Nat) (ha : rg R 28 = a) (hr : 0 ≤ a ∧ a < 4294967296) (h4 : a % 4 = 0) (hx : 0 ≤ x ∧ x < 4294967296) (hk : (k = 1 ∧ Is.decP x.toNat = none) ∨ (k = 2 ∧ ∃ i, Is.decP x.toNat = some i ∧ i.op = 45 ∧ i.cond = 14)) :
    Calls Tryz.prog 16 #[.pointer (some ⟨cb, 0, none⟩), .iface 42 (.pointer (some ⟨lb, 0, none⟩))] w fun e w' => e = .returned (.tuple #[.agg #[.int .i64 (k : Nat), .int .u32 a, .int .u32 x, .int .u32 0, .int .i64 0, .int .i64 0, .int .i64 0, .bool false], .int .i64 0]) ∧ WCx W w' B cb (raP k R) S L := by
  refine (gStepK W w B cb lb R S a x k h.vx ha hr h4 hx hk).mono ?_
  rintro e w' ⟨rfl, hu, ht⟩
  refine ⟨rfl, hu, fun q hq => ⟨(h.wx.bs q hq).1.turn ht (fun e => ?_), (h.wx.bs q hq).2⟩, h.wx.nd, h.wx.w4⟩
  rcases e with e | e
  · exact (h.wx.bs q hq).2.2.1 e
  · have := h.lt q hq
    omega
theorem gReturnW {W v : World} {B cb : Nat} {R S : List Int} {L : List (Nat × TypeId × List Value)} (h : WCx W v B cb R S L) (hO : (bkO (rg R (23 + bkR R) % 32)).isSome = true) : Calls Tryz.prog 18 #[.pointer (some ⟨cb, 0, none⟩), .int .u32 0] v fun e w' => e = .returned (.int .i64 0) ∧ WCx W w' B cb (lvP R ((gtR R 14 - 0) % 4294967296)) S L := by
  refine (gReturn_yes v cb R _ 0 h.ux.cpu (by decide) hO).mono ?_
  rintro e w' ⟨rfl, ht, hc⟩
  have hbel : Below W.heap.size W w' := h.ux.bel.trans (Turn.to ht (fun x hx => by have e : x = cb := hx; have := h.ux.hC; omega) h.ux.bel.size)
  refine ⟨rfl, ⟨hbel, h.ux.hB, h.ux.hC, h.ux.te.turn ht (fun g e => ?_), hc, h.ux.box.turn ht (fun e => h.ux.n e), h.ux.n, h.ux.b4, h.ux.c4⟩, fun q hq => ⟨(h.bs q hq).1.turn ht (fun e => (h.bs q hq).2.2.1 e), (h.bs q hq).2⟩, h.nd, h.w4⟩
  have e : g = cb := e
  have := h.ux.c4
  omega
theorem gmadeW (w : World) (te : TE w) (S : List Int) (hS : ROk S) : Calls Tryz.prog 9 #[.agg (RL S).toArray] (w.alloc (.cells (RL S).toArray 26)) fun e w' => e = .returned (.pointer (some ⟨w.heap.size + 2, 0, none⟩)) ∧ WCx w w' w.heap.size (w.heap.size + 2) (mdS S) S [] :=
  (gmadeU w te S hS).mono (by rintro e w' ⟨rfl, h⟩; exact ⟨rfl, WCx.of h te⟩)
theorem md_bk {S : List Int} (h : ROk S) : (bkO (rg (mdS S) 29 % 32)).isSome = true := by
  unfold mdS
  split
  · rename_i hs
    rw [isR_eq h] at hs
    simp only [Bool.and_eq_true] at hs
    exact hs.1.1.1.1.1.1.1
  · decide
end Go.Proofs.YtilhceajhlaojaaGreatDoor

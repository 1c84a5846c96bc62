import Derived.Test.YtilhceajhlaojaaGreatDoorZ24
namespace Go.Proofs.YtilhceajhlaojaaGreatDoor
open Go.RowKit
set_option linter.unusedVariables false
set_option linter.unusedSimpArgs false
/-- A step whose condition does not hold, with all that it leaves alone. -/
theorem gStep_sqn (w : World) (cb lo lb : Nat) (pv hv av : Value) (l : Ln) (R : List Int) (i : Is.Ins) (hc : RB w cb 86 R [.bool false]) (hx : LX w lo lb pv hv av l) (mc : ¬ LO lb pv hv av cb) (te : TE w) (hlo : 4 < lo) (hcb : 4 < cb) (ho : LOk l) (hn : l.asked.length ≤ 400000000000) (hh : l.holes = []) (h4 : rg R 28 % 4 = 0)
    (hdec : Is.decP (rnV l R).toNat = some i) (op : 0 < i.op ∧ i.op < 53) (hp : Al.paF i.cond (flR R).n (flR R).z (flR R).c (flR R).v = false) :
    Calls Tryz.prog 16 #[.pointer (some ⟨cb, 0, none⟩), busV lb] w fun e w' => e = .returned (.tuple #[.agg (tkA (rnT l R)), .int .i64 0]) ∧ SQ w w' cb lo lb pv hv av (rnL l R) (pcR R (rg R 28)) := by
  refine gStep w cb lo lb 0 pv hv av l (rnL l R) R (pcR R (rg R 28)) (rnT l R) hc hx mc te hlo hcb (by decide) rfl ?_
  intro v hc hx te
  refine gnext v cb lo lb pv hv av l R hc hx mc te hlo ho hn hh h4 (rnT l R) (rnL l R) _ ?_ ?_
  · intro hd
    have : Is.decP (rnV l R).toNat = none := hd
    rw [hdec] at this
    cases this
  · intro j hd v2 b av' hc2 hdb hx2 n mc2 mb2
    have : Is.decP (rnV l R).toNat = some j := hd
    rw [hdec] at this
    cases this
    exact gdoins v2 cb b lo lb pv hv av' (rnL l R) (rnL l R) R R (pcR R (rg R 28)) false false i (rnT l R) (rnT l R) hc2 hdb hx2 n mc2 mb2 (hc.ok.rng 28) op false true hp rfl (fun _ => ⟨rfl, rfl, rfl⟩) (fun e => by cases e)
/-- While the law runs: the processor, the box of the state. -/
structure UX (W v : World) (B cb : Nat) (R S : List Int) : Prop where
  bel : Below W.heap.size W v
  hB : W.heap.size ≤ B
  hC : W.heap.size ≤ cb
  te : TE v
  cpu : RB v cb 86 R [.bool false]
  box : Bl v B 26 (RL S)
  n : B ≠ cb
  b4 : 4 < B
  c4 : 4 < cb
theorem UX.step {W v v' : World} {B cb : Nat} {R S : List Int} (h : UX W v B cb R S) (hb : Below v.heap.size v v') : UX W v' B cb R S := ⟨Below.step h.bel hb, h.hB, h.hC, h.te.below hb, h.cpu.below hb, h.box.below hb, h.n, h.b4, h.c4⟩
theorem UX.drew {W v : World} {B cb : Nat} {R S : List Int} (h : UX W v B cb R S) : UX W v.drew B cb R S := ⟨below_drew h.bel, h.hB, h.hC, h.te.drew, h.cpu.drew, h.box.drew, h.n, h.b4, h.c4⟩
theorem UX.put {W v : World} {B cb : Nat} {R S S' : List Int} (h : UX W v B cb R S) (hS : S.length = 30) (hS' : S'.length = 30) : UX W (v.setCells B 0 (RL S')) B cb R S' := by
  have hT : TA B v (v.setCells B 0 (RL S')) := set_turn _ 0 v v (Turn.refl _ _)
  have hbel : Below W.heap.size W (v.setCells B 0 (RL S')) := h.bel.trans (Turn.to hT (fun x hx => by have e : x = B := hx; have := h.hB; omega) h.bel.size)
  refine ⟨hbel, h.hB, h.hC, h.te.turn hT (fun g e => ?_), RB.turn h.cpu hT (fun e => h.n (show cb = B from e).symm), set_all h.box (by unfold RL; rw [List.length_map, List.length_map, hS, hS']), h.n, h.b4, h.c4⟩
  have e : g = B := e
  have := h.b4
  omega
theorem gmadeU (w : World) (te : TE w) (S : List Int) (hS : ROk S) : Calls Tryz.prog 9 #[.agg (RL S).toArray] (w.alloc (.cells (RL S).toArray 26)) fun e w' => e = .returned (.pointer (some ⟨w.heap.size + 2, 0, none⟩)) ∧ UX w w' w.heap.size (w.heap.size + 2) (mdS S) S := by
  have hb := below_new w (.cells (RL S).toArray 26)
  have h4 := te.size
  refine (gmade _ S hS).mono ?_
  rintro e w' ⟨rfl, hn⟩
  rw [World.size_alloc]
  have hc := hn.cpu
  rw [World.size_alloc] at hc
  exact ⟨rfl, Below.step hb hn.bel, Nat.le_refl _, by omega, (te.below hb).below hn.bel, hc, (Bl.new w 26 (RL S)).below hn.bel, by omega, by omega, by omega⟩
theorem md_ok {S : List Int} (h : ROk S) : ROk (mdS S) := by
  unfold mdS
  split
  · exact h
  · exact nw_ok
theorem md_pc {S : List Int} (h : ROk S) : rg (mdS S) 28 % 4 = 0 := by
  unfold mdS
  split
  · rename_i hs
    rw [isR_eq h] at hs
    simp only [Bool.and_eq_true, Bool.not_eq_true', bne_eq_false_iff_eq] at hs
    exact hs.1.1.1.1.1.1.2
  · decide
theorem putP_op (i : Is.Ins) (f v : Nat) (h0 : ¬ f = 0) : (Is.putP i f v).op = i.op := by
  unfold Is.putP
  rw [if_neg h0]
  by_cases h1 : f = 1
  · rw [if_pos h1]
  rw [if_neg h1]
  by_cases h2 : f = 2
  · rw [if_pos h2]
  rw [if_neg h2]
  by_cases h3 : f = 3
  · rw [if_pos h3]
  rw [if_neg h3]
  by_cases h4 : f = 4
  · rw [if_pos h4]
  rw [if_neg h4]
  by_cases h5 : f = 5
  · rw [if_pos h5]
  rw [if_neg h5]
  by_cases h6 : f = 6
  · rw [if_pos h6]
  rw [if_neg h6]
  by_cases h7 : f = 7
  · rw [if_pos h7]
  rw [if_neg h7]
  by_cases h8 : f = 8
  · rw [if_pos h8]
  rw [if_neg h8]
  by_cases h9 : f = 9
  · rw [if_pos h9]
  rw [if_neg h9]
  by_cases h10 : f = 10
  · rw [if_pos h10]
  rw [if_neg h10]
  by_cases h11 : f = 11
  · rw [if_pos h11]
  rw [if_neg h11]
  by_cases h12 : f = 12
  · rw [if_pos h12]
  rw [if_neg h12]
  by_cases h13 : f = 13
  · rw [if_pos h13]
  rw [if_neg h13]
  by_cases h14 : f = 14
  · rw [if_pos h14]
  rw [if_neg h14]
  by_cases h15 : f = 15
  · rw [if_pos h15]
  rw [if_neg h15]
  by_cases h16 : f = 16
  · rw [if_pos h16]
  rw [if_neg h16]
  by_cases h17 : f = 17
  · rw [if_pos h17]
  rw [if_neg h17]
theorem getP_small (w k : Nat) (h : (Is.plP k).fld = 0) : Is.getP w k < 16 := by
  have hk : (Is.plP k).wide ≤ 4 ∧ (Is.plP k).frm = 0 := by
    by_cases h28 : k < 28
    · have : ∀ k, k < 28 → (Is.plP k).fld = 0 → (Is.plP k).wide ≤ 4 ∧ (Is.plP k).frm = 0 := by decide
      exact this k h28 h
    · have e : Is.plP k = ⟨0, 0, 0, 0⟩ := by
        unfold Is.plP
        rw [List.getD_eq_getElem?_getD, List.getElem?_eq_none (by show 28 ≤ k; omega)]
        rfl
      rw [e]
      decide
  unfold Is.getP
  rw [hk.2]
  have h1 : w / 2 ^ (Is.plP k).at_ % 2 ^ (Is.plP k).wide < 2 ^ (Is.plP k).wide := Nat.mod_lt _ (Nat.two_pow_pos _)
  have h2 : 2 ^ (Is.plP k).wide ≤ 2 ^ 4 := Nat.pow_le_pow_right (by decide) hk.1
  have h3 : (2 : Nat) ^ 4 = 16 := by decide
  have h4 : (2 : Nat) ^ 0 = 1 := by decide
  rw [h4, Nat.mul_one]
  exact Nat.lt_of_le_of_lt (Nat.mod_le _ _) (by omega)
theorem readF_op (w : Nat) : ∀ (l : List Nat) (i : Is.Ins), 0 < i.op ∧ i.op < 53 → 0 < (Is.readF w i l).op ∧ (Is.readF w i l).op < 53
  | [], i, h => h
  | k :: l, i, h => by
    rw [Is.readF]
    refine readF_op w l _ ?_
    by_cases h0 : (Is.plP k).fld = 0
    · have hs := getP_small w k h0
      rw [h0]
      show 0 < (Is.getP w k : Int) + 1 ∧ (Is.getP w k : Int) + 1 < 53
      omega
    · rw [putP_op i _ _ h0]
      exact h
theorem readP_op (r : Is.RowP) (w : Nat) (h : 0 < r.op ∧ r.op < 53) : 0 < (Is.readP r w).op ∧ (Is.readP r w).op < 53 := by
  unfold Is.readP
  dsimp only
  split
  · exact readF_op w _ _ (by show (0 : Int) < (r.op : Int) ∧ (r.op : Int) < 53; omega)
  · exact readF_op w _ _ (by show (0 : Int) < (r.op : Int) ∧ (r.op : Int) < 53; omega)
theorem low_op : ∀ r ∈ Is.lowL, 0 < r.op ∧ r.op < 53 := by decide
theorem high_op : ∀ r ∈ Is.highL, 0 < r.op ∧ r.op < 53 := by decide
theorem decP_op {x : Nat} {i : Is.Ins} (h : Is.decP x = some i) : 0 < i.op ∧ i.op < 53 := by
  unfold Is.decP at h
  cases hr : Is.rowW x with
  | none => rw [hr] at h; cases h
  | some r =>
    rw [hr] at h
    dsimp only at h
    split at h
    · cases h
      refine readP_op r x ?_
      unfold Is.rowW at hr
      split at hr
      · exact low_op r (List.mem_of_find?_eq_some hr)
      · exact high_op r (List.mem_of_find?_eq_some hr)
    · cases h
/-- The same with the line. -/
structure VX (W v : World) (B cb lb : Nat) (R S : List Int) (p : Int × Int) (A : List Ak) : Prop where
  ux : UX W v B cb R S
  lx : ∃ pv hv av, LX v lb lb pv hv av ⟨[p], [], A, 0⟩
  b : B < lb
  c : cb < lb
theorem VX.step {W v v' : World} {B cb lb : Nat} {R S : List Int} {p : Int × Int} {A : List Ak} (h : VX W v B cb lb R S p A) (hb : Below v.heap.size v v') : VX W v' B cb lb R S p A := by
  obtain ⟨pv, hv, av, h1⟩ := h.lx
  exact ⟨h.ux.step hb, ⟨pv, hv, av, h1.below hb⟩, h.b, h.c⟩
theorem VX.drew {W v : World} {B cb lb : Nat} {R S : List Int} {p : Int × Int} {A : List Ak} (h : VX W v B cb lb R S p A) : VX W v.drew B cb lb R S p A := by
  obtain ⟨pv, hv, av, h1⟩ := h.lx
  exact ⟨h.ux.drew, ⟨pv, hv, av, h1.drew⟩, h.b, h.c⟩
theorem VX.put {W v : World} {B cb lb : Nat} {R S : List Int} {p : Int × Int} {A : List Ak} (h : VX W v B cb lb R S p A) (k : Nat) (u : Int) : VX W (v.setCell ⟨B, k, none⟩ (.int .u32 u)) B cb lb R (S.set k u) p A := by
  have hT : TA B v (v.setCell ⟨B, k, none⟩ (.int .u32 u)) := TA.set (Turn.refl _ v) k _
  have hb := h.b
  have h4 := h.ux.b4
  obtain ⟨pv, hv, av, h1⟩ := h.lx
  have e : RL (S.set k u) = (RL S).set k (.int .u32 u) := by unfold RL; rw [List.map_set]; rfl
  have hbel : Below W.heap.size W (v.setCell ⟨B, k, none⟩ (.int .u32 u)) := h.ux.bel.trans (Turn.to hT (fun x hx => by have e : x = B := hx; have := h.ux.hB; omega) h.ux.bel.size)
  refine ⟨⟨hbel, h.ux.hB, h.ux.hC, h.ux.te.turn hT (fun g e => ?_), RB.turn h.ux.cpu hT (fun e => h.ux.n (show cb = B from e).symm), ?_, h.ux.n, h.ux.b4, h.ux.c4⟩, ⟨pv, hv, av, h1.turn hT (fun g hg e => ?_)⟩, h.b, h.c⟩
  · have e : g = B := e
    omega
  · rw [e]
    exact h.ux.box.set k _
  · have e : g = B := e
    have := h1.ge hg
    omega
theorem gNewLine1 (W w : World) (B cb : Nat) (R S : List Int) (h : UX W w B cb R S) (a x : Int) : Calls Tryz.prog 15 #[.slice (some ⟨w.heap.size, 0, none⟩) 1 1, .slice none 0 0] (w.alloc (.cells #[.int .u32 a, .int .u32 x] 45)) fun e w' => e = .returned (.pointer (some ⟨w.heap.size + 1, 0, none⟩)) ∧ VX W w' B cb (w.heap.size + 1) R S (a, x) [] := by
  have hq := Bl.new w 45 [.int .u32 a, .int .u32 x]
  have hb0 := below_new w (.cells #[.int .u32 a, .int .u32 x] 45)
  have h1 := h.box.lt
  have h2 := h.cpu.bl.lt
  refine (gNewLine _ _ _ [(a, x)] [] (fun v hb => Src.ofSlice _ Tryz.underlying46 ⟨w.heap.size, 0, none⟩ 1 1 _ rfl (fun j u hj => by rw [Addr.add_lit, Nat.zero_add]; exact ((hq.below hb).cell j).trans hj) (by intro u hu; simp only [ptL, List.flatMap_cons, List.flatMap_nil, List.append_nil, List.mem_cons, List.mem_nil_iff, or_false] at hu; rcases hu with rfl | rfl <;> rfl)) (fun v hb => Src.ofNil v Tryz.underlying55 0) (by simp) (by simp)).mono ?_
  rintro e w' ⟨rfl, hb, pv, hv, hl⟩
  rw [World.size_alloc] at hl ⊢
  exact ⟨rfl, (h.step hb0).step hb, ⟨pv, hv, _, hl⟩, by omega, by omega⟩
theorem gStepV (W w : World) (B cb lb : Nat) (R S : List Int) (a x : Int) (i : Is.Ins) (h : VX W w B cb lb R S (a, x) []) (ha : rg R 28 = a) (hr : 0 ≤ a ∧ a < 4294967296) (h4 : a % 4 = 0) (hx : 0 ≤ x ∧ x < 4294967296) (hdec : Is.decP x.toNat = some i) (op : 0 < i.op ∧ i.op < 53) (hp : Al.paF i.cond (flR R).n (flR R).z (flR R).c (flR R).v = false) :
    Calls Tryz.prog 16 #[.pointer (some ⟨cb, 0, none⟩), .iface 42 (.pointer (some ⟨lb, 0, none⟩))] w fun e w' => e = .returned (.tuple #[.agg #[.int .i64 0, .int .u32 a, .int .u32 x, .int .u32 0, .int .i64 0, .int .i64 0, .int .i64 0, .bool false], .int .i64 0]) ∧ VX W w' B cb lb (pcR R a) S (a, x) [askP 1 a 0 (!(mdR R == 16))] := by
  obtain ⟨pv, hv, av, hl⟩ := h.lx
  have hb := h.b
  have hc := h.c
  have hb4 := h.ux.b4
  have hc4 := h.ux.c4
  have mc : ¬ LO lb pv hv av cb := fun e => by have := hl.ge e; omega
  have mB : ¬ LO lb pv hv av B := fun e => by have := hl.ge e; omega
  have eV : rnV ⟨[(a, x)], [], [], 0⟩ R = x := by
    unfold rnV
    rw [ha]
    show (if a - a % 4 = a then x else 0) = x
    rw [if_pos (by omega)]
  have := gStep_sqn w cb lb lb pv hv av ⟨[(a, x)], [], [], 0⟩ R i h.ux.cpu hl mc h.ux.te (by omega) hc4 ⟨by intro p hp; simp only [List.mem_cons, List.mem_nil_iff, or_false] at hp; subst hp; exact ⟨hr, hx⟩, by show (0 : Int) ≤ 0 ∧ (0 : Int) < 4294967296; decide⟩ (by simp) rfl (by rw [ha]; exact h4) (by rw [eV]; exact hdec) op hp
  refine this.mono ?_
  rintro e w' ⟨rfl, hs⟩
  obtain ⟨av', k1, k2⟩ := hs.lq
  have hcpu := hs.cpu
  rw [ha] at hcpu
  have eT : rnT ⟨[(a, x)], [], [], 0⟩ R = ⟨0, a, x, 0, 0, 0, 0, false⟩ := by unfold rnT; rw [eV, ha]
  have eL : rnL ⟨[(a, x)], [], [], 0⟩ R = ⟨[(a, x)], [], [askP 1 a 0 (!(mdR R == 16))], 0⟩ := by unfold rnL; rw [ha]; rfl
  rw [eT]
  rw [eL] at k1
  have hbel : Below W.heap.size W w' := h.ux.bel.trans (Turn.to hs.turn (fun g hg => by
    have h1 := h.ux.hB
    have h2 := h.ux.hC
    rcases hg with e | e
    · omega
    · have := hl.ge e; omega) h.ux.bel.size)
  refine ⟨rfl, ⟨hbel, h.ux.hB, h.ux.hC, h.ux.te.turn hs.turn (fun g hg => ?_), hcpu, h.ux.box.turn hs.turn (fun e => ?_), h.ux.n, hb4, hc4⟩, ⟨pv, hv, av', k1⟩, hb, hc⟩
  · rcases hg with e | e
    · omega
    · have := hl.ge e; omega
  · rcases e with e | e
    · exact h.ux.n e
    · exact mB e
theorem VX.asked {W v : World} {B cb lb : Nat} {R S : List Int} {p : Int × Int} {k : Ak} (h : VX W v B cb lb R S p [k]) : ∃ a c, v.cell? ⟨lb, 2, none⟩ = some (.slice a 1 c) := by
  obtain ⟨pv, hv, av, hl⟩ := h.lx
  obtain ⟨a, c, e⟩ := own_slice hl.a
  exact ⟨a, c, by rw [hl.cells.1.2.2.1, e]; rfl⟩
end Go.Proofs.YtilhceajhlaojaaGreatDoor
namespace Go.Proofs.YtilhceajhlaojaaGreatDoor
open Go.RowKit
set_option linter.unusedVariables false
set_option linter.unusedSimpArgs false
set_option maxRecDepth 100000 in
set_option maxHeartbeats 2000000 in
theorem law_passed (w : World) (te : TE w) (S : List Int) (hS : ROk S) (x : Nat) (hx : x < 4294967296) : Calls Tryz.prog 3 #[.agg (RL S).toArray, .int .u32 (x : Int)] w fun e w' => e = .returned (.bool true) ∧ Below w.heap.size w w' := by
  have HM := hidW (gmadeU w te S hS)
  have hS30 := hS.len
  have hR := md_ok hS
  have h28 := md_pc hS
  generalize mdS S = R at HM hR h28
  generalize hcb : w.heap.size + 2 = cb at HM
  have hB4 := te.size
  have hR30 := hR.len
  have hr28 := hR.rng 28
  have HL : Hid (∀ v, UX w v w.heap.size cb R S → Calls Tryz.prog 10 #[] v fun e w' => e = .returned (.bool true) ∧ UX w w' w.heap.size cb R S) := fun v h => (glive v h.te).mono (by rintro e w' ⟨rfl, hb⟩; exact ⟨rfl, h.step hb⟩)
  have HSt : Hid (∀ v T, UX w v w.heap.size cb R T → Calls Tryz.prog 11 #[.pointer (some ⟨cb, 0, none⟩)] v fun e w' => e = .returned (.agg (RL R).toArray) ∧ UX w w' w.heap.size cb R T) := fun v T h => (gState v cb R _ h.cpu).mono (by rintro e w' ⟨rfl, hb⟩; exact ⟨rfl, h.step hb⟩)
  have HPt : Hid (∀ v, UX w v w.heap.size cb R S → v.there w.heap.size 0 (RL R).toArray.size ∧ UX w (v.setCells w.heap.size 0 (RL R)) w.heap.size cb R R) := fun v h => ⟨h.box.there _ (by unfold RL; rw [List.size_toArray, List.length_map, List.length_map, hR30, hS30]), h.put hS30 hR30⟩
  have HD : Hid (∀ v, UX w v w.heap.size cb R R → Calls Tryz.prog 12 #[.int .u32 (x : Int)] v fun e w' => e = .returned (.tuple #[.agg (Is.insA ((Is.decP x).getD Is.insZ)), .bool (Is.decP x).isSome]) ∧ UX w w' w.heap.size cb R R) := fun v h => (Is.gdec_any x v h.te.tp hx).mono (by rintro e w' ⟨rfl, hb⟩; exact ⟨rfl, h.step hb⟩)
  have HIR : Hid ((Tryz.prog.info? 26).map (·.size) = some (RL S).length) := by unfold RL; rw [List.length_map, hS30]; exact state_info
  have HJR : Hid ((Tryz.prog.info? 26).map (·.size) = some (RL R).toArray.size) := by unfold RL; rw [List.size_toArray, List.length_map, hR30]; exact state_info
  have HOR : Hid ((RL R).toArray.all (·.oneCell') = true) := RL_one R
  have HS0 : Hid ((w.alloc (.cells (RL S).toArray 26)).rangeAt w.heap.size 0 (RL S)) := (Bl.new w 26 (RL S)).range
  generalize hd : (Is.decP x).getD Is.insZ = i at HD
  generalize hok : (Is.decP x).isSome = ok at HD
  have HFl : Hid (∀ v, Calls Tryz.prog 14 #[.int .u32 (rg R 29)] v fun e w' => e = .returned (.agg #[.bool (flR R).n, .bool (flR R).z, .bool (flR R).c, .bool (flR R).v]) ∧ Below v.heap.size v w') := fun v => by
    have h29 := hR.rng 29
    obtain ⟨y, hy⟩ := Int.eq_ofNat_of_zero_le h29.1
    have := Al.gflags_any y v (by omega)
    unfold flR
    rw [hy]
    exact this
  have HPa : Hid (∀ v, Calls Tryz.prog 13 #[.int .i64 i.cond, .agg #[.bool (flR R).n, .bool (flR R).z, .bool (flR R).c, .bool (flR R).v]] v fun e w' => e = .returned (.bool (Al.paF i.cond (flR R).n (flR R).z (flR R).c (flR R).v)) ∧ Below v.heap.size v w') := fun v => Al.gpassed_any i.cond (flR R) v
  generalize hp : Al.paF i.cond (flR R).n (flR R).z (flR R).c (flR R).v = p at HPa
  generalize hf : flR R = f at HFl HPa hp
  obtain ⟨fn, fz, fc, fv⟩ := f
  have hf : Hid _ := hf
  have hok : Hid _ := hok
  have hd : Hid _ := hd
  have hp : Hid _ := hp
  have HIi : Hid ((Tryz.prog.info? 35).map (·.size) = some (Is.insA i).size) := ins_info
  have HOi : Hid ((Is.insA i).all (·.oneCell') = true) := ins_one i
  clear te hS
  have hR : Hid _ := hR
  go_enter Tryz.func3, Tryz.ntmps3
  go_wp2_with (first | (guard_target =~ wpList _ _ _ (Oper.mk (some 11) _ _ _ _ _ :: _) _ _; refine wpList_load_mid rfl _ _ rfl w.heap.size 0 rfl (RL S) _ HS0.out Tryz.underlying26 rfl HIR.out ?_) | (go_at_call 9; refine HM.out.mono ?_; rintro e w1 ⟨rfl, hx⟩; have HX := hidW hx; clear hx) | (go_at_call 10; refine (HL.out _ HX.out).mono ?_; rintro e w2 ⟨rfl, hx⟩; have HX := hidW hx; clear hx) | (go_at_call 11; refine (HSt.out _ _ HX.out).mono ?_; rintro e w3 ⟨rfl, hx⟩; have HX := hidW hx; clear hx) | (guard_target =~ wpList _ _ _ (Oper.mk none (Op.store 26 _ _) _ _ _ _ :: _) _ _; refine wpList_store_mid rfl _ _ _ rfl w.heap.size 0 (RL R).toArray rfl rfl (HPt.out _ HX.out).1 HJR.out HOR.out ?_; have HX := hidW (HPt.out _ HX.out).2; generalize World.setCells _ _ _ _ = w4 at HX ⊢) | (go_at_call 12; refine (HD.out _ HX.out).mono ?_; rintro e w5 ⟨rfl, hx⟩; have HX := hidW hx; clear hx) | (guard_target =~ wpList _ _ _ (Oper.mk none (Op.store 35 _ _) _ _ _ _ :: _) _ _; refine wpList_store_mid rfl _ _ _ rfl w5.heap.size 0 (Is.insA i) rfl rfl (there_new w5 35 _ _ rfl) HIi.out HOi.out ?_; have HF := hidW (fill_new w5 35 (Is.insL Is.insZ).toArray (Is.insL i) rfl); generalize hW : World.setCells _ _ _ _ = w6; have e6 : (w5.alloc (.cells (Is.insL Is.insZ).toArray 35)).setCells w5.heap.size 0 (Is.insL i) = w6 := hW; rw [e6] at HF; have HX := hidW (HX.out.step HF.out.1); have HQ := hidW HF.out.2; generalize w5.heap.size = q at HQ ⊢; clear HF e6 hW))
  go_cut [35] from 8 (fun s35 wx => ∃ b, s35 = .bool b ∧ b = (!ok || p) ∧ UX w wx w.heap.size cb R R)
  case first =>
    have HX := hidW HX.out.drew
    have HQ := hidW HQ.out.drew
    cases ok
    · refine wp_region_held_drew (S := fun _ => True) (by kernel_rfl) trivial (fun hHeld => ?_)
      have hT : True := trivial
      generalize w6.drew = u1 at HX HQ ⊢
      refine wpAnyH_take (i := 0) (oi := { dst := some 26, op := Op.move (Operand.tmp 7), type := 4, pos := _, after := #[], guard := none }) (v := ?_) rfl (by kernel_rfl) (by kernel_rfl) (by kernel_rfl) (fun _ _ _ h => h) (Or.inl ⟨by rfl, ?_⟩) (by assumption) ?_
      rotate_left
      · (intro w hSw; (try dsimp only at hSw); go_simp; try with_reducible rfl)
      simp only [Act.put, List.setIfInBounds_toArray, List.set_cons_zero, List.set_cons_succ]
      refine wpAnyH_take (i := 1) (oi := { dst := some 27, op := Op.unOp UnOp.not 4 (Operand.tmp 26), type := 4, pos := _, after := #[{ on := 0, ground := Ground.data }], guard := none }) (v := ?_) rfl (by kernel_rfl) (by kernel_rfl) (by kernel_rfl) (fun _ _ _ h => h) (Or.inl ⟨by rfl, ?_⟩) (by assumption) ?_
      rotate_left
      · (intro w hSw; (try dsimp only at hSw); go_simp; try with_reducible rfl)
      simp only [Act.put, List.setIfInBounds_toArray, List.set_cons_zero, List.set_cons_succ]
      refine wpAnyH_take (i := 2) (oi := { dst := some 28, op := Op.move (Operand.tmp 27), type := 4, pos := _, after := #[{ on := 1, ground := Ground.data }], guard := none }) (v := ?_) rfl (by kernel_rfl) (by kernel_rfl) (by kernel_rfl) (fun _ _ _ h => h) (Or.inl ⟨by rfl, ?_⟩) (by assumption) ?_
      rotate_left
      · (intro w hSw; (try dsimp only at hSw); go_simp; try with_reducible rfl)
      simp only [Act.put, List.setIfInBounds_toArray, List.set_cons_zero, List.set_cons_succ]
      refine wpAnyH_take (i := 3) (oi := { dst := some 29, op := Op.fieldAddr 35 (Operand.tmp 6) 0, type := 0, pos := _, after := #[{ on := 2, ground := Ground.guard }], guard := some (2, false) }) (v := undef) rfl (by kernel_rfl) (by kernel_rfl) (by kernel_rfl) (fun _ _ _ h => h) (Or.inr ⟨by rfl, rfl⟩) (by assumption) ?_
      simp only [Act.put, List.setIfInBounds_toArray, List.set_cons_zero, List.set_cons_succ]
      refine wpAnyH_take (i := 4) (oi := { dst := some 30, op := Op.load 3 (Operand.tmp 29), type := 3, pos := _, after := #[{ on := 3, ground := Ground.data }, { on := 2, ground := Ground.guard }], guard := some (2, false) }) (v := undef) rfl (by kernel_rfl) (by kernel_rfl) (by kernel_rfl) (fun _ _ _ h => h) (Or.inr ⟨by rfl, rfl⟩) (by assumption) ?_
      simp only [Act.put, List.setIfInBounds_toArray, List.set_cons_zero, List.set_cons_succ]
      refine wpAnyH_take (i := 5) (oi := { dst := some 31, op := Op.fieldAddr 26 (Operand.tmp 2) 5, type := 0, pos := _, after := #[{ on := 2, ground := Ground.guard }], guard := some (2, false) }) (v := undef) rfl (by kernel_rfl) (by kernel_rfl) (by kernel_rfl) (fun _ _ _ h => h) (Or.inr ⟨by rfl, rfl⟩) (by assumption) ?_
      simp only [Act.put, List.setIfInBounds_toArray, List.set_cons_zero, List.set_cons_succ]
      refine wpAnyH_take (i := 6) (oi := { dst := some 32, op := Op.load 22 (Operand.tmp 31), type := 22, pos := _, after := #[{ on := 5, ground := Ground.data }, { on := 2, ground := Ground.guard }], guard := some (2, false) }) (v := undef) rfl (by kernel_rfl) (by kernel_rfl) (by kernel_rfl) (fun _ _ _ h => h) (Or.inr ⟨by rfl, rfl⟩) (by assumption) ?_
      simp only [Act.put, List.setIfInBounds_toArray, List.set_cons_zero, List.set_cons_succ]
      refine wpAnyH_take (i := 7) (oi := { dst := some 33, op := Op.call { callee := Callee.value (Operand.func 14), args := #[Operand.tmp 32], argTypes := #[22] }, type := 40, pos := _, after := #[{ on := 6, ground := Ground.data }, { on := 2, ground := Ground.chain }, { on := 2, ground := Ground.guard }], guard := some (2, false) }) (v := undef) rfl (by kernel_rfl) (by kernel_rfl) (by kernel_rfl) (fun _ _ _ h => h) (Or.inr ⟨by rfl, rfl⟩) (by assumption) ?_
      simp only [Act.put, List.setIfInBounds_toArray, List.set_cons_zero, List.set_cons_succ]
      refine wpAnyH_take (i := 8) (oi := { dst := some 34, op := Op.call { callee := Callee.value (Operand.func 13), args := #[Operand.tmp 30, Operand.tmp 33], argTypes := #[3, 40] }, type := 4, pos := _, after := #[{ on := 4, ground := Ground.data }, { on := 7, ground := Ground.data }, { on := 7, ground := Ground.chain }, { on := 2, ground := Ground.guard }], guard := some (2, false) }) (v := undef) rfl (by kernel_rfl) (by kernel_rfl) (by kernel_rfl) (fun _ _ _ h => h) (Or.inr ⟨by rfl, rfl⟩) (by assumption) ?_
      simp only [Act.put, List.setIfInBounds_toArray, List.set_cons_zero, List.set_cons_succ]
      refine wpAnyH_take (i := 9) (oi := { dst := some 35, op := Op.pick (Operand.tmp 28) (Operand.const (Value.bool true)) (Operand.tmp 34), type := 4, pos := _, after := #[{ on := 2, ground := Ground.data }, { on := 8, ground := Ground.data }], guard := none }) (v := ?_) rfl (by kernel_rfl) (by kernel_rfl) (by kernel_rfl) (fun _ _ _ h => h) (Or.inl ⟨by rfl, ?_⟩) (by assumption) ?_
      rotate_left
      · (intro w hSw; (try dsimp only at hSw); go_simp; try with_reducible rfl)
      simp only [Act.put, List.setIfInBounds_toArray, List.set_cons_zero, List.set_cons_succ]
      refine wpAnyH_done (by kernel_rfl) ?_ _
      (go_wp2_with fail); go_meet; exact ⟨_, rfl, rfl, HX.out⟩
    · have HC : Hid (∀ v, UX w v w.heap.size cb R R → Bl v q 35 (Is.insL i) → v.cell? ⟨q, 0, none⟩ = some (.int .i64 i.cond) ∧ v.cell? ⟨w.heap.size, 29, none⟩ = some (.int .u32 (rg R 29))) := fun v h h2 => ⟨h2.cell 0, by rw [h.box.cell 29, RL_at hR.out.len (by decide)]⟩
      refine wp_region_held_drew (S := fun v => v.cell? ⟨q, 0, none⟩ = some (.int .i64 i.cond) ∧ v.cell? ⟨w.heap.size, 29, none⟩ = some (.int .u32 (rg R 29))) (by kernel_rfl) (HC.out _ HX.out HQ.out) (fun hHeld => ?_)
      clear hHeld
      generalize w6.drew = u1 at HX HQ ⊢
      have K2 := hidW (HC.out _ HX.out HQ.out)
      refine wpAnyH_take (i := 0) (oi := { dst := some 26, op := Op.move (Operand.tmp 7), type := 4, pos := _, after := #[], guard := none }) (v := ?_) rfl (by kernel_rfl) (by kernel_rfl) (by kernel_rfl) (fun _ _ _ h => h) (Or.inl ⟨by rfl, ?_⟩) (by assumption) ?_
      rotate_left
      · (intro w hSw; (try dsimp only at hSw); go_simp; try with_reducible rfl)
      simp only [Act.put, List.setIfInBounds_toArray, List.set_cons_zero, List.set_cons_succ]
      refine wpAnyH_take (i := 1) (oi := { dst := some 27, op := Op.unOp UnOp.not 4 (Operand.tmp 26), type := 4, pos := _, after := #[{ on := 0, ground := Ground.data }], guard := none }) (v := ?_) rfl (by kernel_rfl) (by kernel_rfl) (by kernel_rfl) (fun _ _ _ h => h) (Or.inl ⟨by rfl, ?_⟩) (by assumption) ?_
      rotate_left
      · (intro w hSw; (try dsimp only at hSw); go_simp; try with_reducible rfl)
      simp only [Act.put, List.setIfInBounds_toArray, List.set_cons_zero, List.set_cons_succ]
      refine wpAnyH_take (i := 2) (oi := { dst := some 28, op := Op.move (Operand.tmp 27), type := 4, pos := _, after := #[{ on := 1, ground := Ground.data }], guard := none }) (v := ?_) rfl (by kernel_rfl) (by kernel_rfl) (by kernel_rfl) (fun _ _ _ h => h) (Or.inl ⟨by rfl, ?_⟩) (by assumption) ?_
      rotate_left
      · (intro w hSw; (try dsimp only at hSw); go_simp; try with_reducible rfl)
      simp only [Act.put, List.setIfInBounds_toArray, List.set_cons_zero, List.set_cons_succ]
      refine wpAnyH_take (i := 3) (oi := { dst := some 29, op := Op.fieldAddr 35 (Operand.tmp 6) 0, type := 0, pos := _, after := #[{ on := 2, ground := Ground.guard }], guard := some (2, false) }) (v := ?_) rfl (by kernel_rfl) (by kernel_rfl) (by kernel_rfl) (fun _ _ _ h => h) (Or.inl ⟨by rfl, ?_⟩) (by assumption) ?_
      rotate_left
      · (intro w hSw; (try dsimp only at hSw); go_simp; try with_reducible rfl)
      simp only [Act.put, List.setIfInBounds_toArray, List.set_cons_zero, List.set_cons_succ]
      refine wpAnyH_take (i := 4) (oi := { dst := some 30, op := Op.load 3 (Operand.tmp 29), type := 3, pos := _, after := #[{ on := 3, ground := Ground.data }, { on := 2, ground := Ground.guard }], guard := some (2, false) }) (v := ?_) rfl (by kernel_rfl) (by kernel_rfl) (by kernel_rfl) (fun _ _ _ h => h) (Or.inl ⟨by rfl, ?_⟩) (by assumption) ?_
      rotate_left
      · (intro w hSw; (try dsimp only at hSw); go_simp; try with_reducible rfl)
      simp only [Act.put, List.setIfInBounds_toArray, List.set_cons_zero, List.set_cons_succ]
      refine wpAnyH_take (i := 5) (oi := { dst := some 31, op := Op.fieldAddr 26 (Operand.tmp 2) 5, type := 0, pos := _, after := #[{ on := 2, ground := Ground.guard }], guard := some (2, false) }) (v := ?_) rfl (by kernel_rfl) (by kernel_rfl) (by kernel_rfl) (fun _ _ _ h => h) (Or.inl ⟨by rfl, ?_⟩) (by assumption) ?_
      rotate_left
      · (intro w hSw; (try dsimp only at hSw); go_simp; try with_reducible rfl)
      simp only [Act.put, List.setIfInBounds_toArray, List.set_cons_zero, List.set_cons_succ]
      refine wpAnyH_take (i := 6) (oi := { dst := some 32, op := Op.load 22 (Operand.tmp 31), type := 22, pos := _, after := #[{ on := 5, ground := Ground.data }, { on := 2, ground := Ground.guard }], guard := some (2, false) }) (v := ?_) rfl (by kernel_rfl) (by kernel_rfl) (by kernel_rfl) (fun _ _ _ h => h) (Or.inl ⟨by rfl, ?_⟩) (by assumption) ?_
      rotate_left
      · (intro w hSw; (try dsimp only at hSw); go_simp; try with_reducible rfl)
      simp only [Act.put, List.setIfInBounds_toArray, List.set_cons_zero, List.set_cons_succ]
      refine wpAnyH_ready (rs := [7]) (by kernel_rfl) (by simp) ?_
      refine (AllReadyH.cons (o := { dst := some 33, op := Op.call { callee := Callee.value (Operand.func 14), args := #[Operand.tmp 32], argTypes := #[22] }, type := 40, pos := _, after := #[{ on := 6, ground := Ground.data }, { on := 2, ground := Ground.chain }, { on := 2, ground := Ground.guard }], guard := some (2, false) }) rfl (fun K hK => ?_) AllReadyH.nil)
      go_simp
      go_at_call 14; refine (HFl.out _).mono ?_; rintro e u2 ⟨rfl, hb⟩; have HX := hidW (HX.out.step hb); have HQ := hidW (HQ.out.below hb); have K2 := hidW (HC.out _ HX.out HQ.out); clear hb
      refine hK.out _ _ ?_ (fun hHeld => ?_)
      · ((try dsimp only); exact K2.out)
      clear hK K
      try simp only [Act.put, List.setIfInBounds_toArray, List.set_cons_zero, List.set_cons_succ]
      refine wpAnyH_ready (rs := [8]) (by kernel_rfl) (by simp) ?_
      refine (AllReadyH.cons (o := { dst := some 34, op := Op.call { callee := Callee.value (Operand.func 13), args := #[Operand.tmp 30, Operand.tmp 33], argTypes := #[3, 40] }, type := 4, pos := _, after := #[{ on := 4, ground := Ground.data }, { on := 7, ground := Ground.data }, { on := 7, ground := Ground.chain }, { on := 2, ground := Ground.guard }], guard := some (2, false) }) rfl (fun K hK => ?_) AllReadyH.nil)
      go_simp
      go_at_call 13; refine (HPa.out _).mono ?_; rintro e u3 ⟨rfl, hb⟩; have HX := hidW (HX.out.step hb); have HQ := hidW (HQ.out.below hb); have K2 := hidW (HC.out _ HX.out HQ.out); clear hb
      refine hK.out _ _ ?_ (fun hHeld => ?_)
      · ((try dsimp only); exact K2.out)
      clear hK K
      try simp only [Act.put, List.setIfInBounds_toArray, List.set_cons_zero, List.set_cons_succ]
      refine wpAnyH_take (i := 9) (oi := { dst := some 35, op := Op.pick (Operand.tmp 28) (Operand.const (Value.bool true)) (Operand.tmp 34), type := 4, pos := _, after := #[{ on := 2, ground := Ground.data }, { on := 8, ground := Ground.data }], guard := none }) (v := ?_) rfl (by kernel_rfl) (by kernel_rfl) (by kernel_rfl) (fun _ _ _ h => h) (Or.inl ⟨by rfl, ?_⟩) (by assumption) ?_
      rotate_left
      · (intro w hSw; (try dsimp only at hSw); go_simp; try with_reducible rfl)
      simp only [Act.put, List.setIfInBounds_toArray, List.set_cons_zero, List.set_cons_succ]
      refine wpAnyH_done (by kernel_rfl) ?_ _
      (go_wp2_with fail); go_meet; exact ⟨_, rfl, rfl, HX.out⟩
  case rest =>
    obtain ⟨b, rfl, hb, hX⟩ := hcut
    have HX := hidW hX
    clear hX
    cases ok
    · obtain rfl : b = true := hb
      go_wp2
      exact bodyPost_ret (v := .bool true) (by simp [results, Tryz.results3, go_sem]) rfl ⟨rfl, HX.out.bel⟩
    cases p
    rotate_left
    · obtain rfl : b = true := hb
      go_wp2
      exact bodyPost_ret (v := .bool true) (by simp [results, Tryz.results3, go_sem]) rfl ⟨rfl, HX.out.bel⟩
    obtain rfl : b = false := hb
    have hdec : Is.decP x = some i := by
      have h1 := hok.out
      have h2 := hd.out
      cases hq : Is.decP x with
      | none => rw [hq] at h1; cases h1
      | some j => rw [hq] at h2; exact congrArg some h2
    generalize hpc : rg R 28 = pc at hr28 h28
    have c28 : wc.cell? ⟨w.heap.size, 28, none⟩ = some (.int .u32 pc) := by rw [HX.out.box.cell 28, RL_at hR.out.len (by decide), hpc]
    have HNL := hidW (gNewLine1 w wc w.heap.size cb R R HX.out pc x)
    have hop := decP_op hdec
    have HStep : Hid (∀ v lb, VX w v w.heap.size cb lb R R (pc, (x : Int)) [] → _) := fun v lb h => gStepV w v w.heap.size cb lb R R pc x i h hpc hr28 h28 (by omega) hdec hop (by rw [hf.out]; exact hp.out)
    have HC28 : Hid (∀ v lb R' A, VX w v w.heap.size cb lb R' R (pc, (x : Int)) A → ∀ o, (v.alloc o).cell? ⟨w.heap.size, 28, none⟩ = some (.int .u32 pc)) := fun v lb R' A h o => by rw [(h.step (below_new v o)).ux.box.cell 28, RL_at hR.out.len (by decide), hpc]
    have HF28 : Hid (∀ v lb R' A, VX w v w.heap.size cb lb R' R (pc, (x : Int)) A → ∀ o, (v.alloc o).frozen? ⟨w.heap.size, 28, none⟩ = false) := fun v lb R' A h o => (h.step (below_new v o)).ux.box.frozen 28
    have ea : IntKind.u32.wrap (pc + 4) = (pc + 4) % 4294967296 := by rw [IntKind.wrap_u32']
    have hRp : R.set 28 ((pc + 4) % 4294967296) = pcR R pc := rfl
    have es : IntKind.u32.wrap ((pc + 4) % 4294967296 - 4) = pc := by rw [IntKind.wrap_u32']; omega
    have hR' : ROk (pcR R pc) := by rw [← hRp]; exact hR.out.set (by omega)
    have hv28 : rg (pcR R pc) 28 = (pc + 4) % 4294967296 := by rw [← hRp]; unfold rg; rw [List.getD_eq_getElem?_getD, List.getElem?_set_self (by omega)]; rfl
    generalize hRR : pcR R pc = R' at *
    generalize hpv : (pc + 4) % 4294967296 = pcv at *
    generalize hlb : wc.heap.size + 1 = lb at HNL
    go_wp2_with (first | (go_at_call 15; refine HNL.out.mono ?_; rintro e w7 ⟨rfl, hv⟩; have HV := hidW hv; clear hv) | (go_at_call 16; refine (HStep.out _ _ HV.out).mono ?_; rintro e w8 ⟨rfl, hv⟩; have HV := hidW hv; clear c28 hv; have c28 := HC28.out _ _ _ _ HV.out; have f28 := HF28.out _ _ _ _ HV.out))
    have HV2 := hidW ((HV.out.step (below_new w8 (.cells #[.int .i64 0, .int .u32 pc, .int .u32 (x : Int), .int .u32 0, .int .i64 0, .int .i64 0, .int .i64 0, .bool false] 50))).put 28 pcv)
    have hbw := HV.out.ux.box.lt
    have hq2 : Bl ((w8.alloc (.cells #[.int .i64 0, .int .u32 pc, .int .u32 (x : Int), .int .u32 0, .int .i64 0, .int .i64 0, .int .i64 0, .bool false] 50)).setCell ⟨w.heap.size, 28, none⟩ (.int .u32 pcv)) w8.heap.size 50 [.int .i64 0, .int .u32 pc, .int .u32 (x : Int), .int .u32 0, .int .i64 0, .int .i64 0, .int .i64 0, .bool false] := (Bl.new w8 50 [.int .i64 0, .int .u32 pc, .int .u32 (x : Int), .int .u32 0, .int .i64 0, .int .i64 0, .int .i64 0, .bool false]).turn (TA.set (g := w.heap.size) (Turn.refl _ _) 28 (.int .u32 pcv)) (fun e => by have e : w8.heap.size = w.heap.size := e; omega)
    have HQ2 := hidW hq2
    clear hq2 c28 f28 HQ HX
    generalize ((w8.alloc (.cells #[.int .i64 0, .int .u32 pc, .int .u32 (x : Int), .int .u32 0, .int .i64 0, .int .i64 0, .int .i64 0, .bool false] 50)).setCell ⟨w.heap.size, 28, none⟩ (.int .u32 pcv)) = w9 at HV2 HQ2 ⊢
    generalize w8.heap.size = q2 at HQ2 ⊢
    rw [hRp] at HV2
    have HV2 := hidW HV2.out.drew
    have HQ2 := hidW HQ2.out.drew
    obtain ⟨aa, ac, hask⟩ := HV2.out.asked
    have HG : Hid (VX w w9.drew w.heap.size cb lb R' R' (pc, (x : Int)) [askP 1 pc 0 (!(mdR R == 16))] ∧ Bl w9.drew q2 50 [.int .i64 0, .int .u32 pc, .int .u32 (x : Int), .int .u32 0, .int .i64 0, .int .i64 0, .int .i64 0, .bool false] ∧ w9.drew.cell? ⟨lb, 2, none⟩ = some (.slice aa 1 ac)) := ⟨HV2.out, HQ2.out, hask⟩
    have HGS : Hid (∀ v v', (VX w v w.heap.size cb lb R' R' (pc, (x : Int)) [askP 1 pc 0 (!(mdR R == 16))] ∧ Bl v q2 50 [.int .i64 0, .int .u32 pc, .int .u32 (x : Int), .int .u32 0, .int .i64 0, .int .i64 0, .int .i64 0, .bool false] ∧ v.cell? ⟨lb, 2, none⟩ = some (.slice aa 1 ac)) → Below v.heap.size v v' → (VX w v' w.heap.size cb lb R' R' (pc, (x : Int)) [askP 1 pc 0 (!(mdR R == 16))] ∧ Bl v' q2 50 [.int .i64 0, .int .u32 pc, .int .u32 (x : Int), .int .u32 0, .int .i64 0, .int .i64 0, .int .i64 0, .bool false] ∧ v'.cell? ⟨lb, 2, none⟩ = some (.slice aa 1 ac))) := fun v v' h hb => ⟨h.1.step hb, h.2.1.below hb, cell_keep h.2.2 hb⟩
    have HCC : Hid (∀ v, (VX w v w.heap.size cb lb R' R' (pc, (x : Int)) [askP 1 pc 0 (!(mdR R == 16))] ∧ Bl v q2 50 [.int .i64 0, .int .u32 pc, .int .u32 (x : Int), .int .u32 0, .int .i64 0, .int .i64 0, .int .i64 0, .bool false] ∧ v.cell? ⟨lb, 2, none⟩ = some (.slice aa 1 ac)) → v.cell? ⟨w.heap.size, 28, none⟩ = some (.int .u32 pcv) ∧ v.rangeAt w.heap.size 0 (RL R') ∧ v.rangeAt q2 0 [.int .i64 0, .int .u32 pc, .int .u32 (x : Int), .int .u32 0, .int .i64 0, .int .i64 0, .int .i64 0, .bool false] ∧ v.cell? ⟨lb, 2, none⟩ = some (.slice aa 1 ac)) := fun v h => ⟨by rw [h.1.ux.box.cell 28, RL_at hR'.len (by decide), hv28], h.1.ux.box.range, h.2.1.range, h.2.2⟩
    have HSt2 : Hid (∀ v, VX w v w.heap.size cb lb R' R' (pc, (x : Int)) [askP 1 pc 0 (!(mdR R == 16))] → Calls Tryz.prog 11 #[.pointer (some ⟨cb, 0, none⟩)] v fun e w' => e = .returned (.agg (RL R').toArray) ∧ Below v.heap.size v w') := fun v h => gState v cb R' _ h.ux.cpu
    have heq : ∀ v, (Op.equalIn 10000 26 (.agg (RL R').toArray) (.agg (RL R').toArray)).run Tryz.prog v = .ok true v := fun v => by
      rw [eqS R' R' hR'.len hR'.len v, decide_eq_true rfl]
    have heqT := eqT 0 pc x
    have HIR' : Hid ((Tryz.prog.info? 26).map (·.size) = some (RL R').length) := by unfold RL; rw [List.length_map, hR'.len]; exact state_info
    refine wp_region_held_drew (S := fun v => v.cell? ⟨w.heap.size, 28, none⟩ = some (.int .u32 pcv) ∧ v.rangeAt w.heap.size 0 (RL R') ∧ v.rangeAt q2 0 [.int .i64 0, .int .u32 pc, .int .u32 (x : Int), .int .u32 0, .int .i64 0, .int .i64 0, .int .i64 0, .bool false] ∧ v.cell? ⟨lb, 2, none⟩ = some (.slice aa 1 ac)) (by kernel_rfl) (HCC.out _ HG.out) (fun hHeld => ?_)
    clear hHeld HV2 HQ2 hask hbw HStep HNL HL HSt HPt HD HM HFl HPa HV hdec hop HIi HOi HIR HJR HOR HS0 hr28 h28
    generalize w9.drew = u1 at HG ⊢
    have K2 := hidW (HCC.out _ HG.out)
    refine wpAnyH_take (i := 0) (oi := { dst := some 53, op := Op.move (Operand.tmp 10), type := 51, pos := _, after := #[], guard := none }) (v := ?_) rfl (by kernel_rfl) (by kernel_rfl) (by kernel_rfl) (fun _ _ _ h => h) (Or.inl ⟨by rfl, ?_⟩) (by assumption) ?_
    rotate_left
    · (intro w hSw; (try dsimp only at hSw); go_simp; try with_reducible rfl)
    simp only [Act.put, List.setIfInBounds_toArray, List.set_cons_zero, List.set_cons_succ]
    refine wpAnyH_ready (rs := [1]) (by kernel_rfl) (by simp) ?_
    refine (AllReadyH.cons (o := { dst := some 54, op := Op.call { callee := Callee.value (Operand.func 17), args := #[Operand.tmp 53], argTypes := #[51] }, type := 3, pos := _, after := #[{ on := 0, ground := Ground.data }], guard := none }) rfl (fun K hK => ?_) AllReadyH.nil)
    go_simp
    go_at_call 17; refine (gno 0 _).mono ?_; rintro e wu ⟨rfl, hwe⟩; have hwe := hwe.symm; subst hwe
    refine hK.out _ _ ?_ (fun hHeld => ?_)
    · ((try dsimp only); exact K2.out)
    clear hK K
    try simp only [Act.put, List.setIfInBounds_toArray, List.set_cons_zero, List.set_cons_succ]
    refine wpAnyH_take (i := 2) (oi := { dst := some 55, op := Op.binOp BinOp.eql 3 (Operand.tmp 54) (Operand.const (Value.int IntKind.i64 0)) 3, type := 4, pos := _, after := #[{ on := 1, ground := Ground.data }], guard := none }) (v := ?_) rfl (by kernel_rfl) (by kernel_rfl) (by kernel_rfl) (fun _ _ _ h => h) (Or.inl ⟨by rfl, ?_⟩) (by assumption) ?_
    rotate_left
    · (intro w hSw; (try dsimp only at hSw); go_simp; try with_reducible rfl)
    simp only [Act.put, List.setIfInBounds_toArray, List.set_cons_zero, List.set_cons_succ]
    refine wpAnyH_take (i := 3) (oi := { dst := some 56, op := Op.move (Operand.tmp 55), type := 4, pos := _, after := #[{ on := 2, ground := Ground.data }, { on := 1, ground := Ground.chain }], guard := none }) (v := ?_) rfl (by kernel_rfl) (by kernel_rfl) (by kernel_rfl) (fun _ _ _ h => h) (Or.inl ⟨by rfl, ?_⟩) (by assumption) ?_
    rotate_left
    · (intro w hSw; (try dsimp only at hSw); go_simp; try with_reducible rfl)
    simp only [Act.put, List.setIfInBounds_toArray, List.set_cons_zero, List.set_cons_succ]
    refine wpAnyH_take (i := 4) (oi := { dst := some 57, op := Op.load 50 (Operand.tmp 9), type := 50, pos := _, after := #[{ on := 3, ground := Ground.guard }], guard := some (3, true) }) (v := _) rfl (by kernel_rfl) (by kernel_rfl) (by kernel_rfl) (fun _ _ _ h => h) (yieldsIf_load_mid (by rfl) _ _ rfl q2 0 rfl _ _ (fun _ h => h.2.2.1) Tryz.underlying50 rfl tk_info) (by assumption) ?_
    simp only [Act.put, List.setIfInBounds_toArray, List.set_cons_zero, List.set_cons_succ]
    refine wpAnyH_take (i := 5) (oi := { dst := some 58, op := Op.fieldAddr 26 (Operand.tmp 2) 4, type := 0, pos := _, after := #[{ on := 3, ground := Ground.guard }], guard := some (3, true) }) (v := ?_) rfl (by kernel_rfl) (by kernel_rfl) (by kernel_rfl) (fun _ _ _ h => h) (Or.inl ⟨by rfl, ?_⟩) (by assumption) ?_
    rotate_left
    · (intro w hSw; (try dsimp only at hSw); go_simp; try with_reducible rfl)
    simp only [Act.put, List.setIfInBounds_toArray, List.set_cons_zero, List.set_cons_succ]
    refine wpAnyH_take (i := 6) (oi := { dst := some 59, op := Op.load 22 (Operand.tmp 58), type := 22, pos := _, after := #[{ on := 5, ground := Ground.data }, { on := 3, ground := Ground.guard }], guard := some (3, true) }) (v := ?_) rfl (by kernel_rfl) (by kernel_rfl) (by kernel_rfl) (fun _ _ _ h => h) (Or.inl ⟨by rfl, ?_⟩) (by assumption) ?_
    rotate_left
    · (intro w hSw; (try dsimp only at hSw); go_simp; try with_reducible rfl)
    simp only [Act.put, List.setIfInBounds_toArray, List.set_cons_zero, List.set_cons_succ]
    refine wpAnyH_take (i := 7) (oi := { dst := some 60, op := Op.binOp BinOp.sub 22 (Operand.tmp 59) (Operand.const (Value.int IntKind.u32 4)) 22, type := 22, pos := _, after := #[{ on := 6, ground := Ground.data }, { on := 3, ground := Ground.guard }], guard := some (3, true) }) (v := ?_) rfl (by kernel_rfl) (by kernel_rfl) (by kernel_rfl) (fun _ _ _ h => h) (Or.inl ⟨by rfl, ?_⟩) (by assumption) ?_
    rotate_left
    · (intro w hSw; (try dsimp only at hSw); go_simp; try with_reducible rfl)
    simp only [Act.put, List.setIfInBounds_toArray, List.set_cons_zero, List.set_cons_succ]
    refine wpAnyH_take (i := 8) (oi := { dst := some 61, op := Op.move (Operand.tmp 1), type := 22, pos := _, after := #[{ on := 3, ground := Ground.guard }], guard := some (3, true) }) (v := ?_) rfl (by kernel_rfl) (by kernel_rfl) (by kernel_rfl) (fun _ _ _ h => h) (Or.inl ⟨by rfl, ?_⟩) (by assumption) ?_
    rotate_left
    · (intro w hSw; (try dsimp only at hSw); go_simp; try with_reducible rfl)
    simp only [Act.put, List.setIfInBounds_toArray, List.set_cons_zero, List.set_cons_succ]
    refine wpAnyH_take (i := 9) (oi := { dst := some 62, op := Op.build 50 #[(1, Operand.tmp 60), (2, Operand.tmp 61)], type := 50, pos := _, after := #[{ on := 7, ground := Ground.data }, { on := 8, ground := Ground.data }, { on := 3, ground := Ground.guard }], guard := some (3, true) }) (v := ?_) rfl (by kernel_rfl) (by kernel_rfl) (by kernel_rfl) (fun _ _ _ h => h) (Or.inl ⟨by rfl, ?_⟩) (by assumption) ?_
    rotate_left
    · (intro w hSw; (try dsimp only at hSw); go_simp; try with_reducible rfl)
    simp only [Act.put, List.setIfInBounds_toArray, List.set_cons_zero, List.set_cons_succ]
    refine wpAnyH_take (i := 10) (oi := { dst := some 63, op := Op.binOp BinOp.eql 50 (Operand.tmp 57) (Operand.tmp 62) 50, type := 4, pos := _, after := #[{ on := 4, ground := Ground.data }, { on := 9, ground := Ground.data }, { on := 3, ground := Ground.guard }], guard := some (3, true) }) (v := ?_) rfl (by kernel_rfl) (by kernel_rfl) (by kernel_rfl) (fun _ _ _ h => h) (Or.inl ⟨by rfl, ?_⟩) (by assumption) ?_
    rotate_left
    · (intro w hSw; (try dsimp only at hSw); go_simp; try with_reducible rfl)
    simp only [Act.put, List.setIfInBounds_toArray, List.set_cons_zero, List.set_cons_succ]
    refine wpAnyH_take (i := 11) (oi := { dst := some 64, op := Op.pick (Operand.tmp 56) (Operand.tmp 63) (Operand.const (Value.bool false)), type := 4, pos := _, after := #[{ on := 3, ground := Ground.data }, { on := 10, ground := Ground.data }], guard := none }) (v := ?_) rfl (by kernel_rfl) (by kernel_rfl) (by kernel_rfl) (fun _ _ _ h => h) (Or.inl ⟨by rfl, ?_⟩) (by assumption) ?_
    rotate_left
    · (intro w hSw; (try dsimp only at hSw); go_simp; try with_reducible rfl)
    simp only [Act.put, List.setIfInBounds_toArray, List.set_cons_zero, List.set_cons_succ]
    refine wpAnyH_take (i := 12) (oi := { dst := some 65, op := Op.move (Operand.tmp 64), type := 4, pos := _, after := #[{ on := 11, ground := Ground.data }, { on := 3, ground := Ground.chain }], guard := none }) (v := ?_) rfl (by kernel_rfl) (by kernel_rfl) (by kernel_rfl) (fun _ _ _ h => h) (Or.inl ⟨by rfl, ?_⟩) (by assumption) ?_
    rotate_left
    · (intro w hSw; (try dsimp only at hSw); go_simp; try with_reducible rfl)
    simp only [Act.put, List.setIfInBounds_toArray, List.set_cons_zero, List.set_cons_succ]
    refine wpAnyH_take (i := 13) (oi := { dst := some 66, op := Op.move (Operand.tmp 5), type := 27, pos := _, after := #[{ on := 12, ground := Ground.guard }], guard := some (12, true) }) (v := ?_) rfl (by kernel_rfl) (by kernel_rfl) (by kernel_rfl) (fun _ _ _ h => h) (Or.inl ⟨by rfl, ?_⟩) (by assumption) ?_
    rotate_left
    · (intro w hSw; (try dsimp only at hSw); go_simp; try with_reducible rfl)
    simp only [Act.put, List.setIfInBounds_toArray, List.set_cons_zero, List.set_cons_succ]
    refine wpAnyH_take (i := 15) (oi := { dst := some 68, op := Op.load 26 (Operand.tmp 2), type := 26, pos := _, after := #[{ on := 12, ground := Ground.guard }], guard := some (12, true) }) (v := _) rfl (by kernel_rfl) (by kernel_rfl) (by kernel_rfl) (fun _ _ _ h => h) (yieldsIf_load_mid (by rfl) _ _ rfl w.heap.size 0 rfl _ _ (fun _ h => h.2.1) Tryz.underlying26 rfl HIR'.out) (by assumption) ?_
    simp only [Act.put, List.setIfInBounds_toArray, List.set_cons_zero, List.set_cons_succ]
    refine wpAnyH_ready (rs := [14]) (by kernel_rfl) (by simp) ?_
    refine (AllReadyH.cons (o := { dst := some 67, op := Op.call { callee := Callee.value (Operand.func 11), args := #[Operand.tmp 66], argTypes := #[27] }, type := 26, pos := _, after := #[{ on := 13, ground := Ground.data }, { on := 12, ground := Ground.chain }, { on := 12, ground := Ground.guard }], guard := some (12, true) }) rfl (fun K hK => ?_) AllReadyH.nil)
    go_simp
    go_at_call 11; refine (HSt2.out _ HG.out.1).mono ?_; rintro e u2 ⟨rfl, hb⟩; have HG := hidW (HGS.out _ _ HG.out hb); have K2 := hidW (HCC.out _ HG.out); clear hb
    refine hK.out _ _ ?_ (fun hHeld => ?_)
    · ((try dsimp only); exact K2.out)
    clear hK K
    try simp only [Act.put, List.setIfInBounds_toArray, List.set_cons_zero, List.set_cons_succ]
    refine wpAnyH_take (i := 16) (oi := { dst := some 69, op := Op.binOp BinOp.eql 26 (Operand.tmp 67) (Operand.tmp 68) 26, type := 4, pos := _, after := #[{ on := 14, ground := Ground.data }, { on := 15, ground := Ground.data }, { on := 12, ground := Ground.guard }], guard := some (12, true) }) (v := ?_) rfl (by kernel_rfl) (by kernel_rfl) (by kernel_rfl) (fun _ _ _ h => h) (Or.inl ⟨by rfl, ?_⟩) (by assumption) ?_
    rotate_left
    · (intro w hSw; (try dsimp only at hSw); go_simp; try with_reducible rfl)
    simp only [Act.put, List.setIfInBounds_toArray, List.set_cons_zero, List.set_cons_succ]
    refine wpAnyH_take (i := 17) (oi := { dst := some 70, op := Op.pick (Operand.tmp 65) (Operand.tmp 69) (Operand.const (Value.bool false)), type := 4, pos := _, after := #[{ on := 12, ground := Ground.data }, { on := 16, ground := Ground.data }], guard := none }) (v := ?_) rfl (by kernel_rfl) (by kernel_rfl) (by kernel_rfl) (fun _ _ _ h => h) (Or.inl ⟨by rfl, ?_⟩) (by assumption) ?_
    rotate_left
    · (intro w hSw; (try dsimp only at hSw); go_simp; try with_reducible rfl)
    simp only [Act.put, List.setIfInBounds_toArray, List.set_cons_zero, List.set_cons_succ]
    refine wpAnyH_take (i := 18) (oi := { dst := some 71, op := Op.move (Operand.tmp 70), type := 4, pos := _, after := #[{ on := 17, ground := Ground.data }, { on := 14, ground := Ground.chain }], guard := none }) (v := ?_) rfl (by kernel_rfl) (by kernel_rfl) (by kernel_rfl) (fun _ _ _ h => h) (Or.inl ⟨by rfl, ?_⟩) (by assumption) ?_
    rotate_left
    · (intro w hSw; (try dsimp only at hSw); go_simp; try with_reducible rfl)
    simp only [Act.put, List.setIfInBounds_toArray, List.set_cons_zero, List.set_cons_succ]
    refine wpAnyH_take (i := 19) (oi := { dst := some 72, op := Op.move (Operand.tmp 8), type := 42, pos := _, after := #[{ on := 18, ground := Ground.guard }], guard := some (18, true) }) (v := ?_) rfl (by kernel_rfl) (by kernel_rfl) (by kernel_rfl) (fun _ _ _ h => h) (Or.inl ⟨by rfl, ?_⟩) (by assumption) ?_
    rotate_left
    · (intro w hSw; (try dsimp only at hSw); go_simp; try with_reducible rfl)
    simp only [Act.put, List.setIfInBounds_toArray, List.set_cons_zero, List.set_cons_succ]
    refine wpAnyH_take (i := 20) (oi := { dst := some 73, op := Op.nilCheck (Operand.tmp 72), type := 0, pos := _, after := #[{ on := 19, ground := Ground.data }, { on := 18, ground := Ground.guard }], guard := some (18, true) }) (v := ?_) rfl (by kernel_rfl) (by kernel_rfl) (by kernel_rfl) (fun _ _ _ h => h) (Or.inl ⟨by rfl, ?_⟩) (by assumption) ?_
    rotate_left
    · (intro w hSw; (try dsimp only at hSw); go_simp; try with_reducible rfl)
    simp only [Act.put, List.setIfInBounds_toArray, List.set_cons_zero, List.set_cons_succ]
    refine wpAnyH_take (i := 21) (oi := { dst := some 74, op := Op.fieldAddr 58 (Operand.tmp 73) 2, type := 0, pos := _, after := #[{ on := 20, ground := Ground.data }, { on := 18, ground := Ground.guard }], guard := some (18, true) }) (v := ?_) rfl (by kernel_rfl) (by kernel_rfl) (by kernel_rfl) (fun _ _ _ h => h) (Or.inl ⟨by rfl, ?_⟩) (by assumption) ?_
    rotate_left
    · (intro w hSw; (try dsimp only at hSw); go_simp; try with_reducible rfl)
    simp only [Act.put, List.setIfInBounds_toArray, List.set_cons_zero, List.set_cons_succ]
    refine wpAnyH_take (i := 22) (oi := { dst := some 75, op := Op.load 56 (Operand.tmp 74), type := 56, pos := _, after := #[{ on := 21, ground := Ground.data }, { on := 18, ground := Ground.guard }], guard := some (18, true) }) (v := ?_) rfl (by kernel_rfl) (by kernel_rfl) (by kernel_rfl) (fun _ _ _ h => h) (Or.inl ⟨by rfl, ?_⟩) (by assumption) ?_
    rotate_left
    · (intro w hSw; (try dsimp only at hSw); go_simp; try with_reducible rfl)
    simp only [Act.put, List.setIfInBounds_toArray, List.set_cons_zero, List.set_cons_succ]
    refine wpAnyH_take (i := 23) (oi := { dst := some 76, op := Op.call { callee := Callee.builtin Builtin.len, args := #[Operand.tmp 75], argTypes := #[56] }, type := 3, pos := _, after := #[{ on := 22, ground := Ground.data }, { on := 18, ground := Ground.guard }], guard := some (18, true) }) (v := ?_) rfl (by kernel_rfl) (by kernel_rfl) (by kernel_rfl) (fun _ _ _ h => h) (Or.inl ⟨by rfl, ?_⟩) (by assumption) ?_
    rotate_left
    · (intro w hSw; (try dsimp only at hSw); go_simp; try with_reducible rfl)
    simp only [Act.put, List.setIfInBounds_toArray, List.set_cons_zero, List.set_cons_succ]
    refine wpAnyH_take (i := 24) (oi := { dst := some 77, op := Op.binOp BinOp.eql 3 (Operand.tmp 76) (Operand.const (Value.int IntKind.i64 1)) 3, type := 4, pos := _, after := #[{ on := 23, ground := Ground.data }, { on := 18, ground := Ground.guard }], guard := some (18, true) }) (v := ?_) rfl (by kernel_rfl) (by kernel_rfl) (by kernel_rfl) (fun _ _ _ h => h) (Or.inl ⟨by rfl, ?_⟩) (by assumption) ?_
    rotate_left
    · (intro w hSw; (try dsimp only at hSw); go_simp; try with_reducible rfl)
    simp only [Act.put, List.setIfInBounds_toArray, List.set_cons_zero, List.set_cons_succ]
    refine wpAnyH_take (i := 25) (oi := { dst := some 78, op := Op.pick (Operand.tmp 71) (Operand.tmp 77) (Operand.const (Value.bool false)), type := 4, pos := _, after := #[{ on := 18, ground := Ground.data }, { on := 24, ground := Ground.data }], guard := none }) (v := ?_) rfl (by kernel_rfl) (by kernel_rfl) (by kernel_rfl) (fun _ _ _ h => h) (Or.inl ⟨by rfl, ?_⟩) (by assumption) ?_
    rotate_left
    · (intro w hSw; (try dsimp only at hSw); go_simp; try with_reducible rfl)
    simp only [Act.put, List.setIfInBounds_toArray, List.set_cons_zero, List.set_cons_succ]
    refine wpAnyH_take (i := 26) (oi := { dst := some 4, op := Op.assign (Operand.tmp 78), type := 4, pos := _, after := #[{ on := 25, ground := Ground.data }, { on := 18, ground := Ground.chain }, { on := 0, ground := Ground.phase }, { on := 1, ground := Ground.phase }, { on := 2, ground := Ground.phase }, { on := 3, ground := Ground.phase }, { on := 4, ground := Ground.phase }, { on := 5, ground := Ground.phase }, { on := 6, ground := Ground.phase }, { on := 7, ground := Ground.phase }, { on := 8, ground := Ground.phase }, { on := 9, ground := Ground.phase }, { on := 10, ground := Ground.phase }, { on := 11, ground := Ground.phase }, { on := 12, ground := Ground.phase }, { on := 13, ground := Ground.phase }, { on := 14, ground := Ground.phase }, { on := 15, ground := Ground.phase }, { on := 16, ground := Ground.phase }, { on := 17, ground := Ground.phase }, { on := 18, ground := Ground.phase }, { on := 19, ground := Ground.phase }, { on := 20, ground := Ground.phase }, { on := 21, ground := Ground.phase }, { on := 22, ground := Ground.phase }, { on := 23, ground := Ground.phase }, { on := 24, ground := Ground.phase }, { on := 25, ground := Ground.phase }], guard := none }) (v := ?_) rfl (by kernel_rfl) (by kernel_rfl) (by kernel_rfl) (fun _ _ _ h => h) (Or.inl ⟨by rfl, ?_⟩) (by assumption) ?_
    rotate_left
    · (intro w hSw; (try dsimp only at hSw); go_simp; try with_reducible rfl)
    simp only [Act.put, List.setIfInBounds_toArray, List.set_cons_zero, List.set_cons_succ]
    refine wpAnyH_done (by kernel_rfl) ?_ _
    go_wp2
    exact bodyPost_ret (v := .bool true) (by simp [results, Tryz.results3, go_sem]) rfl ⟨rfl, HG.out.1.ux.bel⟩
end Go.Proofs.YtilhceajhlaojaaGreatDoor

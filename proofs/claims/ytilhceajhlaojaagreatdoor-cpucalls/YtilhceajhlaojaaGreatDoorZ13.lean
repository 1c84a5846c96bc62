import Derived.Test.YtilhceajhlaojaaGreatDoorZ12
import Derived.Laws.AppendOwn
import Derived.Laws.OwnMore
import Derived.Laws.CopyRow
import Derived.Deep.AppendSrc
import Derived.Lib.AppendZeros
import Derived.Lib.Overlaps
import Derived.Laws.Externs
import Derived.Below
import Derived.Deep.Draws
namespace Go.Proofs.YtilhceajhlaojaaGreatDoor
open Go.RowKit
set_option linter.unusedVariables false
set_option linter.unusedSimpArgs false
/-- The kept bits. -/
def keW (x : Int) : Int := bits .and .u32 x 4026531999
theorem keW_range {x : Int} (h : 0 ≤ x ∧ x < 4294967296) : 0 ≤ keW x ∧ keW x < 4294967296 := by
  unfold keW
  rw [u32_and x _ h.1 h.2 (by decide) (by decide)]
  have : x.toNat &&& (4026531999 : Int).toNat ≤ x.toNat := Nat.and_le_left
  omega
/-- What a state would be. -/
def keR (R : List Int) : List Int :=
  ((((((((R.set 28 (alW (rg R 28))).set 29 (keW (rg R 29))).set 23 (keW (rg R 23))).set 24 (keW (rg R 24))).set 25 (keW (rg R 25))).set 26 (keW (rg R 26))).set 27 (keW (rg R 27))).set 23 0)
def isR (R : List Int) : Bool := (bkO (mdR R)).isSome && decide (keR R = R)
theorem keR_len {R : List Int} (h : R.length = 30) : (keR R).length = 30 := by unfold keR; simp only [List.length_set]; exact h
/-- The state while it is asked whether that is a state. -/
structure SX (W v : World) (q p : Nat) (R K : List Int) : Prop where
  bel : Below W.heap.size W v
  a : Bl v q 26 (RL R)
  b : Bl v p 26 (RL K)
theorem SX.put {W v : World} {q p : Nat} {R K : List Int} (h : SX W v q p R K) (hq : q ≠ p) (hp : W.heap.size ≤ p) (k : Nat) (u : Int) : SX W (v.setCell ⟨p, k, none⟩ (.int .u32 u)) q p R (K.set k u) :=
  ⟨h.bel.setCell hp _, h.a.set_ne hq k _, by
    have := h.b.set k (.int .u32 u)
    unfold RL at this ⊢
    rw [List.map_set]
    exact this⟩
theorem RL_at {R : List Int} (hl : R.length = 30) {k : Nat} (h : k < 30) : (RL R)[k]? = some (.int .u32 (rg R k)) := by
  have := RL_get (E := []) hl h
  rw [List.append_nil] at this
  exact this
theorem SX.ca {W v : World} {q p : Nat} {R K : List Int} (h : SX W v q p R K) (hl : R.length = 30) (k : Nat) (hk : k < 30) : v.cell? ⟨q, k, none⟩ = some (.int .u32 (rg R k)) := by rw [h.a.cell, RL_at hl hk]
theorem SX.cb {W v : World} {q p : Nat} {R K : List Int} (h : SX W v q p R K) (hl : K.length = 30) (k : Nat) (hk : k < 30) : v.cell? ⟨p, k, none⟩ = some (.int .u32 (rg K k)) := by rw [h.b.cell, RL_at hl hk]
theorem SX.first (w : World) (R : List Int) (hl : R.length = 30) (A : Array Value) (hA : A.size = 30) : SX w (((w.alloc (.cells (RL R).toArray 26)).alloc (.cells A 26)).setCells (w.heap.size + 1) 0 (RL R)) w.heap.size (w.heap.size + 1) R R := by
  have h1 := fill_new (w.alloc (.cells (RL R).toArray 26)) 26 A (RL R) (by unfold RL; rw [List.length_map, hl, hA])
  rw [World.size_alloc] at h1
  refine ⟨(below_new w _).trans (h1.1.mono (by omega)), ?_, h1.2⟩
  have hb := h1.1
  have h0 := Bl.new w 26 (RL R)
  have hs : (w.alloc (.cells (RL R).toArray 26)).heap.size = w.heap.size + 1 := World.size_alloc _ _
  exact h0.below (by rw [hs]; exact hb)
theorem wpList_load_want {P : Program} {ops : Array Oper} {rest : List Oper} {op : Oper} {a : Act} {w : World} {Q : Exit → Act → World → Prop} (hw : Region.wanted op (yielded ops a.tmps) = true) (ty : TypeId) (x : Operand) (ho : op.op = .load ty x)
    (b o : Nat) (hx : a.eval x = .pointer (some ⟨b, o, none⟩)) (cs : List Value) (d : TypeDesc) (hc : w.rangeAt b o cs)
    (hu : P.underlying ty = some d) (hd : d.isRow = true) (hi : (P.info? ty).map (·.size) = some cs.length)
    (h : wpList P ops Q rest (a.put op.dst (.agg cs.toArray)) w) : wpList P ops Q (op :: rest) a w :=
  wpList_step fun K hK => by rw [if_pos hw]; exact wp_load_mid ty x ho b o hx cs d hc hu hd hi (hK _ _ h)
/-- The cells of both, as the walk wants them. -/
theorem SX.cells {W v : World} {q p : Nat} {R K : List Int} (h : SX W v q p R K) (hR : R.length = 30) (hK : K.length = 30) :
    (v.cell? ⟨q, 28, none⟩ = some (.int .u32 (rg R 28)) ∧ v.cell? ⟨q, 29, none⟩ = some (.int .u32 (rg R 29))) ∧
    (v.cell? ⟨p, 23, none⟩ = some (.int .u32 (rg K 23)) ∧ v.cell? ⟨p, 24, none⟩ = some (.int .u32 (rg K 24)) ∧ v.cell? ⟨p, 25, none⟩ = some (.int .u32 (rg K 25)) ∧ v.cell? ⟨p, 26, none⟩ = some (.int .u32 (rg K 26)) ∧ v.cell? ⟨p, 27, none⟩ = some (.int .u32 (rg K 27)) ∧ v.cell? ⟨p, 28, none⟩ = some (.int .u32 (rg K 28)) ∧ v.cell? ⟨p, 29, none⟩ = some (.int .u32 (rg K 29))) ∧
    (v.frozen? ⟨p, 23, none⟩ = false ∧ v.frozen? ⟨p, 24, none⟩ = false ∧ v.frozen? ⟨p, 25, none⟩ = false ∧ v.frozen? ⟨p, 26, none⟩ = false ∧ v.frozen? ⟨p, 27, none⟩ = false ∧ v.frozen? ⟨p, 28, none⟩ = false ∧ v.frozen? ⟨p, 29, none⟩ = false) :=
  ⟨⟨h.ca hR 28 (by decide), h.ca hR 29 (by decide)⟩, ⟨h.cb hK 23 (by decide), h.cb hK 24 (by decide), h.cb hK 25 (by decide), h.cb hK 26 (by decide), h.cb hK 27 (by decide), h.cb hK 28 (by decide), h.cb hK 29 (by decide)⟩, h.b.frozen _, h.b.frozen _, h.b.frozen _, h.b.frozen _, h.b.frozen _, h.b.frozen _, h.b.frozen _⟩
/-- All that is stored. -/
def keS (v : World) (p : Nat) (R : List Int) : World :=
  (((((((v.setCell ⟨p, 28, none⟩ (.int .u32 (alW (rg R 28)))).setCell ⟨p, 29, none⟩ (.int .u32 (keW (rg R 29)))).setCell ⟨p, 23, none⟩ (.int .u32 (keW (rg R 23)))).setCell ⟨p, 24, none⟩ (.int .u32 (keW (rg R 24)))).setCell ⟨p, 25, none⟩ (.int .u32 (keW (rg R 25)))).setCell ⟨p, 26, none⟩ (.int .u32 (keW (rg R 26)))).setCell ⟨p, 27, none⟩ (.int .u32 (keW (rg R 27)))).setCell ⟨p, 23, none⟩ (.int .u32 0)
theorem SX.kept {W v : World} {q p : Nat} {R : List Int} (h : SX W v q p R R) (hq : q ≠ p) (hp : W.heap.size ≤ p) : SX W (keS v p R) q p R (keR R) :=
  (((((((h.put hq hp 28 _).put hq hp 29 _).put hq hp 23 _).put hq hp 24 _).put hq hp 25 _).put hq hp 26 _).put hq hp 27 _).put hq hp 23 _
set_option maxRecDepth 100000 in
set_option maxHeartbeats 2000000 in
theorem gisState_at (w : World) (R : List Int) (h : ROk R) (o : Bool) (ho : (bkO (mdR R)).isSome = o) : Calls Tryz.prog 37 #[.agg (RL R).toArray] w fun e w' => e = .returned (.bool (o && decide (keR R = R))) ∧ Below w.heap.size w w' := by
  have hl := h.len
  have HS : Hid (∀ A : Array Value, A.size = 30 → SX w (((w.alloc (.cells (RL R).toArray 26)).alloc (.cells A 26)).setCells (w.heap.size + 1) 0 (RL R)) w.heap.size (w.heap.size + 1) R R) := fun A hA => SX.first w R hl A hA
  have HR : Hid (∀ A : Array Value, ((w.alloc (.cells (RL R).toArray 26)).alloc (.cells A 26)).rangeAt w.heap.size 0 (RL R)) := fun A => ((Bl.new w 26 (RL R)).alloc _).range
  have HR0 : Hid ((w.alloc (.cells (RL R).toArray 26)).rangeAt w.heap.size 0 (RL R)) := (Bl.new w 26 (RL R)).range
  have HJ : Hid ((Tryz.prog.info? 26).map (·.size) = some (RL R).toArray.size) := by rw [List.size_toArray, RL_len h]; exact state_info
  have HI : Hid ((Tryz.prog.info? 26).map (·.size) = some (RL R).length) := by rw [RL_len h]; exact state_info
  have HO : Hid ((RL R).toArray.all (·.oneCell') = true) := RL_one R
  have HT : Hid (∀ A : Array Value, A.size = 30 → ((w.alloc (.cells (RL R).toArray 26)).alloc (.cells A 26)).there (w.heap.size + 1) 0 (RL R).toArray.size) := fun A hA => by
    have := there_new (w.alloc (.cells (RL R).toArray 26)) 26 A (RL R).toArray.size (by rw [List.size_toArray, RL_len h, hA])
    rw [World.size_alloc] at this
    exact this
  have HA : Hid (∀ x w, 0 ≤ x ∧ x < 4294967296 → Calls Tryz.prog 54 #[.int .u32 x] w fun e w' => e = .returned (.int .u32 (alW x)) ∧ w' = w) := fun x w hx => galign x w hx
  have HK : Hid (∀ v, SX w v w.heap.size (w.heap.size + 1) R R → SX w (keS v (w.heap.size + 1) R) w.heap.size (w.heap.size + 1) R (keR R)) := fun v hv => hv.kept (by omega) (by omega)
  have heq : ∀ w, (Op.equalIn 10000 26 (.agg (RL (keR R)).toArray) (.agg (RL R).toArray)).run Tryz.prog w = .ok (decide (keR R = R)) w := fun w => eqS _ _ (keR_len hl) hl w
  have HL : Hid ((Tryz.prog.info? 26).map (·.size) = some (RL (keR R)).length) := by
    unfold RL
    rw [List.length_map, keR_len hl]
    exact state_info
  have HM : Hid (∀ w, Calls Tryz.prog 53 #[.int .u32 (rg R 29)] w fun e w' => e = .returned (.int .i64 (mdR R)) ∧ w' = w) := fun w => gmode _ w (h.rng 29)
  have HB : Hid (∀ w, Calls Tryz.prog 40 #[.int .i64 (mdR R)] w fun e w' => e = .returned (.tuple #[.int .i64 (bkN (mdR R) : Nat), .bool o]) ∧ w' = w) := fun w => by
    have := gBank_at (mdR R) w
    rw [ho] at this
    exact this
  have HP : Hid (∀ w, Calls Tryz.prog 54 #[.int .u32 (rg R 28)] w fun e w' => e = .returned (.int .u32 (alW (rg R 28))) ∧ w' = w) := fun w => galign _ w (h.rng 28)
  have z29 : bits .and .u32 (rg R 29) 4026531999 = keW (rg R 29) := rfl
  have z23 : bits .and .u32 (rg R 23) 4026531999 = keW (rg R 23) := rfl
  have z24 : bits .and .u32 (rg R 24) 4026531999 = keW (rg R 24) := rfl
  have z25 : bits .and .u32 (rg R 25) 4026531999 = keW (rg R 25) := rfl
  have z26 : bits .and .u32 (rg R 26) 4026531999 = keW (rg R 26) := rfl
  have z27 : bits .and .u32 (rg R 27) 4026531999 = keW (rg R 27) := rfl
  have HC : Hid (∀ v, SX w v w.heap.size (w.heap.size + 1) R R → _) := fun v hv => hv.cells hl hl
  unfold keS at HK
  generalize keW (rg R 23) = k23 at *
  generalize keW (rg R 24) = k24 at *
  generalize keW (rg R 25) = k25 at *
  generalize keW (rg R 26) = k26 at *
  generalize keW (rg R 27) = k27 at *
  generalize keW (rg R 29) = k29 at *
  generalize alW (rg R 28) = k28 at *
  generalize rg R 23 = r23 at *
  generalize rg R 24 = r24 at *
  generalize rg R 25 = r25 at *
  generalize rg R 26 = r26 at *
  generalize rg R 27 = r27 at *
  generalize rg R 28 = r28 at *
  generalize rg R 29 = r29 at *
  generalize mdR R = md at *
  generalize bkN md = bk at *
  generalize decide (keR R = R) = D at *
  clear h ho HA
  go_enter Tryz.func37, Tryz.ntmps37
  go_wp2_with (first | (guard_target =~ wpList _ _ _ (Oper.mk (some 7) _ _ _ _ _ :: _) _ _; refine wpList_load_mid rfl _ _ rfl w.heap.size 0 rfl (RL R) _ HR0.out Tryz.underlying26 rfl HI.out ?_) | (guard_target =~ wpList _ _ _ (Oper.mk none (Op.store 26 _ _) _ _ _ _ :: _) _ _; refine wpList_store_mid rfl _ _ _ rfl (w.heap.size + 1) 0 (RL R).toArray rfl rfl (HT.out _ rfl) HJ.out HO.out ?_; generalize hW : World.setCells _ _ _ _ = w2; have HX := hidW (show SX w w2 w.heap.size (w.heap.size + 1) R R from hW ▸ HS.out _ rfl); clear hW; obtain ⟨⟨a28, a29⟩, ⟨b23, b24, b25, b26, b27, b28, b29⟩, f23, f24, f25, f26, f27, f28, f29⟩ := HC.out _ HX.out) | (go_at_call 54; refine (HP.out _).mono ?_; rintro e w' ⟨rfl, rfl⟩))
  refine wp_loop_rounds 6 ?_
  rw [rounds_succ]
  go_wp2
  rw [rounds_succ]
  go_wp2
  rw [rounds_succ]
  go_wp2
  rw [rounds_succ]
  go_wp2
  rw [rounds_succ]
  go_wp2
  have HZ := hidW (HK.out _ HX.out)
  rw [rounds_succ]
  clear HC HX HS HT HP HO HJ HR HR0
  cases o
  · go_wp2_with (first | (go_at_call 53; refine (HM.out _).mono ?_; rintro e w1 ⟨rfl, rfl⟩) | (go_at_call 40; refine (HB.out _).mono ?_; rintro e w1 ⟨rfl, rfl⟩))
    exact bodyPost_ret (v := .bool false) (by simp [results, Tryz.results37, go_sem]) rfl ⟨rfl, HZ.out.bel⟩
  · have hRa := hidW HZ.out.a.range
    have hRb := hidW HZ.out.b.range
    have HI2 : Hid ((Tryz.prog.info? 26).map (·.size) = some (RL (keR R)).length) := HL
    go_wp2_with (first | (go_at_call 53; refine (HM.out _).mono ?_; rintro e w1 ⟨rfl, rfl⟩) | (go_at_call 40; refine (HB.out _).mono ?_; rintro e w1 ⟨rfl, rfl⟩) | (guard_target =~ wpList _ _ _ (Oper.mk (some 38) _ _ _ _ _ :: _) _ _; generalize hW : World.setCell _ _ _ = w9 at hRa hRb HZ ⊢; clear hW; refine wpList_load_want (by rfl) _ _ rfl (w.heap.size + 1) 0 rfl _ _ hRb.out Tryz.underlying26 rfl HI2.out ?_) | (guard_target =~ wpList _ _ _ (Oper.mk (some 39) _ _ _ _ _ :: _) _ _; refine wpList_load_want (by rfl) _ _ rfl w.heap.size 0 rfl _ _ hRa.out Tryz.underlying26 rfl HI.out ?_))
    exact bodyPost_ret (v := .bool D) (by simp [results, Tryz.results37, go_sem]) rfl ⟨by simp, HZ.out.bel⟩
theorem gisState (w : World) (R : List Int) (h : ROk R) : Calls Tryz.prog 37 #[.agg (RL R).toArray] w fun e w' => e = .returned (.bool (isR R)) ∧ Below w.heap.size w w' := gisState_at w R h _ rfl
end Go.Proofs.YtilhceajhlaojaaGreatDoor
namespace Go.Proofs.YtilhceajhlaojaaGreatDoor
open Go.RowKit
set_option linter.unusedVariables false
set_option linter.unusedSimpArgs false
theorem RB.copy {w : World} {b : Nat} {t : TypeId} {R S : List Int} {E : List Value} (h : RB w b t R E) (hS : ROk S) : TA b w (w.setCells b 0 (RL S)) ∧ RB (w.setCells b 0 (RL S)) b t S E := by
  refine ⟨set_turn _ 0 w w (Turn.refl _ _), hS, ?_⟩
  have := setCells_bl (RL S) 0 w _ h.bl (by rw [List.length_append, RL_len hS, RL_len h.ok]; omega)
  rw [RL_len hS, List.take_zero, List.nil_append, Nat.zero_add, List.drop_append, RL_len h.ok, List.drop_of_length_le (by rw [RL_len h.ok]; exact Nat.le_refl _)] at this
  simpa using this
theorem RB.there {w : World} {b : Nat} {t : TypeId} {R : List Int} {E : List Value} (h : RB w b t R E) : w.there b 0 30 := by
  intro j hj
  rw [Nat.zero_add]
  exact ⟨by rw [h.rs.cell j hj]; rfl, h.bl.frozen j⟩
def nwR : List Int := [0, 0, 0, 0, 0, 0, 0, 0, 0, 0, 0, 0, 0, 0, 0, 0, 0, 0, 0, 0, 0, 0, 0, 0, 0, 0, 0, 0, 0, 147]
theorem nw_ok : ROk nwR := by
  refine ⟨rfl, fun k => ?_⟩
  by_cases h : k < 30
  · have : ∀ k, k < 30 → 0 ≤ rg nwR k ∧ rg nwR k < 4294967296 := by decide
    exact this k h
  · unfold rg
    rw [List.getD_eq_getElem?_getD, List.getElem?_eq_none (by show 30 ≤ k; omega)]
    decide
set_option maxRecDepth 100000 in
set_option maxHeartbeats 1000000 in
theorem gNew (w : World) : Calls Tryz.prog 24 #[] w fun e w' => e = .returned (.pointer (some ⟨w.heap.size, 0, none⟩)) ∧ Below w.heap.size w w' ∧ RB w' w.heap.size 86 nwR [.bool false] := by
  have HN : Hid (∀ o, Below w.heap.size w (w.alloc o)) := below_new w
  have HB : Hid (RB (w.alloc (.cells (RL nwR ++ [Value.bool false]).toArray 86)) w.heap.size 86 nwR [.bool false]) := hidW ⟨nw_ok, Bl.new w 86 (RL nwR ++ [Value.bool false])⟩
  go_enter Tryz.func24, Tryz.ntmps24
  go_wp2
  exact bodyPost_ret (v := .pointer (some ⟨w.heap.size, 0, none⟩)) (by simp [results, Tryz.results24, go_sem]) rfl ⟨rfl, HN.out _, HB.out⟩
set_option maxRecDepth 100000 in
set_option maxHeartbeats 1000000 in
theorem gLoad_no (w : World) (b : Nat) (R S : List Int) (E : List Value) (h : RB w b 86 R E) (hS : ROk S) (hO : isR S = false) : Calls Tryz.prog 22 #[.pointer (some ⟨b, 0, none⟩), .agg (RL S).toArray] w fun e w' => e = .returned (.int .i64 200) ∧ Below w.heap.size w w' := by
  have HI : Hid ((Tryz.prog.info? 26).map (·.size) = some (RL S).length) := by rw [RL_len hS]; exact state_info
  have HR0 : Hid ((w.alloc (.cells (RL S).toArray 26)).rangeAt w.heap.size 0 (RL S)) := (Bl.new w 26 (RL S)).range
  have HS : Hid (∀ w, Calls Tryz.prog 37 #[.agg (RL S).toArray] w fun e w' => e = .returned (.bool false) ∧ Below w.heap.size w w') := fun w => by
    have := gisState w S hS
    rw [hO] at this
    exact this
  have HN : Hid (∀ o, Below w.heap.size w (w.alloc o)) := below_new w
  clear h hS hO
  go_enter Tryz.func22, Tryz.ntmps22
  go_wp2_with (first | (guard_target =~ wpList _ _ _ (Oper.mk (some 5) _ _ _ _ _ :: _) _ _; refine wpList_load_mid rfl _ _ rfl w.heap.size 0 rfl (RL S) _ HR0.out Tryz.underlying26 rfl HI.out ?_) | (go_at_call 37; refine (HS.out _).mono ?_; rintro e w1 ⟨rfl, hb⟩; have HB := hidW (Below.step (HN.out _) hb); clear hb))
  exact bodyPost_ret (v := .int .i64 200) (by simp [results, Tryz.results22, go_sem]) rfl ⟨rfl, HB.out⟩
set_option maxRecDepth 100000 in
set_option maxHeartbeats 1000000 in
theorem gLoad_yes (w : World) (b : Nat) (R S : List Int) (E : List Value) (h : RB w b 86 R E) (hS : ROk S) (hO : isR S = true) : Calls Tryz.prog 22 #[.pointer (some ⟨b, 0, none⟩), .agg (RL S).toArray] w fun e w' => e = .returned (.int .i64 0) ∧ TA b w w' ∧ RB w' b 86 S E := by
  have HI : Hid ((Tryz.prog.info? 26).map (·.size) = some (RL S).length) := by rw [RL_len hS]; exact state_info
  have HJ : Hid ((Tryz.prog.info? 84).map (·.size) = some (RL S).toArray.size) := by rw [List.size_toArray, RL_len hS]; exact regs_info
  have HO : Hid ((RL S).toArray.all (·.oneCell') = true) := RL_one S
  have HR0 : Hid ((w.alloc (.cells (RL S).toArray 26)).rangeAt w.heap.size 0 (RL S)) := (Bl.new w 26 (RL S)).range
  have HS : Hid (∀ w, Calls Tryz.prog 37 #[.agg (RL S).toArray] w fun e w' => e = .returned (.bool true) ∧ Below w.heap.size w w') := fun w => by
    have := gisState w S hS
    rw [hO] at this
    exact this
  have HN : Hid (∀ w1, Below (w.alloc (.cells (RL S).toArray 26)).heap.size (w.alloc (.cells (RL S).toArray 26)) w1 → (w1.rangeAt w.heap.size 0 (RL S) ∧ w1.there b 0 (RL S).toArray.size) ∧ (TA b w (w1.setCells b 0 (RL S)) ∧ RB (w1.setCells b 0 (RL S)) b 86 S E)) := fun w1 hb => by
    have hb2 : Below w.heap.size w w1 := Below.step (below_new _ _) hb
    have h2 := h.below hb2
    refine ⟨⟨Is.range_keep HR0.out hb, ?_⟩, turn_of_below hb2 (h2.copy hS).1, (h2.copy hS).2⟩
    rw [List.size_toArray, RL_len hS]
    exact h2.there
  clear h hS hO
  go_enter Tryz.func22, Tryz.ntmps22
  go_wp2_with (first | (guard_target =~ wpList _ _ _ (Oper.mk (some 5) _ _ _ _ _ :: _) _ _; refine wpList_load_mid rfl _ _ rfl w.heap.size 0 rfl (RL S) _ HR0.out Tryz.underlying26 rfl HI.out ?_) | (go_at_call 37; refine (HS.out _).mono ?_; rintro e w1 ⟨rfl, hb⟩; have HX := hidW (HN.out _ hb); clear hb) | (guard_target =~ wpList _ _ _ (Oper.mk (some 9) _ _ _ _ _ :: _) _ _; refine wpList_load_mid rfl _ _ rfl w.heap.size 0 rfl (RL S) _ HX.out.1.1 Tryz.underlying26 rfl HI.out ?_) | (guard_target =~ wpList _ _ _ (Oper.mk none (Op.store 84 _ _) _ _ _ _ :: _) _ _; refine wpList_store_mid rfl _ _ _ rfl b 0 (RL S).toArray rfl rfl HX.out.1.2 HJ.out HO.out ?_; generalize hW : World.setCells _ _ _ _ = w2; have HZ := hidW (show TA b w w2 ∧ RB w2 b 86 S E from hW ▸ HX.out.2); clear hW))
  exact bodyPost_ret (v := .int .i64 0) (by simp [results, Tryz.results22, go_sem]) rfl ⟨rfl, HZ.out⟩
set_option maxRecDepth 100000 in
theorem gReturn_no (w : World) (b : Nat) (R : List Int) (E : List Value) (back : Int) (h : RB w b 86 R E) (hb : 0 ≤ back ∧ back < 4294967296) (hO : (bkO (rg R (23 + bkR R) % 32)).isSome = false) : Calls Tryz.prog 18 #[.pointer (some ⟨b, 0, none⟩), .int .u32 back] w fun e w' => e = .returned (.int .i64 201) ∧ Below w.heap.size w w' := by
  have HG : Hid (∀ w, RB w b 86 R E → Calls Tryz.prog 36 #[.pointer (some ⟨b, 0, none⟩), .int .i64 14] w fun e w' => e = .returned (.int .u32 (gtR R 14)) ∧ Below w.heap.size w w') := fun w h => gget w b R 14 h.rs (by decide)
  have HV : Hid (∀ w, RB w b 86 R E → Calls Tryz.prog 35 #[.pointer (some ⟨b, 0, none⟩), .int .u32 ((gtR R 14 - back) % 4294967296)] w fun e w' => e = .returned (.bool false) ∧ Below w.heap.size w w') := fun w h => gleave_no w b R _ h.rs hO
  have ez : IntKind.u32.wrap (gtR R 14 - back) = (gtR R 14 - back) % 4294967296 := by rw [IntKind.wrap_u32']
  have HX := hidW h.drew
  have HW : Hid (Below w.heap.size w w.drew) := below_drew (Below.refl _ _)
  generalize (gtR R 14 - back) % 4294967296 = z at *
  generalize gtR R 14 = y at *
  clear h hb hO
  go_enter Tryz.func18, Tryz.ntmps18
  go_wp2
  go_region_held3 (fun _ => True) (first | trivial) ((first | (go_at_call 36; refine (HG.out _ HX.out).mono ?_; rintro e w1 ⟨rfl, hb⟩; have HX := hidW (HX.out.below hb); have HW := hidW (Below.step HW.out hb); clear hb) | (go_at_call 35; refine (HV.out _ HX.out).mono ?_; rintro e w1 ⟨rfl, hb⟩; have HX := hidW (HX.out.below hb); have HW := hidW (Below.step HW.out hb); clear hb)))
  go_wp2
  exact bodyPost_ret (v := .int .i64 201) (by simp [results, Tryz.results18, go_sem]) rfl ⟨rfl, HW.out⟩
/-- Out of an exception. -/
def lvP (R : List Int) (to : Int) : List Int := (R.set 29 (rg R (23 + bkR R))).set 28 (alW to)
set_option maxRecDepth 100000 in
theorem gReturn_yes (w : World) (b : Nat) (R : List Int) (E : List Value) (back : Int) (h : RB w b 86 R E) (hb : 0 ≤ back ∧ back < 4294967296) (hO : (bkO (rg R (23 + bkR R) % 32)).isSome = true) : Calls Tryz.prog 18 #[.pointer (some ⟨b, 0, none⟩), .int .u32 back] w fun e w' => e = .returned (.int .i64 0) ∧ TA b w w' ∧ RB w' b 86 (lvP R ((gtR R 14 - back) % 4294967296)) E := by
  have HG : Hid (∀ w, RB w b 86 R E → Calls Tryz.prog 36 #[.pointer (some ⟨b, 0, none⟩), .int .i64 14] w fun e w' => e = .returned (.int .u32 (gtR R 14)) ∧ Below w.heap.size w w') := fun w h => gget w b R 14 h.rs (by decide)
  have HV : Hid (∀ w, RB w b 86 R E → Calls Tryz.prog 35 #[.pointer (some ⟨b, 0, none⟩), .int .u32 ((gtR R 14 - back) % 4294967296)] w fun e w' => e = .returned (.bool true) ∧ TA b w w' ∧ RB w' b 86 (lvP R ((gtR R 14 - back) % 4294967296)) E) := fun w h => gleave_yes w b _ R E _ (by omega) h hO
  have ez : IntKind.u32.wrap (gtR R 14 - back) = (gtR R 14 - back) % 4294967296 := by rw [IntKind.wrap_u32']
  have HX := hidW h.drew
  have HW : Hid (Below w.heap.size w w.drew) := below_drew (Below.refl _ _)
  generalize (gtR R 14 - back) % 4294967296 = z at *
  generalize gtR R 14 = y at *
  generalize lvP R z = R' at *
  clear h hb hO
  go_enter Tryz.func18, Tryz.ntmps18
  go_wp2
  go_region_held3 (fun _ => True) (first | trivial) ((first | (go_at_call 36; refine (HG.out _ HX.out).mono ?_; rintro e w1 ⟨rfl, hb⟩; have HX := hidW (HX.out.below hb); have HW := hidW (Below.step HW.out hb); clear hb) | (go_at_call 35; refine (HV.out _ HX.out).mono ?_; rintro e w1 ⟨rfl, ht, hb⟩; have HZ := hidW hb; have HT := hidW (turn_of_below HW.out ht); clear hb ht)))
  go_wp2
  exact bodyPost_ret (v := .int .i64 0) (by simp [results, Tryz.results18, go_sem]) rfl ⟨rfl, HT.out, HZ.out⟩
end Go.Proofs.YtilhceajhlaojaaGreatDoor
namespace Go.Proofs.YtilhceajhlaojaaGreatDoor.Mm
open Go.RowKit
set_option linter.unusedVariables false
variable {P : Program}

/-- A block of plain cells. -/
def RowAt (W : World) (g : Nat) (e : TypeId) (cur : List Value) : Prop := W.heap[g]? = some (.cells cur.toArray e (0, 0))

theorem RowAt.lt {W : World} {g : Nat} {e : TypeId} {cur : List Value} (h : RowAt W g e cur) : g < W.heap.size := (Array.getElem?_eq_some_iff.1 h).1

theorem RowAt.cell {W : World} {g : Nat} {e : TypeId} {cur : List Value} (h : RowAt W g e cur) (j : Nat) : W.cell? ⟨g, j, none⟩ = cur[j]? := by
  rw [cell_of_row W g j cur.toArray e (0, 0) h]; simp

theorem RowAt.frozen {W : World} {g : Nat} {e : TypeId} {cur : List Value} (h : RowAt W g e cur) (j : Nat) : W.frozen? ⟨g, j, none⟩ = false := by
  simp [World.frozen?, show W.heap[g]? = _ from h]

theorem RowAt.grown {W W' : World} {g : Nat} {e : TypeId} {cur : List Value} {row : Option Nat} (h : RowAt W g e cur) (hg : W.grownBy W' row) (hne : some g ≠ row) : RowAt W' g e cur := by
  show W'.heap[g]? = _
  rw [hg.block g h.lt hne]; exact h

theorem grownBy_refl (W : World) (r : Option Nat) : W.grownBy W r := ⟨rfl, rfl, rfl, Nat.le_refl _, fun _ _ _ => rfl⟩
theorem grownBy_trans {W W1 W2 : World} {r : Option Nat} (h : W.grownBy W1 r) (h2 : W1.grownBy W2 r) : W.grownBy W2 r :=
  ⟨h2.os.trans h.os, h2.tape.trans h.tape, h2.output.trans h.output, Nat.le_trans h.size h2.size, fun k hk hne => (h2.block k (Nat.lt_of_lt_of_le hk h.size) hne).trans (h.block k hk hne)⟩
/-- A row that was not there is none that has turned. -/
theorem grownBy_new {W W1 W2 : World} {r : Option Nat} {g : Nat} (h : W.grownBy W1 r) (h2 : W1.grownBy W2 (some g)) (hg : W.heap.size ≤ g) : W.grownBy W2 r :=
  ⟨h2.os.trans h.os, h2.tape.trans h.tape, h2.output.trans h.output, Nat.le_trans h.size h2.size, fun k hk hne => (h2.block k (Nat.lt_of_lt_of_le hk h.size) (fun e => by cases e; omega)).trans (h.block k hk hne)⟩
theorem grownBy_none {W W1 : World} (r : Option Nat) (h : W.grownBy W1 none) : W.grownBy W1 r :=
  ⟨h.os, h.tape, h.output, h.size, fun k hk _ => h.block k hk (by simp)⟩
theorem grownBy_drew (W : World) (r : Option Nat) : W.grownBy W.drew r := ⟨rfl, rfl, rfl, Nat.le_refl _, fun _ _ _ => rfl⟩
theorem grownBy_drewN (W : World) (r : Option Nat) (n : Nat) : W.grownBy (W.drewN n) r := ⟨rfl, rfl, rfl, Nat.le_refl _, fun _ _ _ => rfl⟩
theorem grownBy_setRow (W : World) (g : Nat) (c : Array Value) : W.grownBy (W.setRow g c) (some g) :=
  ⟨rfl, rfl, rfl, by simp [World.setRow], fun k hk hne => setRow_other W g k c (fun e => hne (by rw [e]))⟩

/-- copy into a row. -/
theorem copy_row (w : World) (dT sT elem : TypeId) (i : TypeInfo) (hu : P.underlying dT = some (.slice elem)) (hi : P.info? elem = some i) (g o dLen : Nat) (a : Addr) (sLen : Nat) (cur : List Value) (t : TypeId) (cs : List Value)
    (hg : RowAt w g t cur) (hn : cs.length = Nat.min sLen dLen * i.size)
    (hsrc : ∀ j v, cs[j]? = some v → w.cell? (a.add j) = some v) (hfit : o + cs.length ≤ cur.length) (h1 : ∀ v ∈ cs, v.oneCell' = true) :
    ∃ w', (∀ ty dc sc, (Builtin.copy_ #[dT, sT] ty #[.slice (some ⟨g, o, none⟩) dLen dc, .slice (some a) sLen sc]).run P w = .ok (goInt (Nat.min sLen dLen)) w') ∧
      RowAt w' g t (cur.take o ++ cs ++ cur.drop (o + cs.length)) ∧ w.grownBy w' (some g) := by
  have hl := run_loadCells_list (P := P) w a cs hsrc
  have hst := run_storeCells_at P g o t cs 0 cur.toArray w hg (by simpa using hfit) h1
  refine ⟨w.setRow g (cur.take o ++ cs ++ cur.drop (o + cs.length)).toArray, ?_, setRow_heap w g _ _ t _ hg, grownBy_setRow _ _ _⟩
  intro ty dc sc
  simp [Builtin.copy_, run_underlying hu, Builtin.lenOf, Builtin.firstCells, sizeOf, typeInfo, hi, ← hn, hl, hst]

theorem copy_none (w : World) (dT sT elem : TypeId) (i : TypeInfo) (hu : P.underlying dT = some (.slice elem)) (hi : P.info? elem = some i) (a : Addr) (dLen : Nat) :
    ∀ ty dc, (Builtin.copy_ #[dT, sT] ty #[.slice (some a) dLen dc, .slice none 0 0]).run P w = .ok (goInt 0) w := by
  intro ty dc
  simp [Builtin.copy_, run_underlying hu, Builtin.lenOf, Builtin.firstCells, sizeOf, typeInfo, hi, storeCells]

theorem zeroCells_list (z : Array Value) (n : Nat) : (Builtin.zeroCells z n).toList.length = n * z.size := by
  rw [Array.length_toList, size_zeroCells]

/-- clear of a piece of a row. -/
theorem clear_row (w : World) (dT elem : TypeId) (i : TypeInfo) (z : Value) (hu : P.underlying dT = some (.slice elem)) (hi : P.info? elem = some i) (hz : i.zero = some z) (g o n : Nat) (cur : List Value) (t : TypeId)
    (hg : RowAt w g t cur) (hfit : o + n * z.cells.size ≤ cur.length) (h1 : ∀ v ∈ (Builtin.zeroCells z.cells n).toList, v.oneCell' = true) (h0 : 0 < n) :
    ∃ w', (∀ ty c, (Builtin.clear_ #[dT] ty #[.slice (some ⟨g, o, none⟩) n c]).run P w = .ok (.tuple #[]) w') ∧
      RowAt w' g t (cur.take o ++ (Builtin.zeroCells z.cells n).toList ++ cur.drop (o + n * z.cells.size)) ∧ w.grownBy w' (some g) := by
  have hst := run_storeCells_at P g o t (Builtin.zeroCells z.cells n).toList 0 cur.toArray w hg (by rw [zeroCells_list]; simpa using hfit) h1
  rw [zeroCells_list] at hst
  refine ⟨w.setRow g (cur.take o ++ (Builtin.zeroCells z.cells n).toList ++ cur.drop (o + n * z.cells.size)).toArray, ?_, setRow_heap w g _ _ t _ hg, grownBy_setRow _ _ _⟩
  intro ty c
  cases n with
  | zero => omega
  | succ n => simp [Builtin.clear_, run_underlying hu, zeroValue, typeInfo, hi, hz, hst]

theorem clear_none (w : World) (dT : TypeId) (elem : TypeId) (hu : P.underlying dT = some (.slice elem)) (a : Option Addr) :
    ∀ ty c, (Builtin.clear_ #[dT] ty #[.slice a 0 c]).run P w = .ok (.tuple #[]) w := by
  intro ty c
  cases a <;> simp [Builtin.clear_, run_underlying hu]

/-- append onto a row with room. -/
theorem append_room (w : World) (t e : TypeId) (i : TypeInfo) (ht : P.underlying t = some (.slice e)) (hi : P.info? e = some i) (g sLen sCap : Nat) (cur : List Value) (hg : RowAt w g e cur)
    (x : Value) (m : Nat) (news : List Value) (hs : Src P i.size t x m news w) (hroom : sLen + m ≤ sCap) (hfit : sLen * i.size + news.length ≤ cur.length) :
    ∃ w', (∀ ty, (Builtin.append_ #[t, t] ty #[.slice (some ⟨g, 0, none⟩) sLen sCap, x]).run P w = .ok (.slice (some ⟨g, 0, none⟩) (sLen + m) sCap) w') ∧
      RowAt w' g e (cur.take (sLen * i.size) ++ news ++ cur.drop (sLen * i.size + news.length)) ∧ w.grownBy w' (some g) := by
  have hst := run_storeCells_at P g (sLen * i.size) e news 0 cur.toArray w hg (by simpa using hfit) hs.one
  simp only [Nat.add_zero] at hst
  refine ⟨w.setRow g (cur.take (sLen * i.size) ++ news ++ cur.drop (sLen * i.size + news.length)).toArray, ?_, setRow_heap w g _ _ e _ hg, grownBy_setRow _ _ _⟩
  intro ty
  simp [Builtin.append_, run_underlying ht, sizeOf, typeInfo, hi, hs.len, hroom, hs.cells, Addr.add_lit, hst]

/-- append without room: a new row. -/
theorem append_away (w : World) (t e : TypeId) (i : TypeInfo) (z : Value) (ht : P.underlying t = some (.slice e)) (hi : P.info? e = some i) (hz : i.zero = some z) (hzs : z.cells.size = i.size)
    (base : Option Addr) (sLen sCap : Nat) (olds : List Value) (hol : olds.length = sLen * i.size) (hold : (Builtin.firstCells i.size sLen (.slice base sLen sCap)).run P w.drew = .ok olds.toArray w.drew)
    (x : Value) (m : Nat) (news : List Value) (hs : Src P i.size t x m news w) (hroom : sCap < sLen + m) (h63 : sLen + m ≤ maxLen) (hby : (sLen + m) * i.bytes ≤ 140737488355328) :
    ∃ w' cap rest, (∀ ty, (Builtin.append_ #[t, t] ty #[.slice base sLen sCap, x]).run P w = .ok (.slice (some ⟨w.heap.size, 0, none⟩) (sLen + m) cap) w') ∧
      RowAt w' w.heap.size e (olds ++ news ++ rest) ∧ rest.length = (cap - (sLen + m)) * i.size ∧ sLen + m ≤ cap ∧ cap ≤ maxLen ∧ w.grownBy w' none ∧ w'.heap.size = w.heap.size + 1 := by
  have hr := fun ty => run_append_grow_src (P := P) w t t ty e i z ht hi hz base sLen sCap olds hold x m news hs hroom (by unfold maxLen at h63; omega) (growslice_fits hroom hby)
  refine ⟨_, _, (Builtin.zeroCells z.cells (grownCap w (sLen + m) sCap e - (sLen + m))).toList, hr, ?_, ?_, grownCap_ge _ _ _ _, grownCap_le_maxLen _ _ _ _ h63, ?_, ?_⟩
  · show _ = _
    have := heap_alloc_new w.drew (.cells ((olds ++ news).toArray ++ Builtin.zeroCells z.cells (grownCap w (sLen + m) sCap e - (sLen + m))) e)
    rw [show w.heap.size = w.drew.heap.size from rfl, this]
    congr 2
    apply Array.ext'
    simp
  · rw [zeroCells_list, hzs]
  · exact grownBy_trans (grownBy_drew w none) (World.grownBy_alloc _ _ _)
  · simp

/-- append(s[:i], make(S, n)...) without room: a new row. -/
theorem append_zeros (w : World) (t tn e : TypeId) (i : TypeInfo) (z : Value) (k kn : IntKind) (ht : P.underlying t = some (.slice e)) (htn : P.underlying tn = some (.int kn)) (hi : P.info? e = some i) (hz : i.zero = some z) (hzs : z.cells.size = i.size)
    (hpos : 0 < i.size) (a : Addr) (sLen sCap : Nat) (olds : List Value) (hol : olds.length = sLen * i.size) (hcell : ∀ j v, olds[j]? = some v → w.cell? (a.add j) = some v)
    (m : Nat) (h0 : 0 < m) (hroom : sCap < sLen + m) (h63 : sLen + m ≤ maxLen) (hby : (sLen + m) * i.bytes ≤ 140737488355328) (nn : Int) (hnn : nn = (m : Int)) :
    ∃ w' cap rest, (∀ ty, (Builtin.append_ #[t, tn] ty #[.slice (some a) sLen sCap, .int k nn]).run P w = .ok (.slice (some ⟨w.heap.size, 0, none⟩) (sLen + m) cap) w') ∧
      RowAt w' w.heap.size e (olds ++ rest) ∧ rest.length = (cap - sLen) * i.size ∧ sLen + m ≤ cap ∧ cap ≤ maxLen ∧ w.grownBy w' none ∧ w'.heap.size = w.heap.size + 1 := by
  subst hnn
  have h63' : sLen + m ≤ 9223372036854775807 := by unfold maxLen at h63; omega
  have hw : IntKind.i64.wrap (m : Int) = m := by rw [IntKind.wrap_i64]; omega
  have hneg : ¬ ((m : Int) < 0) := by omega
  have hmb : m * i.bytes ≤ 140737488355328 := Nat.le_trans (Nat.mul_le_mul_right _ (by omega)) hby
  have h48i : ¬ (281474976710656 < (m : Int) * (i.bytes : Int)) := by rw [← Int.natCast_mul]; omega
  have hns : ¬ (m * i.size = 0) := Nat.mul_ne_zero (by omega) (by omega)
  have hn : ¬ (sLen + m ≤ sCap) := by omega
  have h63i : ¬ (9223372036854775807 < ((sLen : Int) + (m : Int))) := by omega
  have h48' : ¬ (281474976710656 < Builtin.nextslicecap (sLen + m) sCap * i.bytes) := by have := growslice_fits hroom hby; omega
  have hold := run_firstCells_some (P := P) w.drew i.size sLen a sLen sCap olds hol (by simpa using hcell)
  have hgc := grownCap_ge w (sLen + m) sCap e
  refine ⟨w.drew.alloc (.cells ((olds ++ ((Builtin.zeroCells z.cells m).toList ++ (Builtin.zeroCells z.cells (grownCap w (sLen + m) sCap e - (sLen + m))).toList)).toArray) e), grownCap w (sLen + m) sCap e, (Builtin.zeroCells z.cells m).toList ++ (Builtin.zeroCells z.cells (grownCap w (sLen + m) sCap e - (sLen + m))).toList, ?_, ?_, ?_, hgc, grownCap_le_maxLen _ _ _ _ h63, ?_, ?_⟩
  · intro ty
    simp [Builtin.append_, run_underlying ht, run_underlying htn, sizeOf, typeInfo, zeroValue, hi, hz, asInt, asIntOf, hw, hneg, h48i, hn, h63i, h48', Question.forced, hold, newRow, grownCap]
    rw [if_neg hns]
    congr 3
    apply Array.ext'
    simp
  · show _ = _
    have := heap_alloc_new w.drew (.cells ((olds ++ ((Builtin.zeroCells z.cells m).toList ++ (Builtin.zeroCells z.cells (grownCap w (sLen + m) sCap e - (sLen + m))).toList)).toArray) e)
    rw [show w.heap.size = w.drew.heap.size from rfl, this]
  · rw [List.length_append, zeroCells_list, zeroCells_list, hzs, ← Nat.add_mul]
    congr 1
    omega
  · exact grownBy_trans (grownBy_drew w none) (World.grownBy_alloc _ _ _)
  · simp

/-- The operations where their runs are known by equations. -/
theorem wpl_copy (w : World) {ops : Array Oper} {rest : List Oper} {o : Oper} {a : Act} {Q : Exit → Act → World → Prop} (hgd : o.guard = none) (d s : Operand) (t t' : TypeId)
    (ho : o.op = .call { callee := .builtin .copy, args := #[d, s], argTypes := #[t, t'] }) (v u : Value) (hd : a.eval d = v) (hs : a.eval s = u) {v' : Value} {w' : World}
    (hr : (Builtin.copy_ #[t, t'] o.type #[v, u]).run P w = .ok v' w') (h : wpList P ops Q rest (a.put o.dst v') w') : wpList P ops Q (o :: rest) a w := by
  refine wpList_plain hgd fun _ hK => ?_
  unfold Oper.wp execOp
  simp only [ho, resolve, invoke, builtin, Sem.run_bind, Sem.run_pure, Result.andThen_ok, List.map_toArray, List.map_cons, List.map_nil, hd, hs, hr]
  exact hK _ _ h

theorem step_copy {ops : Array Oper} {o : Oper} {a : Act} {w : World} {K : Act → World → Prop} {Q : Exit → Act → World → Prop} {E : Prop}
    (hg : o.guard = none) (d x : Operand) (dT sT : TypeId) (hop : o.op = Op.call { callee := Callee.builtin Builtin.copy, args := #[d, x], argTypes := #[dT, sT] })
    (v u : Value) (hd : a.eval d = v) (hx : a.eval x = u) {v' : Value} {w' : World} (hr : (Builtin.copy_ #[dT, sT] o.type #[v, u]).run P w = .ok v' w') (hK : K (a.put o.dst v') w') :
    if Region.wanted o (yielded ops a.tmps) = true then Oper.wp P o a w K Q else E := by
  have hw : Region.wanted o (yielded ops a.tmps) = true := by simp [Region.wanted, hg]
  rw [if_pos hw]
  unfold Oper.wp
  simp [execOp, hop, resolve, invoke, builtin, hd, hx, hr, Result.andThen]
  exact hK

theorem wpl_clear (w : World) {ops : Array Oper} {rest : List Oper} {o : Oper} {a : Act} {Q : Exit → Act → World → Prop} (hgd : o.guard = none) (d : Operand) (t : TypeId)
    (ho : o.op = .call { callee := .builtin .clear, args := #[d], argTypes := #[t] }) (v : Value) (hd : a.eval d = v) {v' : Value} {w' : World}
    (hr : (Builtin.clear_ #[t] o.type #[v]).run P w = .ok v' w') (h : wpList P ops Q rest (a.put o.dst v') w') : wpList P ops Q (o :: rest) a w := by
  refine wpList_plain hgd fun _ hK => ?_
  unfold Oper.wp execOp
  simp only [ho, resolve, invoke, builtin, Sem.run_bind, Sem.run_pure, Result.andThen_ok, List.map_toArray, List.map_cons, List.map_nil, hd, hr]
  exact hK _ _ h
end Go.Proofs.YtilhceajhlaojaaGreatDoor.Mm
namespace Go.Proofs.YtilhceajhlaojaaGreatDoor.Mm
open Go.RowKit
set_option linter.unusedVariables false
variable {P : Program}

theorem own_of_row {W : World} {lo g n cap size : Nat} {e : TypeId} {cur xs : List Value} (hg : RowAt W g e cur) (hlo : lo ≤ g) (hn : n ≤ cap) (hc : cap ≤ maxLen) (hl : cur.length = cap * size) (hx : cur.take (n * size) = xs) :
    W.ownsRow lo e size (.slice (some ⟨g, 0, none⟩) n cap) n xs := by
  refine ⟨?_, .inr ⟨g, cap, cur.toArray, rfl, hlo, hg, hn, hc, by simpa using hl, by simpa using hx⟩⟩
  rw [← hx, List.length_take, hl, Nat.min_eq_left (Nat.mul_le_mul_right _ hn)]

theorem row_of_own {W : World} {lo n size : Nat} {e : TypeId} {v : Value} {xs : List Value} (h : W.ownsRow lo e size v n xs) :
    (v = .slice none 0 0 ∧ n = 0 ∧ xs = []) ∨ ∃ g cap cur, v = .slice (some ⟨g, 0, none⟩) n cap ∧ lo ≤ g ∧ RowAt W g e cur ∧ n ≤ cap ∧ cap ≤ maxLen ∧ cur.length = cap * size ∧ cur.take (n * size) = xs := by
  obtain ⟨h1, h2⟩ := h
  rcases h2 with ⟨rfl, rfl⟩ | ⟨g, cap, cur, rfl, a, b, c, d, e, f⟩
  · exact .inl ⟨rfl, rfl, List.eq_nil_of_length_eq_zero (by simpa using h1)⟩
  · exact .inr ⟨g, cap, cur.toList, rfl, a, by simpa [RowAt] using b, c, d, by simpa using e, f⟩

theorem src_of_own {w : World} {lo m size : Nat} {t e e' : TypeId} {v : Value} {vs : List Value} (ht : P.underlying t = some (.slice e')) (h : w.ownsRow lo e size v m vs) (h1 : ∀ u ∈ vs, u.oneCell' = true) : Src P size t v m vs w := by
  have hlen := h.1
  rcases row_of_own h with ⟨rfl, rfl, rfl⟩ | ⟨g, cap, cur, rfl, a, b, c, d, e1, f⟩
  · exact Src.ofNil w ht 0
  · exact Src.ofSlice w ht ⟨g, 0, none⟩ m cap vs hlen (fun j u hj => h.cells rfl j u hj) h1

theorem own_block_new {W : World} {lo n size : Nat} {e : TypeId} {v : Value} {xs : List Value} (h : W.ownsRow lo e size v n xs) {g : Nat} (hg : v.ownBlock = some g) : lo ≤ g ∧ g < W.heap.size := h.lt g hg

/-- append onto what is owned. -/
theorem append_any (w : World) (t e : TypeId) (i : TypeInfo) (z : Value) (ht : P.underlying t = some (.slice e)) (hi : P.info? e = some i) (hz : i.zero = some z) (hzs : z.cells.size = i.size)
    (lo n m : Nat) (s x : Value) (xs news : List Value) (hs : w.ownsRow lo e i.size s n xs) (hx : Src P i.size t x m news w) (hlo : lo ≤ w.heap.size) (h63 : n + m ≤ maxLen) (hby : (n + m) * i.bytes ≤ 140737488355328) :
    ∃ v' w', (∀ ty, (Builtin.append_ #[t, t] ty #[s, x]).run P w = .ok v' w') ∧ w'.ownsRow lo e i.size v' (n + m) (xs ++ news) ∧ w.grownBy w' s.ownBlock ∧ (∀ g, v'.ownBlock = some g → s.ownBlock = some g ∨ w.heap.size ≤ g) := by
  have hnl := hx.newsLen
  rcases row_of_own hs with ⟨rfl, rfl, rfl⟩ | ⟨g, cap, cur, rfl, a, b, c, d, e1, f⟩
  · by_cases h0 : m = 0
    · subst h0
      obtain rfl : news = [] := List.eq_nil_of_length_eq_zero (by simpa using hnl)
      refine ⟨.slice none 0 0, w, ?_, World.ownsRow_nil _ _ _ _, grownBy_refl _ _, fun g hg => by cases hg⟩
      intro ty
      simp [Builtin.append_, run_underlying ht, sizeOf, typeInfo, hi, hx.len, hx.cells]
    · obtain ⟨w', cap, rest, h1, h2, h3, h4, h5, h6, h7⟩ := append_away w t e i z ht hi hz hzs none 0 0 [] (by simp) (run_firstCells_none w.drew i.size 0 0 0) x m news hx (by omega) (by omega) hby
      refine ⟨_, w', h1, own_of_row h2 hlo h4 h5 ?_ ?_, grownBy_none _ h6, fun g hg => .inr (by cases hg; exact Nat.le_refl _)⟩
      · rw [List.length_append, List.length_append, h3, hnl, List.length_nil, Nat.zero_add, ← Nat.add_mul]; congr 1; omega
      · rw [List.take_append_of_le_length (by simp [hnl])]
        exact List.take_of_length_le (by simp [hnl])
  · by_cases h0 : n + m ≤ cap
    · have hfit : n * i.size + news.length ≤ cur.length := by rw [hnl, e1, ← Nat.add_mul]; exact Nat.mul_le_mul_right _ h0
      obtain ⟨w', h1, h2, h3⟩ := append_room w t e i ht hi g n cap cur b x m news hx h0 hfit
      refine ⟨_, w', h1, own_of_row h2 a h0 d ?_ ?_, h3, fun g hg => .inl hg⟩
      · rw [List.length_append, List.length_append, List.length_take, List.length_drop, ← e1]; omega
      · rw [f, List.take_append_of_le_length (by rw [List.length_append, hs.1, hnl, Nat.add_mul]; exact Nat.le_refl _)]
        exact List.take_of_length_le (by rw [List.length_append, hs.1, hnl, Nat.add_mul]; exact Nat.le_refl _)
    · obtain ⟨w', cap', rest, h1, h2, h3, h4, h5, h6, h7⟩ := append_away w t e i z ht hi hz hzs (some ⟨g, 0, none⟩) n cap xs hs.1
        (run_firstCells_some w.drew i.size n ⟨g, 0, none⟩ n cap xs hs.1 (fun j u hj => hs.cells rfl j u hj)) x m news hx (by omega) h63 hby
      refine ⟨_, w', h1, own_of_row h2 (by omega) h4 h5 ?_ ?_, grownBy_none _ h6, fun g hg => .inr (by cases hg; exact Nat.le_refl _)⟩
      · rw [List.length_append, List.length_append, h3, hnl, hs.1, ← Nat.add_mul, ← Nat.add_mul]; congr 1; omega
      · rw [List.take_append_of_le_length (by rw [List.length_append, hs.1, hnl, Nat.add_mul]; exact Nat.le_refl _)]
        exact List.take_of_length_le (by rw [List.length_append, hs.1, hnl, Nat.add_mul]; exact Nat.le_refl _)
theorem cat_len {α : Type} (enc : α → List Value) (K : Nat) (hK : ∀ x, (enc x).length = K) (L : List α) : (L.flatMap enc).length = L.length * K := by
  induction L with
  | nil => simp
  | cons s r ih => rw [List.flatMap_cons, List.length_append, hK, ih, List.length_cons, Nat.add_mul, Nat.one_mul, Nat.add_comm]
theorem cat_at {α : Type} (enc : α → List Value) (K : Nat) (hK : ∀ x, (enc x).length = K) {L : List α} {i : Nat} {s : α} (h : L[i]? = some s) (j : Nat) (hj : j < K) : (L.flatMap enc)[i * K + j]? = (enc s)[j]? := by
  induction L generalizing i with
  | nil => simp at h
  | cons t r ih =>
    rw [List.flatMap_cons]
    cases i with
    | zero =>
      simp at h
      subst h
      rw [Nat.zero_mul, Nat.zero_add, List.getElem?_append_left (by rw [hK]; exact hj)]
    | succ i =>
      rw [List.getElem?_append_right (by rw [hK, Nat.add_mul]; omega), hK, show (i + 1) * K + j - K = i * K + j by rw [Nat.add_mul]; omega]
      exact ih (by simpa using h)
end Go.Proofs.YtilhceajhlaojaaGreatDoor.Mm
namespace Go.Proofs.YtilhceajhlaojaaGreatDoor
open Go.RowKit
set_option linter.unusedVariables false
set_option linter.unusedSimpArgs false
/-- A hole, an asking. -/
structure Ho where
  lo : Int
  hi : Int
  of_ : Int
  kind : Int
  once : Bool
structure Ak where
  kind : Int
  va : Int
  bytes : Int
  value : Int
  priv : Bool
  t0 : Int
  t1 : Int
  t2 : Int
  t3 : Int
  v : Int
  cop : Int
  user : Bool
def ptL (p : Int × Int) : List Value := [.int .u32 p.1, .int .u32 p.2]
def hoL (h : Ho) : List Value := [.int .u32 h.lo, .int .u32 h.hi, .int .i64 h.of_, .int .i64 h.kind, .bool h.once]
def acL (a : Ak) : List Value := [.int .i64 a.kind, .int .u32 a.va, .int .i64 a.bytes, .int .u32 a.value, .bool a.priv]
def akL (a : Ak) : List Value := [.int .i64 a.kind, .int .u32 a.va, .int .i64 a.bytes, .int .u32 a.value, .bool a.priv, .int .i64 a.t0, .int .i64 a.t1, .int .i64 a.t2, .int .i64 a.t3, .int .u32 a.v, .int .i64 a.cop, .bool a.user]
structure Ln where
  puts : List (Int × Int)
  holes : List Ho
  asked : List Ak
  cop : Int
/-- A line in memory: its block, its three lists, each in a block of its own, or none. -/
structure LX (w : World) (lo lb : Nat) (pv hv av : Value) (l : Ln) : Prop where
  bl : Bl w lb 58 [pv, hv, av, .int .u32 l.cop]
  p : w.ownsRow lo 45 2 pv l.puts.length (l.puts.flatMap ptL)
  h : w.ownsRow lo 192 5 hv l.holes.length (l.holes.flatMap hoL)
  a : w.ownsRow lo 67 12 av l.asked.length (l.asked.flatMap akL)
  low : lo ≤ lb
  pl : pv.ownBlock ≠ some lb
  hl : hv.ownBlock ≠ some lb
  al : av.ownBlock ≠ some lb
  ph : ∀ g, pv.ownBlock = some g → hv.ownBlock ≠ some g
  pa : ∀ g, pv.ownBlock = some g → av.ownBlock ≠ some g
  ha : ∀ g, hv.ownBlock = some g → av.ownBlock ≠ some g
/-- What a line has of memory. -/
def LO (lb : Nat) (pv hv av : Value) (b : Nat) : Prop := b = lb ∨ pv.ownBlock = some b ∨ hv.ownBlock = some b ∨ av.ownBlock = some b
theorem own_turn {S : Nat → Prop} {w w' : World} {lo n size : Nat} {e : TypeId} {v : Value} {xs : List Value} (h : w.ownsRow lo e size v n xs) (ht : Turn S w w') (hn : ∀ g, v.ownBlock = some g → ¬ S g) : w'.ownsRow lo e size v n xs := by
  obtain ⟨hl, h⟩ := h
  refine ⟨hl, ?_⟩
  rcases h with ⟨h1, h2⟩ | ⟨g, cap, cur, h1, h2, h3, h4, h5, h6, h7⟩
  · exact .inl ⟨h1, h2⟩
  · refine .inr ⟨g, cap, cur, h1, h2, ?_, h4, h5, h6, h7⟩
    rw [ht.block g (Array.getElem?_eq_some_iff.1 h3).1 (hn g (by rw [h1]; rfl))]
    exact h3
theorem LX.turn {S : Nat → Prop} {w w' : World} {lo lb : Nat} {pv hv av : Value} {l : Ln} (h : LX w lo lb pv hv av l) (ht : Turn S w w') (hn : ∀ b, LO lb pv hv av b → ¬ S b) : LX w' lo lb pv hv av l :=
  ⟨h.bl.turn ht (hn _ (.inl rfl)), own_turn h.p ht (fun g hg => hn g (.inr (.inl hg))), own_turn h.h ht (fun g hg => hn g (.inr (.inr (.inl hg)))), own_turn h.a ht (fun g hg => hn g (.inr (.inr (.inr hg)))), h.low, h.pl, h.hl, h.al, h.ph, h.pa, h.ha⟩
theorem LX.below {w w' : World} {lo lb : Nat} {pv hv av : Value} {l : Ln} (h : LX w lo lb pv hv av l) (hb : Below w.heap.size w w') : LX w' lo lb pv hv av l :=
  h.turn (Turn.below (S := fun _ => False) hb) (fun _ _ x => x)
theorem LX.lt {w : World} {lo lb : Nat} {pv hv av : Value} {l : Ln} (h : LX w lo lb pv hv av l) {b : Nat} (hb : LO lb pv hv av b) : b < w.heap.size := by
  rcases hb with rfl | hb | hb | hb
  · exact h.bl.lt
  · exact (Mm.own_block_new h.p hb).2
  · exact (Mm.own_block_new h.h hb).2
  · exact (Mm.own_block_new h.a hb).2
theorem LX.ge {w : World} {lo lb : Nat} {pv hv av : Value} {l : Ln} (h : LX w lo lb pv hv av l) {b : Nat} (hb : LO lb pv hv av b) : lo ≤ b := by
  rcases hb with rfl | hb | hb | hb
  · exact h.low
  · exact (Mm.own_block_new h.p hb).1
  · exact (Mm.own_block_new h.h hb).1
  · exact (Mm.own_block_new h.a hb).1
theorem LX.cells {w : World} {lo lb : Nat} {pv hv av : Value} {l : Ln} (h : LX w lo lb pv hv av l) : (w.cell? ⟨lb, 0, none⟩ = some pv ∧ w.cell? ⟨lb, 1, none⟩ = some hv ∧ w.cell? ⟨lb, 2, none⟩ = some av ∧ w.cell? ⟨lb, 3, none⟩ = some (.int .u32 l.cop)) ∧ (w.frozen? ⟨lb, 0, none⟩ = false ∧ w.frozen? ⟨lb, 1, none⟩ = false ∧ w.frozen? ⟨lb, 2, none⟩ = false ∧ w.frozen? ⟨lb, 3, none⟩ = false) :=
  ⟨⟨h.bl.cell 0, h.bl.cell 1, h.bl.cell 2, h.bl.cell 3⟩, h.bl.frozen 0, h.bl.frozen 1, h.bl.frozen 2, h.bl.frozen 3⟩
/-- The word that stands at an address: the last one. -/
def wdP : List (Int × Int) → Int → Int
  | [], _ => 0
  | p :: l, a => if l.any (fun q => q.1 - q.1 % 4 == a) then wdP l a else if p.1 - p.1 % 4 = a then p.2 else 0
/-- The last k of a list that are asked from behind. -/
def wdK (l : List (Int × Int)) (a : Int) : Nat → Int
  | 0 => 0
  | k + 1 => match l[k]? with
    | some p => if p.1 - p.1 % 4 = a then p.2 else wdK l a k
    | none => wdK l a k
theorem wdK_none {l : List (Int × Int)} {a : Int} (k : Nat) (h : ∀ j p, j < k → l[j]? = some p → ¬ p.1 - p.1 % 4 = a) : wdK l a k = 0 := by
  induction k with
  | zero => rfl
  | succ k ih =>
    rw [wdK]
    have := ih (fun j p hj hp => h j p (by omega) hp)
    cases hk : l[k]? with
    | none => exact this
    | some p =>
      show (if _ then _ else _) = _
      rw [if_neg (h k p (by omega) hk)]
      exact this
/-- The numbers of a line. -/
structure LOk (l : Ln) : Prop where
  puts : ∀ p ∈ l.puts, (0 ≤ p.1 ∧ p.1 < 4294967296) ∧ (0 ≤ p.2 ∧ p.2 < 4294967296)
  cop : 0 ≤ l.cop ∧ l.cop < 4294967296
theorem put_cells {w : World} {lo : Nat} {pv : Value} {L : List (Int × Int)} (h : w.ownsRow lo 45 2 pv L.length (L.flatMap ptL)) {k : Nat} {p : Int × Int} (hk : L[k]? = some p) :
    ∃ g cap, pv = .slice (some ⟨g, 0, none⟩) L.length cap ∧ w.cell? ⟨g, k * 2, none⟩ = some (.int .u32 p.1) ∧ w.cell? ⟨g, k * 2 + 1, none⟩ = some (.int .u32 p.2) := by
  have hlt : k < L.length := (List.getElem?_eq_some_iff.1 hk).1
  rcases Mm.row_of_own h with ⟨_, h2, _⟩ | ⟨g, cap, cur, rfl, a, b, c, d, e1, f⟩
  · omega
  · have hc : ∀ j, j < 2 → w.cell? ⟨g, k * 2 + j, none⟩ = (ptL p)[j]? := fun j hj => by
      have h1 := Mm.cat_at ptL 2 (fun _ => rfl) hk j hj
      rw [b.cell]
      rw [← f] at h1
      rw [List.getElem?_take_of_lt (by omega)] at h1
      exact h1
    exact ⟨g, cap, rfl, hc 0 (by decide), hc 1 (by decide)⟩
end Go.Proofs.YtilhceajhlaojaaGreatDoor
namespace Go.Proofs.YtilhceajhlaojaaGreatDoor
open Go.RowKit
set_option linter.unusedVariables false
set_option linter.unusedSimpArgs false
theorem LX.drewN {w : World} {lo lb : Nat} {pv hv av : Value} {l : Ln} (h : LX w lo lb pv hv av l) (n : Nat) : LX (w.drewN n) lo lb pv hv av l := ⟨h.bl, h.p, h.h, h.a, h.low, h.pl, h.hl, h.al, h.ph, h.pa, h.ha⟩
theorem LX.drew {w : World} {lo lb : Nat} {pv hv av : Value} {l : Ln} (h : LX w lo lb pv hv av l) : LX w.drew lo lb pv hv av l := ⟨h.bl, h.p, h.h, h.a, h.low, h.pl, h.hl, h.al, h.ph, h.pa, h.ha⟩
theorem LX.lenP {w : World} {lo lb : Nat} {pv hv av : Value} {l : Ln} (h : LX w lo lb pv hv av l) : ∃ a c, pv = .slice a l.puts.length c ∧ l.puts.length ≤ 9223372036854775807 := by
  rcases Mm.row_of_own h.p with ⟨rfl, h2, _⟩ | ⟨g, cap, cur, rfl, _, _, h4, h5, _⟩
  · exact ⟨none, 0, by rw [h2], by omega⟩
  · refine ⟨_, cap, rfl, ?_⟩
    have : maxLen = 9223372036854775807 := rfl
    omega
set_option maxRecDepth 100000 in
set_option maxHeartbeats 1000000 in
theorem gWord (w : World) (lo lb : Nat) (pv hv av : Value) (l : Ln) (at_ : Int) (h : LX w lo lb pv hv av l) (ho : LOk l) : Calls Tryz.prog 20 #[.pointer (some ⟨lb, 0, none⟩), .int .u32 at_] w fun e w' => e = .returned (.int .u32 (wdK l.puts at_ l.puts.length)) ∧ Below w.heap.size w w' := by
  obtain ⟨sa, sc, hpv, hlen⟩ := h.lenP
  obtain ⟨⟨c0, _, _, _⟩, _⟩ := h.cells
  have e1 : IntKind.i64.wrap ((l.puts.length : Int) - 1) = (l.puts.length : Int) - 1 := by rw [IntKind.wrap_i64]; omega
  have HP := hidW h.p
  have HC : Hid (Bl w lb 58 [pv, hv, av, .int .u32 l.cop]) := h.bl
  have HO := hidW ho.puts
  have HL := hidW h
  rw [hpv] at c0
  clear h ho
  go_enter Tryz.func20, Tryz.ntmps20
  go_wp2
  go_loopw [5] (fun k wr => ∃ (m : Nat), m ≤ l.puts.length ∧ k = .int .i64 ((m : Int) - 1) ∧ wdK l.puts at_ m = wdK l.puts at_ l.puts.length ∧ Below w.heap.size w wr) (fun k _ => (intOf k + 1).toNat)
  case atStart => exact ⟨l.puts.length, Nat.le_refl _, rfl, rfl, Below.refl _ _⟩
  case round =>
    obtain ⟨m, h1, rfl, hf, hb⟩ := hrel
    have HB := hidW hb
    have hf := hidW hf
    have HX := hidW (HL.out.below hb)
    clear hb c0
    rcases m with _ | m
    · have z : decide (((0 : Nat) : Int) - 1 ≥ 0) = false := by decide
      have e0 : ((0 : Nat) : Int) - 1 = -1 := by decide
      rw [e0]
      clear z
      go_wp2
      have hz : wdK l.puts at_ l.puts.length = 0 := by rw [← hf.out]; rfl
      rw [hz]
      exact bodyPost_ret (v := .int .u32 0) (by simp [results, Tryz.results20, go_sem]) rfl ⟨rfl, HB.out⟩
    · have em : ((m + 1 : Nat) : Int) - 1 = (m : Int) := by omega
      rw [em]
      obtain ⟨p, hp⟩ : ∃ p, l.puts[m]? = some p := ⟨_, List.getElem?_eq_getElem (by omega)⟩
      obtain ⟨g, cap, hpv2, d0, d1⟩ := put_cells HX.out.p hp
      obtain ⟨⟨c0, _, _, _⟩, _⟩ := HX.out.cells
      rw [hpv2] at c0
      have z : decide ((m : Int) ≥ 0) = true := decide_eq_true (by omega)
      have b1 : (m : Int) < (l.puts.length : Int) := by omega
      have hr := HO.out p (List.mem_of_getElem? hp)
      obtain ⟨⟨r0, r1⟩, r2, r3⟩ := hr
      have e4 : IntKind.u32.wrap (p.1 - p.1 % 4) = p.1 - p.1 % 4 := by rw [IntKind.wrap_u32']; omega
      have hq : wdK l.puts at_ (m + 1) = if p.1 - p.1 % 4 = at_ then p.2 else wdK l.puts at_ m := by
        rw [wdK, hp]
      have b0 : (0 : Int) ≤ (m : Int) := by omega
      generalize p.1 = x at *
      generalize p.2 = y at *
      have q4 : x % 4 ≤ x := by omega
      clear hpv hpv2 hp HO HP
      by_cases he : x - x % 4 = at_
      · have hz : wdK l.puts at_ l.puts.length = y := by rw [← hf.out, hq, if_pos he]
        have z2 : (x - x % 4 == at_) = true := beq_iff_eq.2 he
        have hz := hidW hz
        clear hq hf he
        generalize hu : x - x % 4 = u at *
        go_wp2
        go_quiet (fail)
        go_wp2
        exact bodyPost_ret (v := .int .u32 y) (by simp [results, Tryz.results20, go_sem]) rfl ⟨by rw [hz.out], below_drewN HB.out _⟩
      · have hz : wdK l.puts at_ m = wdK l.puts at_ l.puts.length := by rw [← hf.out, hq, if_neg he]
        have z2 : (x - x % 4 == at_) = false := beq_eq_false_iff_ne.2 he
        clear hq hf he
        generalize hu : x - x % 4 = u at *
        go_wp2
        go_quiet (fail)
        go_wp2
        refine ⟨⟨m, by omega, rfl, hz, below_drewN HB.out _⟩, ?_⟩
        simp only [intOf]
        omega
end Go.Proofs.YtilhceajhlaojaaGreatDoor

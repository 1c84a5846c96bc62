import Derived.Test.YtilhceajhlaojaaGreatDoorZ15
import Derived.Test.YtilhceajhlaojaaGreatDoorDf
import Derived.Test.YtilhceajhlaojaaGreatDoorZ11
namespace Go.Proofs.YtilhceajhlaojaaGreatDoor
open Go.RowKit
set_option linter.unusedVariables false
set_option linter.unusedSimpArgs false
/-- What a deed leaves: of the line, of all else, of itself. -/
structure WQ (W v : World) (b lo lb : Nat) (pv hv av : Value) (l' : Ln) (R : List Int) (ln : Bool) (i : Is.Ins) (t : Tk) : Prop where
  lq : ∃ av', LX v lo lb pv hv av' l' ∧ ∀ g, LO lb pv hv av' g → LO lb pv hv av g ∨ W.heap.size ≤ g
  turn : Turn (fun x => x = b ∨ LO lb pv hv av x) W v
  db : DB v b R ln (busV lb) i t
/-- While a deed is done that has a box for the instruction. -/
structure WX (W v : World) (q b lo lb : Nat) (pv hv av : Value) (l' : Ln) (R : List Int) (ln : Bool) (i : Is.Ins) (t : Tk) : Prop where
  lq : ∃ av', LX v lo lb pv hv av' l' ∧ (∀ g, LO lb pv hv av' g → LO lb pv hv av g ∨ W.heap.size ≤ g) ∧ ¬ LO lb pv hv av' q
  turn : Turn (fun x => x = b ∨ LO lb pv hv av x) W v
  db : DB v b R ln (busV lb) i t
  box : Bl v q 35 (Is.insL i)
  nq : q ≠ b
  hb : b < W.heap.size
  nb : ¬ LO lb pv hv av b
theorem WX.wq {W v : World} {q b lo lb : Nat} {pv hv av : Value} {l' : Ln} {R : List Int} {ln : Bool} {i : Is.Ins} {t : Tk} (h : WX W v q b lo lb pv hv av l' R ln i t) : WQ W v b lo lb pv hv av l' R ln i t :=
  ⟨by obtain ⟨av', h1, h2, _⟩ := h.lq; exact ⟨av', h1, h2⟩, h.turn, h.db⟩
theorem WX.step {W v v' : World} {q b lo lb : Nat} {pv hv av : Value} {l' : Ln} {R : List Int} {ln : Bool} {i : Is.Ins} {t : Tk} (h : WX W v q b lo lb pv hv av l' R ln i t) (hb : Below v.heap.size v v') : WX W v' q b lo lb pv hv av l' R ln i t :=
  ⟨by obtain ⟨av', h1, h2, h3⟩ := h.lq; exact ⟨av', h1.below hb, h2, h3⟩, h.turn.then (Turn.below hb), RB.below h.db hb, h.box.below hb, h.nq, h.hb, h.nb⟩
theorem WX.drew {W v : World} {q b lo lb : Nat} {pv hv av : Value} {l' : Ln} {R : List Int} {ln : Bool} {i : Is.Ins} {t : Tk} (h : WX W v q b lo lb pv hv av l' R ln i t) : WX W v.drew q b lo lb pv hv av l' R ln i t :=
  ⟨by obtain ⟨av', h1, h2, h3⟩ := h.lq; exact ⟨av', h1.drew, h2, h3⟩, h.turn.drew, RB.drew h.db, h.box.drew, h.nq, h.hb, h.nb⟩
theorem WX.ta {W v v' : World} {q b lo lb : Nat} {pv hv av : Value} {l' : Ln} {R R' : List Int} {ln : Bool} {i : Is.Ins} {t t' : Tk} (h : WX W v q b lo lb pv hv av l' R ln i t) (hT : TA b v v') (hd : DB v' b R' ln (busV lb) i t') : WX W v' q b lo lb pv hv av l' R' ln i t' := by
  obtain ⟨av', h1, h2, h3⟩ := h.lq
  refine ⟨⟨av', h1.turn hT (fun g hg e => ?_), h2, h3⟩, h.turn.trans hT (fun x hx => .inl (.inl hx)), hd, h.box.turn hT h.nq, h.nq, h.hb, h.nb⟩
  have e : g = b := e
  subst e
  rcases h2 g hg with h5 | h5
  · exact h.nb h5
  · have := h.hb; omega
theorem WX.acc {W v v' : World} {q b lo lb : Nat} {pv hv av : Value} {l' l'' : Ln} {R : List Int} {ln : Bool} {i : Is.Ins} {t : Tk} (h : WX W v q b lo lb pv hv av l' R ln i t) (av' : Value) (h1 : ∀ g, LO lb pv hv av' g → LO lb pv hv av g ∨ W.heap.size ≤ g) (h3 : ¬ LO lb pv hv av' q) (hq : LQ v v' lo lb pv hv av' l'') : WX W v' q b lo lb pv hv av l'' R ln i t := by
  obtain ⟨av2, k1, k2, k3⟩ := hq
  have hs := h.turn.size
  have hql := h.box.lt
  have hbl := h.db.bl.lt
  have n1 : ¬ LO lb pv hv av' b := fun e => by
    rcases h1 b e with h5 | h5
    · exact h.nb h5
    · have := h.hb; omega
  refine ⟨⟨av2, k1, fun g hg => ?_, fun e => ?_⟩, h.turn.trans k2 (fun x hx => ?_), RB.turn h.db k2 n1, h.box.turn k2 h3, h.nq, h.hb, h.nb⟩
  · rcases k3 g hg with h5 | h5
    · exact h1 g h5
    · exact .inr (by omega)
  · rcases k3 q e with h5 | h5
    · exact h3 h5
    · omega
  · rcases h1 x hx with h5 | h5
    · exact .inl (.inr h5)
    · exact .inr h5
theorem WX.first {w : World} {b lo lb : Nat} {pv hv av : Value} {l : Ln} {R : List Int} {ln : Bool} {i : Is.Ins} {t : Tk} (h : DB w b R ln (busV lb) i t) (hx : LX w lo lb pv hv av l) (hd : ¬ LO lb pv hv av b) (A : Array Value) (hA : A.size = 20) : WX w ((w.alloc (.cells A 35)).setCells w.heap.size 0 (Is.insL i)) w.heap.size b lo lb pv hv av l R ln i t := by
  have hf := fill_new w 35 A (Is.insL i) (by rw [hA]; rfl)
  have hb := h.bl.lt
  exact ⟨⟨av, hx.below hf.1, fun g hg => .inl hg, LO_lt (v := w) hx (Nat.le_refl _)⟩, Turn.below hf.1, RB.below h hf.1, hf.2, by omega, hb, hd⟩
/-- A load of a word. -/
def ldR (R : List Int) (a : Int) (i : Is.Ins) (V : Int) : List Int := stR (mvP R i (adP R a i).2) i.rd V
theorem adP_range {R : List Int} (h : ROk R) (a : Int) (i : Is.Ins) : (0 ≤ (adP R a i).1 ∧ (adP R a i).1 < 4294967296) ∧ (0 ≤ (adP R a i).2 ∧ (adP R a i).2 < 4294967296) := by
  have hv := vlR_range h a i.rn
  unfold adP
  cases i.pre <;> cases i.up <;> simp <;> omega
set_option maxRecDepth 100000 in
set_option maxHeartbeats 2000000 in
theorem gload0 (w : World) (b lo lb : Nat) (pv hv av : Value) (l : Ln) (R : List Int) (ln : Bool) (i : Is.Ins) (t : Tk) (h : DB w b R ln (busV lb) i t) (hx : LX w lo lb pv hv av l) (hd : ¬ LO lb pv hv av b) (ho : LOk l) (hlo : lo ≤ w.heap.size) (hn : l.asked.length ≤ 400000000000) (hh : l.holes = []) (hi : IR i) (hop : i.op = 31) (h4 : (adP R t.at_ i).1 % 4 = 0) :
    Calls Tryz.prog 65 #[.pointer (some ⟨b, 0, none⟩)] w fun e w' => e = .returned (.tuple #[]) ∧ WQ w w' b lo lb pv hv av { l with asked := l.asked ++ [askP 2 (adP R t.at_ i).1 0 (!(mdR R == 16))] } (ldR R t.at_ i (wdK l.puts (adP R t.at_ i).1 l.puts.length)) ln i t := by
  have har := adP_range h.ok t.at_ i
  have hV := wdK_range ho.puts (adP R t.at_ i).1 l.puts.length
  have HAd : Hid (∀ v, DB v b R ln (busV lb) i t → Calls Tryz.prog 89 #[.pointer (some ⟨b, 0, none⟩)] v fun e w' => e = .returned (.tuple #[.int .u32 (adP R t.at_ i).1, .int .u32 (adP R t.at_ i).2]) ∧ Below v.heap.size v w') := fun v h => gaddr v b R ln _ i t h hi
  have HBy : Hid (∀ v, Calls Tryz.prog 91 #[.int .i64 31] v fun e w' => e = .returned (.int .i64 4) ∧ w' = v) := fun v => gbytes 31 v
  have HAc : Hid (∀ v q, WX w v q b lo lb pv hv av l R ln i t → Calls Tryz.prog 90 #[.pointer (some ⟨b, 0, none⟩), .int .i64 2, .int .u32 (adP R t.at_ i).1, .int .i64 4, .int .u32 0] v fun e w' => e = .returned (.int .u32 (wdK l.puts (adP R t.at_ i).1 l.puts.length)) ∧ WX w w' q b lo lb pv hv av { l with asked := l.asked ++ [askP 2 (adP R t.at_ i).1 0 (!(mdR R == 16))] } R ln i t) := fun v q hw => by
    obtain ⟨av', k1, k2, k3⟩ := hw.lq
    have hs := hw.turn.size
    have n1 : ¬ LO lb pv hv av' b := fun e => by
      rcases k2 b e with h5 | h5
      · exact hd h5
      · have := hw.hb; omega
    refine (gacc0 v b lo lb pv hv av' l R ln i t 2 (adP R t.at_ i).1 0 hw.db k1 n1 ho (by omega) hn hh (by decide) har.1 h4).mono ?_
    rintro e w' ⟨rfl, hq⟩
    exact ⟨rfl, hw.acc av' k2 k3 hq⟩
  have HMv : Hid (∀ v, DB v b R ln (busV lb) i t → Calls Tryz.prog 92 #[.pointer (some ⟨b, 0, none⟩), .int .u32 (adP R t.at_ i).2] v fun e w' => e = .returned (.tuple #[]) ∧ TA b v w' ∧ DB w' b (mvP R i (adP R t.at_ i).2) ln (busV lb) i t) := fun v h => gmove v b R ln _ i t _ h hi har.2
  have HSt : Hid (∀ v, DB v b (mvP R i (adP R t.at_ i).2) ln (busV lb) i t → Calls Tryz.prog 39 #[.pointer (some ⟨b, 0, none⟩), .int .i64 i.rd, .int .u32 (wdK l.puts (adP R t.at_ i).1 l.puts.length)] v fun e w' => e = .returned (.tuple #[]) ∧ TA b v w' ∧ DB w' b (ldR R t.at_ i (wdK l.puts (adP R t.at_ i).1 l.puts.length)) ln (busV lb) i t) := fun v h => gset v b 124 _ _ i.rd _ h hi.rd hV
  have HIns : Hid (w.rangeAt b 32 (Is.insL i)) := DB.ins h
  have HI : Hid ((Tryz.prog.info? 35).map (·.size) = some (Is.insL i).length) := ins_info
  have HJ : Hid ((Tryz.prog.info? 35).map (·.size) = some (Is.insL i).toArray.size) := ins_info
  have HO : Hid ((Is.insL i).toArray.all (·.oneCell') = true) := ins_one i
  have HT : Hid (∀ (A : Array Value), A.size = 20 → (w.alloc (.cells A 35)).there w.heap.size 0 (Is.insL i).toArray.size) := fun A hA => there_new _ _ A _ (by rw [hA]; rfl)
  have HR : Hid (∀ (A : Array Value), (w.alloc (.cells A 35)).rangeAt b 32 (Is.insL i)) := fun A => Is.range_keep HIns.out (below_new _ _)
  have HS : Hid (∀ (A : Array Value), A.size = 20 → WX w ((w.alloc (.cells A 35)).setCells w.heap.size 0 (Is.insL i)) w.heap.size b lo lb pv hv av l R ln i t) := fun A hA => WX.first h hx hd A hA
  have HC : Hid (∀ v l' R', WX w v w.heap.size b lo lb pv hv av l' R' ln i t → _) := fun v l' R' h => bl_cells h.box
  generalize Is.insL i = IL at *
  generalize ldR R t.at_ i (wdK l.puts (adP R t.at_ i).1 l.puts.length) = R2 at *
  generalize mvP R i (adP R t.at_ i).2 = R1 at *
  generalize wdK l.puts (adP R t.at_ i).1 l.puts.length = V at *
  generalize (adP R t.at_ i).1 = a1 at *
  generalize (adP R t.at_ i).2 = a2 at *
  generalize (askP 2 a1 0 (!(mdR R == 16))) = ak at *
  clear h hx hd ho hlo hn hh hi h4 har hV
  go_enter Tryz.func65, Tryz.ntmps65
  go_wp2_with (first | (guard_target =~ wpList _ _ _ (Oper.mk (some 9) _ _ _ _ _ :: _) _ _; refine wpList_load_mid rfl _ _ rfl b 32 rfl IL _ HIns.out Tryz.underlying35 rfl HI.out ?_) | (guard_target =~ wpList _ _ _ (Oper.mk none (Op.store 35 _ _) _ _ _ _ :: _) _ _; refine wpList_store_mid rfl _ _ _ rfl w.heap.size 0 IL.toArray rfl rfl (HT.out _ rfl) HJ.out HO.out ?_; generalize hW : World.setCells _ _ _ _ = w2; have HX := hidW (show WX w w2 w.heap.size b lo lb pv hv av l R ln i t from hW ▸ HS.out _ rfl); clear hW) | (go_at_call 89; refine (HAd.out _ HX.out.db).mono ?_; rintro e w3 ⟨rfl, hb⟩; have HX := hidW (HX.out.step hb); obtain ⟨⟨c0, c1, c2, c3, c4, c5, c6, c7, c8, c9⟩, _⟩ := HC.out _ _ _ HX.out; rw [hop] at c1; clear hb) | (go_at_call 91; refine (HBy.out _).mono ?_; rintro e w4 ⟨rfl, hwe⟩; have hwe := hwe.symm; subst hwe) | (go_at_call 90; refine (HAc.out _ _ HX.out).mono ?_; rintro e w5 ⟨rfl, hx5⟩; have HX := hidW hx5; clear hx5 c0 c1 c2 c3 c4 c5 c6 c7 c8 c9) | (go_at_call 92; refine (HMv.out _ HX.out.db).mono ?_; rintro e w6 ⟨rfl, ht, hz⟩; have HX := hidW (HX.out.ta ht hz); obtain ⟨⟨c0, c1, c2, c3, c4, c5, c6, c7, c8, c9⟩, _⟩ := HC.out _ _ _ HX.out; rw [hop] at c1; clear ht hz))
  have HX := hidW HX.out.drew
  go_region_held3 (fun v => v.cell? ⟨w.heap.size, 4, none⟩ = some (.int .i64 i.rd)) (first | exact (HC.out _ _ _ HX.out).1.2.2.2.2.1) ((first | (go_at_call 39; refine (HSt.out _ HX.out.db).mono ?_; rintro e w7 ⟨rfl, ht, hz⟩; have HX := hidW (HX.out.ta ht hz); clear ht hz)))
  go_wp2_with fail
  exact bodyPost_end (v := .tuple #[]) (by simp [results, Tryz.results65, go_sem]) rfl ⟨rfl, HX.out.wq⟩
end Go.Proofs.YtilhceajhlaojaaGreatDoor
namespace Go.Proofs.YtilhceajhlaojaaGreatDoor
open Go.RowKit
set_option linter.unusedVariables false
set_option linter.unusedSimpArgs false
/-- The functions of the instructions, by their numbers. -/
def dfL : List Nat := [0, 59, 59, 59, 59, 59, 59, 59, 59, 59, 59, 59, 59, 59, 59, 59, 59, 60, 61, 62, 62, 63, 63, 63, 63, 64, 64, 64, 64, 64, 64, 65, 66, 65, 66, 65, 66, 65, 65, 67, 68, 69, 70, 71, 72, 73, 74, 75, 76, 77, 78, 79, 80]
def dfn (op : Nat) : Nat := dfL.getD op 0
def deL : List Value := .nilFunc :: (dfL.drop 1).map (fun n => .func (.func n) #[] #[])
set_option maxRecDepth 100000 in
theorem de_info : (Tryz.prog.info? 132).map (·.size) = some deL.toArray.size := by kernel_rfl
theorem de_one : deL.toArray.all (·.oneCell') = true := by kernel_rfl
theorem de_len : deL.length = 53 := rfl
set_option maxRecDepth 100000 in
set_option maxHeartbeats 1000000 in
theorem gdeeds (w : World) : Calls Tryz.prog 58 #[] w fun e w' => e = .returned (.agg deL.toArray) ∧ Below w.heap.size w w' := by
  have HT : Hid (∀ A : Array Value, A.size = 53 → (w.alloc (.cells A 132)).there w.heap.size 0 deL.toArray.size) := fun A hA => there_new _ _ A _ (by rw [hA]; rfl)
  have HE : Hid (∀ (A : Array Value) (w2 : World), A.size = 53 → (w.alloc (.cells A 132)).setCells w.heap.size 0 deL = w2 → Below w.heap.size w w2 ∧ (loadVar 132 ⟨w.heap.size, 0, none⟩).run Tryz.prog w2 = .ok (.agg deL.toArray) w2) := fun A w2 hA e => by
    have := fill_new w 132 A deL (by rw [hA]; rfl)
    rw [e] at this
    exact ⟨this.1, run_loadVar_mid w2 _ 0 132 _ _ this.2.range Tryz.underlying132 rfl de_info⟩
  go_enter Tryz.func58, Tryz.ntmps58
  go_wp2_with (first | (guard_target =~ wpList _ _ _ (Oper.mk none (Op.store 132 _ _) _ _ _ _ :: _) _ _; refine wpList_store_mid rfl _ _ _ rfl w.heap.size 0 deL.toArray rfl rfl (HT.out _ rfl) de_info de_one ?_; generalize hW : World.setCells _ _ _ _ = w2; have HZ := hidW (HE.out _ w2 rfl hW); clear hW))
  have hl := HZ.out.2
  exact bodyPost_ret (v := .agg deL.toArray) (by simp [results, Tryz.results58, asAddr, hl, Act.put]) rfl ⟨rfl, HZ.out.1⟩
set_option maxRecDepth 100000 in
set_option maxHeartbeats 1000000 in
theorem de_idx (k : Nat) (h0 : 0 < k) (h1 : k < 53) (w : World) : (Instr.index 132 (.agg deL.toArray) (.int .i64 (k : Int))).run Tryz.prog w = .ok (.func (.func (dfn k)) #[] #[]) w := by
  have : ∀ k : Nat, 0 < k → k < 53 → (Instr.index 132 (.agg deL.toArray) (.int .i64 (k : Int))).run Tryz.prog w = .ok (.func (.func (dfn k)) #[] #[]) w := by
    intro k h0 h1
    rcases (show k = 1 ∨ k = 2 ∨ k = 3 ∨ k = 4 ∨ k = 5 ∨ k = 6 ∨ k = 7 ∨ k = 8 ∨ k = 9 ∨ k = 10 ∨ k = 11 ∨ k = 12 ∨ k = 13 ∨ k = 14 ∨ k = 15 ∨ k = 16 ∨ k = 17 ∨ k = 18 ∨ k = 19 ∨ k = 20 ∨ k = 21 ∨ k = 22 ∨ k = 23 ∨ k = 24 ∨ k = 25 ∨ k = 26 ∨ k = 27 ∨ k = 28 ∨ k = 29 ∨ k = 30 ∨ k = 31 ∨ k = 32 ∨ k = 33 ∨ k = 34 ∨ k = 35 ∨ k = 36 ∨ k = 37 ∨ k = 38 ∨ k = 39 ∨ k = 40 ∨ k = 41 ∨ k = 42 ∨ k = 43 ∨ k = 44 ∨ k = 45 ∨ k = 46 ∨ k = 47 ∨ k = 48 ∨ k = 49 ∨ k = 50 ∨ k = 51 ∨ k = 52 by omega) with rfl | rfl | rfl | rfl | rfl | rfl | rfl | rfl | rfl | rfl | rfl | rfl | rfl | rfl | rfl | rfl | rfl | rfl | rfl | rfl | rfl | rfl | rfl | rfl | rfl | rfl | rfl | rfl | rfl | rfl | rfl | rfl | rfl | rfl | rfl | rfl | rfl | rfl | rfl | rfl | rfl | rfl | rfl | rfl | rfl | rfl | rfl | rfl | rfl | rfl | rfl | rfl
    all_goals kernel_rfl
  exact this k h0 h1
set_option maxRecDepth 100000 in
set_option maxHeartbeats 1000000 in
theorem de_call (k : Nat) (h0 : 0 < k) (h1 : k < 53) (p : Value) (w : World) : (callFunc (dfn k) #[p]).run Tryz.prog w = .ok (.enter (dfn k) #[p]) w := by
  rcases (show k = 1 ∨ k = 2 ∨ k = 3 ∨ k = 4 ∨ k = 5 ∨ k = 6 ∨ k = 7 ∨ k = 8 ∨ k = 9 ∨ k = 10 ∨ k = 11 ∨ k = 12 ∨ k = 13 ∨ k = 14 ∨ k = 15 ∨ k = 16 ∨ k = 17 ∨ k = 18 ∨ k = 19 ∨ k = 20 ∨ k = 21 ∨ k = 22 ∨ k = 23 ∨ k = 24 ∨ k = 25 ∨ k = 26 ∨ k = 27 ∨ k = 28 ∨ k = 29 ∨ k = 30 ∨ k = 31 ∨ k = 32 ∨ k = 33 ∨ k = 34 ∨ k = 35 ∨ k = 36 ∨ k = 37 ∨ k = 38 ∨ k = 39 ∨ k = 40 ∨ k = 41 ∨ k = 42 ∨ k = 43 ∨ k = 44 ∨ k = 45 ∨ k = 46 ∨ k = 47 ∨ k = 48 ∨ k = 49 ∨ k = 50 ∨ k = 51 ∨ k = 52 by omega) with rfl | rfl | rfl | rfl | rfl | rfl | rfl | rfl | rfl | rfl | rfl | rfl | rfl | rfl | rfl | rfl | rfl | rfl | rfl | rfl | rfl | rfl | rfl | rfl | rfl | rfl | rfl | rfl | rfl | rfl | rfl | rfl | rfl | rfl | rfl | rfl | rfl | rfl | rfl | rfl | rfl | rfl | rfl | rfl | rfl | rfl | rfl | rfl | rfl | rfl | rfl | rfl
  all_goals kernel_rfl
end Go.Proofs.YtilhceajhlaojaaGreatDoor
namespace Go.Proofs.YtilhceajhlaojaaGreatDoor
open Go.RowKit
set_option linter.unusedVariables false
set_option linter.unusedSimpArgs false
/-- While an instruction is done: the line, the processor, the instruction, the box of the answer. -/
structure EX (W v : World) (q cb b lo lb : Nat) (pv hv av : Value) (l' : Ln) (R0 R : List Int) (line ln : Bool) (i : Is.Ins) (t : Tk) : Prop where
  lq : ∃ av', LX v lo lb pv hv av' l' ∧ (∀ g, LO lb pv hv av' g → LO lb pv hv av g ∨ W.heap.size ≤ g) ∧ ¬ LO lb pv hv av' q
  turn : Turn (fun x => x = cb ∨ x = b ∨ LO lb pv hv av x) W v
  cpu : RB v cb 86 R0 [.bool line]
  db : DB v b R ln (busV lb) i t
  box : Bl v q 50 (tkL tkZ)
  nc : cb ≠ b
  hc : cb < W.heap.size
  hb : b < W.heap.size
  hq : W.heap.size ≤ q
  mc : ¬ LO lb pv hv av cb
  mb : ¬ LO lb pv hv av b
theorem EX.drew {W v : World} {q cb b lo lb : Nat} {pv hv av : Value} {l' : Ln} {R0 R : List Int} {line ln : Bool} {i : Is.Ins} {t : Tk} (h : EX W v q cb b lo lb pv hv av l' R0 R line ln i t) : EX W v.drew q cb b lo lb pv hv av l' R0 R line ln i t :=
  ⟨by obtain ⟨a, h1, h2⟩ := h.lq; exact ⟨a, h1.drew, h2⟩, h.turn.drew, RB.drew h.cpu, RB.drew h.db, h.box.drew, h.nc, h.hc, h.hb, h.hq, h.mc, h.mb⟩
theorem EX.step {W v v' : World} {q cb b lo lb : Nat} {pv hv av : Value} {l' : Ln} {R0 R : List Int} {line ln : Bool} {i : Is.Ins} {t : Tk} (h : EX W v q cb b lo lb pv hv av l' R0 R line ln i t) (hb : Below v.heap.size v v') : EX W v' q cb b lo lb pv hv av l' R0 R line ln i t :=
  ⟨by obtain ⟨a, h1, h2⟩ := h.lq; exact ⟨a, h1.below hb, h2⟩, h.turn.then (Turn.below hb), RB.below h.cpu hb, RB.below h.db hb, h.box.below hb, h.nc, h.hc, h.hb, h.hq, h.mc, h.mb⟩
/-- A deed. -/
theorem EX.deed {W v v' : World} {q cb b lo lb : Nat} {pv hv av av' : Value} {l' l'' : Ln} {R0 R R' : List Int} {line ln : Bool} {i : Is.Ins} {t t' : Tk} (h : EX W v q cb b lo lb pv hv av l' R0 R line ln i t) (ho : ∀ g, LO lb pv hv av' g → LO lb pv hv av g ∨ W.heap.size ≤ g) (hn : ¬ LO lb pv hv av' q) (hq : WQ v v' b lo lb pv hv av' l'' R' ln i t') : EX W v' q cb b lo lb pv hv av l'' R0 R' line ln i t' := by
  obtain ⟨a2, k1, k2⟩ := hq.lq
  have hs := h.turn.size
  have hql := h.box.lt
  have hbW := h.hb
  have hqW := h.hq
  have n1 : ¬ (cb = b ∨ LO lb pv hv av' cb) := fun e => by
    rcases e with h5 | h5
    · exact h.nc h5
    · rcases ho cb h5 with h6 | h6
      · exact h.mc h6
      · have := h.hc; omega
  have n2 : ¬ (q = b ∨ LO lb pv hv av' q) := fun e => by
    rcases e with h5 | h5
    · omega
    · exact hn h5
  refine ⟨⟨a2, k1, fun g hg => ?_, fun e => ?_⟩, h.turn.trans hq.turn (fun x hx => ?_), RB.turn h.cpu hq.turn n1, hq.db, h.box.turn hq.turn n2, h.nc, h.hc, h.hb, h.hq, h.mc, h.mb⟩
  · rcases k2 g hg with h5 | h5
    · exact ho g h5
    · exact .inr (by omega)
  · rcases k2 q e with h5 | h5
    · exact hn h5
    · omega
  · rcases hx with h5 | h5
    · exact .inl (.inr (.inl h5))
    · rcases ho x h5 with h6 | h6
      · exact .inl (.inr (.inr h6))
      · exact .inr h6
/-- The registers are the instruction's. -/
theorem EX.copy {W v : World} {q cb b lo lb : Nat} {pv hv av : Value} {l' : Ln} {R0 R : List Int} {line ln : Bool} {i : Is.Ins} {t : Tk} (h : EX W v q cb b lo lb pv hv av l' R0 R line ln i t) : EX W (v.setCells cb 0 (RL R)) q cb b lo lb pv hv av l' R R line ln i t := by
  obtain ⟨a, h1, h2, h3⟩ := h.lq
  obtain ⟨hT, hc⟩ := RB.copy h.cpu h.db.ok
  refine ⟨⟨a, h1.turn hT (fun g hg e => ?_), h2, h3⟩, h.turn.trans hT (fun x hx => .inl (.inl hx)), hc, RB.turn h.db hT (fun e => h.nc (show b = cb from e).symm), h.box.turn hT (fun e => ?_), h.nc, h.hc, h.hb, h.hq, h.mc, h.mb⟩
  · have e : g = cb := e
    subst e
    rcases h2 g hg with h6 | h6
    · exact h.mc h6
    · have := h.hc; omega
  · have e : q = cb := e
    have := h.hc
    have := h.hq
    omega
/-- The answer laid down. -/
theorem EX.ans {W v : World} {q cb b lo lb : Nat} {pv hv av : Value} {l' : Ln} {R0 R : List Int} {line ln : Bool} {i : Is.Ins} {t : Tk} (h : EX W v q cb b lo lb pv hv av l' R0 R line ln i t) :
    (∃ av', LX (v.setCells q 0 (tkL t)) lo lb pv hv av' l' ∧ ∀ g, LO lb pv hv av' g → LO lb pv hv av g ∨ W.heap.size ≤ g) ∧ Turn (fun x => x = cb ∨ x = b ∨ LO lb pv hv av x) W (v.setCells q 0 (tkL t)) ∧ RB (v.setCells q 0 (tkL t)) cb 86 R0 [.bool line] ∧ Bl (v.setCells q 0 (tkL t)) q 50 (tkL t) := by
  obtain ⟨a, h1, h2, h3⟩ := h.lq
  have hT : TA q v (v.setCells q 0 (tkL t)) := set_turn _ 0 v v (Turn.refl _ _)
  have := h.hc
  have := h.hq
  refine ⟨⟨a, h1.turn hT (fun g hg e => h3 ((show g = q from e) ▸ hg)), h2⟩, h.turn.trans hT (fun x hx => .inr ?_), RB.turn h.cpu hT (fun e => ?_), set_all h.box rfl⟩
  · have e : x = q := hx
    omega
  · have e : cb = q := e
    omega
/-- The PC is behind the instruction. -/
def pcR (R : List Int) (a : Int) : List Int := R.set 28 ((a + 4) % 4294967296)
theorem EX.first {w : World} {cb b lo lb : Nat} {pv hv av : Value} {l : Ln} {R0 R : List Int} {line ln : Bool} {i : Is.Ins} {t : Tk} (hc : RB w cb 86 R0 [.bool line]) (h : DB w b R ln (busV lb) i t) (hx : LX w lo lb pv hv av l) (n : cb ≠ b) (mc : ¬ LO lb pv hv av cb) (mb : ¬ LO lb pv hv av b) (A : Array Value) (hA : A.toList = tkL tkZ) : EX w ((w.setCell ⟨b, 28, none⟩ (.int .u32 ((t.at_ + 4) % 4294967296))).alloc (.cells A 50)) w.heap.size cb b lo lb pv hv av l R0 (pcR R t.at_) line ln i t := by
  have hT : TA b w (w.setCell ⟨b, 28, none⟩ (.int .u32 ((t.at_ + 4) % 4294967296))) := ta_put (Below.refl _ _)
  have hb := below_new (w.setCell ⟨b, 28, none⟩ (.int .u32 ((t.at_ + 4) % 4294967296))) (.cells A 50)
  have hbx := newA (w.setCell ⟨b, 28, none⟩ (.int .u32 ((t.at_ + 4) % 4294967296))) 50 A
  rw [hA, World.size_setCell] at hbx
  have hT2 := hT.then (Turn.below hb)
  refine ⟨⟨av, (hx.turn hT (fun g hg e => mb ((show g = b from e) ▸ hg))).below hb, fun g hg => .inl hg, LO_lt (v := w) hx (Nat.le_refl _)⟩, ⟨hT2.os, hT2.tape, hT2.output, hT2.size, fun k hk hn => hT2.block k hk (fun e => hn (.inr (.inl e)))⟩, (RB.turn hc hT n).below hb, RB.below (h.put (by decide) (by omega)) hb, hbx, n, hc.bl.lt, h.bl.lt, Nat.le_refl _, mc, mb⟩
theorem fl_pc {R : List Int} (h : ROk R) (a : Int) : flR (pcR R a) = flR R := by
  have e : rg (pcR R a) 29 = rg R 29 := by unfold pcR; rw [rg_set _ _ _ _ (by rw [h.len]; decide), if_neg (by decide)]
  unfold flR
  rw [e]
theorem tk_one (t : Tk) : (tkL t).toArray.all (·.oneCell') = true := by
  rw [Array.all_eq_true']
  intro v hv
  simp only [List.mem_toArray, tkL, List.mem_cons, List.not_mem_nil, or_false] at hv
  rcases hv with rfl | rfl | rfl | rfl | rfl | rfl | rfl | rfl <;> rfl
set_option maxRecDepth 100000 in
theorem tk_info : (Tryz.prog.info? 50).map (·.size) = some 8 := by kernel_rfl
/-- What stands behind the doing. -/
structure DQ (W v : World) (cb b lo lb : Nat) (pv hv av : Value) (l' : Ln) (R0 : List Int) (line : Bool) : Prop where
  lq : ∃ av', LX v lo lb pv hv av' l' ∧ ∀ g, LO lb pv hv av' g → LO lb pv hv av g ∨ W.heap.size ≤ g
  turn : Turn (fun x => x = cb ∨ x = b ∨ LO lb pv hv av x) W v
  cpu : RB v cb 86 R0 [.bool line]
set_option maxRecDepth 100000 in
set_option maxHeartbeats 2000000 in
theorem gdoins (w : World) (cb b lo lb : Nat) (pv hv av : Value) (l l' : Ln) (R0 R R' : List Int) (line ln : Bool) (i : Is.Ins) (t t' : Tk) (hc : RB w cb 86 R0 [.bool line]) (h : DB w b R ln (busV lb) i t) (hx : LX w lo lb pv hv av l) (n : cb ≠ b) (mc : ¬ LO lb pv hv av cb) (mb : ¬ LO lb pv hv av b) (ht : 0 ≤ t.at_ ∧ t.at_ < 4294967296) (op : 0 < i.op ∧ i.op < 53) (p kz : Bool) (hp : Al.paF i.cond (flR R).n (flR R).z (flR R).c (flR R).v = p) (hk : (t'.kind == 0) = kz)
    (hno : p = false → l' = l ∧ R' = pcR R t.at_ ∧ t' = t)
    (hdeed : p = true → ∀ v av', LX v lo lb pv hv av' l → DB v b (pcR R t.at_) ln (busV lb) i t → ¬ LO lb pv hv av' b → lo ≤ v.heap.size → Calls Tryz.prog (dfn i.op.toNat) #[.pointer (some ⟨b, 0, none⟩)] v fun e w' => e = .returned (.tuple #[]) ∧ WQ v w' b lo lb pv hv av' l' R' ln i t') :
    Calls Tryz.prog 51 #[.pointer (some ⟨cb, 0, none⟩), .pointer (some ⟨b, 0, none⟩)] w fun e w' => e = .returned (.agg (tkA t')) ∧ DQ w w' cb b lo lb pv hv av l' (if kz then R' else R0) line := by
  have hcW := hc.bl.lt
  have hbW := h.bl.lt
  have hlo : lo ≤ w.heap.size := Nat.le_trans hx.low (Nat.le_of_lt hx.bl.lt)
  have HF : Hid (∀ A : Array Value, A.toList = tkL tkZ → EX w ((w.setCell ⟨b, 28, none⟩ (.int .u32 ((t.at_ + 4) % 4294967296))).alloc (.cells A 50)) w.heap.size cb b lo lb pv hv av l R0 (pcR R t.at_) line ln i t) := fun A hA => EX.first hc h hx n mc mb A hA
  have c53 : ∀ o, (w.alloc o).cell? ⟨b, 53, none⟩ = some (.int .u32 t.at_) := fun o => cell_keep (h.ext 23 53 rfl) (below_new _ _)
  have c28 : ∀ o, (w.alloc o).cell? ⟨b, 28, none⟩ = some (.int .u32 (rg R 28)) := fun o => cell_keep (h.rs.cell 28 (by decide)) (below_new _ _)
  have f28 : ∀ o, (w.alloc o).frozen? ⟨b, 28, none⟩ = false := fun o => frz_keep (h.rs.cell 28 (by decide)) (RB.frz h 28) (below_new _ _)
  have ea : IntKind.u32.wrap (t.at_ + 4) = (t.at_ + 4) % 4294967296 := by rw [IntKind.wrap_u32']
  have HFl : Hid (∀ v, DB v b (pcR R t.at_) ln (busV lb) i t → Calls Tryz.prog 57 #[.pointer (some ⟨b, 0, none⟩)] v fun e w' => e = .returned (.agg #[.bool (flR R).n, .bool (flR R).z, .bool (flR R).c, .bool (flR R).v]) ∧ Below v.heap.size v w') := fun v hv => by
    have := gflagsR v b _ (RB.rs hv)
    rw [fl_pc h.ok] at this
    exact this
  have HPa : Hid (∀ v, Calls Tryz.prog 13 #[.int .i64 i.cond, .agg #[.bool (flR R).n, .bool (flR R).z, .bool (flR R).c, .bool (flR R).v]] v fun e w' => e = .returned (.bool p) ∧ Below v.heap.size v w') := fun v => by
    have := Al.gpassed_any i.cond (flR R) v
    rw [hp] at this
    exact this
  generalize hR1 : pcR R t.at_ = R1 at *
  generalize (t.at_ + 4) % 4294967296 = pcv at *
  generalize flR R = f at *
  obtain ⟨fn, fz, fc, fv⟩ := f
  clear hc h hx hp
  go_enter Tryz.func51, Tryz.ntmps51
  go_wp2
  have HX := hidW (HF.out #[.int .i64 0, .int .u32 0, .int .u32 0, .int .u32 0, .int .i64 0, .int .i64 0, .int .i64 0, .bool false] rfl)
  clear HF c53 c28 f28
  generalize ((w.setCell ⟨b, 28, none⟩ (.int .u32 pcv)).alloc (.cells #[.int .i64 0, .int .u32 0, .int .u32 0, .int .u32 0, .int .i64 0, .int .i64 0, .int .i64 0, .bool false] 50)) = w1 at HX ⊢
  have HX := hidW HX.out.drew
  go_region_held3 (fun v => v.cell? ⟨b, 32, none⟩ = some (.int .i64 i.cond)) (first | exact DB.ins HX.out.db 0 _ rfl) ((first | (go_at_call 57; refine (HFl.out _ HX.out.db).mono ?_; rintro e w2 ⟨rfl, hb⟩; have HX := hidW (HX.out.step hb); clear hb) | (go_at_call 13; refine (HPa.out _).mono ?_; rintro e w3 ⟨rfl, hb⟩; have HX := hidW (HX.out.step hb); clear hb)))
  cases p
  · obtain ⟨rfl, rfl, rfl⟩ := hno rfl
    clear hdeed HFl HPa
    cases kz
    · have c52 : w3.cell? ⟨b, 52, none⟩ = some (.int .i64 t'.kind) := DB.tk HX.out.db 0 _ rfl
      go_wp2_with (first | (guard_target =~ wpList _ _ _ (Oper.mk (some 50) _ _ _ _ _ :: _) _ _; refine wpList_load_mid rfl _ _ rfl b 52 rfl (tkL t') _ (DB.tk HX.out.db) Tryz.underlying50 rfl tk_info ?_) | (guard_target =~ wpList _ _ _ (Oper.mk none (Op.store 50 _ _) _ _ _ _ :: _) _ _; refine wpList_store_mid rfl _ _ _ rfl w.heap.size 0 (tkL t').toArray rfl rfl (HX.out.box.there 8 rfl) tk_info (tk_one _) ?_; have HZ := hidW HX.out.ans; generalize World.setCells _ _ _ _ = w7 at HZ ⊢))
      have hl := run_loadVar_mid _ w.heap.size 0 50 (tkL t') _ HZ.out.2.2.2.range Tryz.underlying50 rfl tk_info
      exact bodyPost_ret (v := .agg (tkL t').toArray) (by simp [results, Tryz.results51, asAddr, hl, Act.put]) rfl ⟨rfl, HZ.out.1, HZ.out.2.1, HZ.out.2.2.1⟩
    · have c52 : w3.cell? ⟨b, 52, none⟩ = some (.int .i64 t'.kind) := DB.tk HX.out.db 0 _ rfl
      go_wp2_with (first | (guard_target =~ wpList _ _ _ (Oper.mk (some 44) _ _ _ _ _ :: _) _ _; refine wpList_load_mid rfl _ _ rfl b 0 rfl (RL R') _ (regs_of HX.out.db) Tryz.underlying84 rfl (by rw [RL_len HX.out.db.ok]; exact regs_info) ?_) | (guard_target =~ wpList _ _ _ (Oper.mk none (Op.store 84 _ _) _ _ _ _ :: _) _ _; refine wpList_store_mid rfl _ _ _ rfl cb 0 (RL R').toArray rfl rfl (by rw [List.size_toArray, RL_len HX.out.db.ok]; exact HX.out.cpu.there) (by rw [List.size_toArray, RL_len HX.out.db.ok]; exact regs_info) (RL_one _) ?_; have HX := hidW HX.out.copy; generalize World.setCells _ _ _ _ = w6 at HX ⊢) | (guard_target =~ wpList _ _ _ (Oper.mk (some 50) _ _ _ _ _ :: _) _ _; refine wpList_load_mid rfl _ _ rfl b 52 rfl (tkL t') _ (DB.tk HX.out.db) Tryz.underlying50 rfl tk_info ?_) | (guard_target =~ wpList _ _ _ (Oper.mk none (Op.store 50 _ _) _ _ _ _ :: _) _ _; refine wpList_store_mid rfl _ _ _ rfl w.heap.size 0 (tkL t').toArray rfl rfl (HX.out.box.there 8 rfl) tk_info (tk_one _) ?_; have HZ := hidW HX.out.ans; generalize World.setCells _ _ _ _ = w7 at HZ ⊢))
      have hl := run_loadVar_mid _ w.heap.size 0 50 (tkL t') _ HZ.out.2.2.2.range Tryz.underlying50 rfl tk_info
      exact bodyPost_ret (v := .agg (tkL t').toArray) (by simp [results, Tryz.results51, asAddr, hl, Act.put]) rfl ⟨rfl, HZ.out.1, HZ.out.2.1, HZ.out.2.2.1⟩
  · have hidx : ∀ w, (Instr.index 132 (.agg deL.toArray) (.int .i64 i.op)).run Tryz.prog w = .ok (.func (.func (dfn i.op.toNat)) #[] #[]) w := fun w => by
      have := de_idx i.op.toNat (by omega) (by omega) w
      rwa [show ((i.op.toNat : Nat) : Int) = i.op by omega] at this
    have HDd : Hid (∀ v, EX w v w.heap.size cb b lo lb pv hv av l R0 R1 line ln i t → Calls Tryz.prog (dfn i.op.toNat) #[.pointer (some ⟨b, 0, none⟩)] v fun e w' => e = .returned (.tuple #[]) ∧ EX w w' w.heap.size cb b lo lb pv hv av l' R0 R' line ln i t') := fun v hvv => by
      obtain ⟨av', k1, k2, k3⟩ := hvv.lq
      have hs := hvv.turn.size
      have nb : ¬ LO lb pv hv av' b := fun e => by
        rcases k2 b e with h5 | h5
        · exact mb h5
        · omega
      refine (hdeed rfl v av' k1 hvv.db nb (by omega)).mono ?_
      rintro e w' ⟨rfl, hq⟩
      exact ⟨rfl, hvv.deed k2 k3 hq⟩
    have hcf : ∀ (p : Value) w, (callFunc (dfn i.op.toNat) #[p]).run Tryz.prog w = .ok (.enter (dfn i.op.toNat) #[p]) w := fun p w => de_call _ (by omega) (by omega) p w
    have HDs : Hid (∀ v, Calls Tryz.prog 58 #[] v fun e w' => e = .returned (.agg deL.toArray) ∧ Below v.heap.size v w') := fun v => gdeeds v
    generalize dfn i.op.toNat = fnum at *
    generalize deL.toArray = DA at *
    clear hdeed hno HFl HPa
    go_wp2
    have HX := hidW HX.out.drew
    go_region_held3 (fun v => v.cell? ⟨b, 33, none⟩ = some (.int .i64 i.op)) (first | exact DB.ins HX.out.db 1 _ rfl) ((first | (go_at_call 58; refine (HDs.out _).mono ?_; rintro e w4 ⟨rfl, hb⟩; have HX := hidW (HX.out.step hb); clear hb) | (refine (HDd.out _ HX.out).mono ?_; rintro e w5 ⟨rfl, hx5⟩; have HX := hidW hx5; clear hx5)))
    cases kz
    · have c52 : w5.cell? ⟨b, 52, none⟩ = some (.int .i64 t'.kind) := DB.tk HX.out.db 0 _ rfl
      go_wp2_with (first | (guard_target =~ wpList _ _ _ (Oper.mk (some 50) _ _ _ _ _ :: _) _ _; refine wpList_load_mid rfl _ _ rfl b 52 rfl (tkL t') _ (DB.tk HX.out.db) Tryz.underlying50 rfl tk_info ?_) | (guard_target =~ wpList _ _ _ (Oper.mk none (Op.store 50 _ _) _ _ _ _ :: _) _ _; refine wpList_store_mid rfl _ _ _ rfl w.heap.size 0 (tkL t').toArray rfl rfl (HX.out.box.there 8 rfl) tk_info (tk_one _) ?_; have HZ := hidW HX.out.ans; generalize World.setCells _ _ _ _ = w7 at HZ ⊢))
      have hl := run_loadVar_mid _ w.heap.size 0 50 (tkL t') _ HZ.out.2.2.2.range Tryz.underlying50 rfl tk_info
      exact bodyPost_ret (v := .agg (tkL t').toArray) (by simp [results, Tryz.results51, asAddr, hl, Act.put]) rfl ⟨rfl, HZ.out.1, HZ.out.2.1, HZ.out.2.2.1⟩
    · have c52 : w5.cell? ⟨b, 52, none⟩ = some (.int .i64 t'.kind) := DB.tk HX.out.db 0 _ rfl
      go_wp2_with (first | (guard_target =~ wpList _ _ _ (Oper.mk (some 44) _ _ _ _ _ :: _) _ _; refine wpList_load_mid rfl _ _ rfl b 0 rfl (RL R') _ (regs_of HX.out.db) Tryz.underlying84 rfl (by rw [RL_len HX.out.db.ok]; exact regs_info) ?_) | (guard_target =~ wpList _ _ _ (Oper.mk none (Op.store 84 _ _) _ _ _ _ :: _) _ _; refine wpList_store_mid rfl _ _ _ rfl cb 0 (RL R').toArray rfl rfl (by rw [List.size_toArray, RL_len HX.out.db.ok]; exact HX.out.cpu.there) (by rw [List.size_toArray, RL_len HX.out.db.ok]; exact regs_info) (RL_one _) ?_; have HX := hidW HX.out.copy; generalize World.setCells _ _ _ _ = w6 at HX ⊢) | (guard_target =~ wpList _ _ _ (Oper.mk (some 50) _ _ _ _ _ :: _) _ _; refine wpList_load_mid rfl _ _ rfl b 52 rfl (tkL t') _ (DB.tk HX.out.db) Tryz.underlying50 rfl tk_info ?_) | (guard_target =~ wpList _ _ _ (Oper.mk none (Op.store 50 _ _) _ _ _ _ :: _) _ _; refine wpList_store_mid rfl _ _ _ rfl w.heap.size 0 (tkL t').toArray rfl rfl (HX.out.box.there 8 rfl) tk_info (tk_one _) ?_; have HZ := hidW HX.out.ans; generalize World.setCells _ _ _ _ = w7 at HZ ⊢))
      have hl := run_loadVar_mid _ w.heap.size 0 50 (tkL t') _ HZ.out.2.2.2.range Tryz.underlying50 rfl tk_info
      exact bodyPost_ret (v := .agg (tkL t').toArray) (by simp [results, Tryz.results51, asAddr, hl, Act.put]) rfl ⟨rfl, HZ.out.1, HZ.out.2.1, HZ.out.2.2.1⟩
end Go.Proofs.YtilhceajhlaojaaGreatDoor
namespace Go.Proofs.YtilhceajhlaojaaGreatDoor
open Go.RowKit
set_option linter.unusedVariables false
set_option linter.unusedSimpArgs false
set_option maxRecDepth 100000 in
set_option maxHeartbeats 1000000 in
theorem build_do (ev : Operand → Value) (o : Oper) (ho : o.op = .build 124 #[(0, .tmp 72), (1, .tmp 76), (2, .tmp 77), (3, .tmp 78), (4, .tmp 79)]) (R : List Int) (hR : R.length = 30) (ln : Bool) (lb : Nat) (i : Is.Ins) (t : Tk) (h0 : ev (.tmp 72) = .agg (RL R).toArray) (h1 : ev (.tmp 76) = .bool ln) (h2 : ev (.tmp 77) = .iface 42 (.pointer (some ⟨lb, 0, none⟩))) (h3 : ev (.tmp 78) = .agg (Is.insL i).toArray) (h4 : ev (.tmp 79) = .agg (tkL t).toArray) (w : World) :
    (execOp ev o).run Tryz.prog w = .ok (.value (.agg (RL R ++ doE ln (.iface 42 (.pointer (some ⟨lb, 0, none⟩))) i t).toArray)) w := by
  obtain ⟨a0, a1, a2, a3, a4, a5, a6, a7, a8, a9, a10, a11, a12, a13, a14, a15, a16, a17, a18, a19, a20, a21, a22, a23, a24, a25, a26, a27, a28, a29, rfl⟩ : ∃ a0 a1 a2 a3 a4 a5 a6 a7 a8 a9 a10 a11 a12 a13 a14 a15 a16 a17 a18 a19 a20 a21 a22 a23 a24 a25 a26 a27 a28 a29, R = [a0, a1, a2, a3, a4, a5, a6, a7, a8, a9, a10, a11, a12, a13, a14, a15, a16, a17, a18, a19, a20, a21, a22, a23, a24, a25, a26, a27, a28, a29] := by
    match R, hR with
    | [a0, a1, a2, a3, a4, a5, a6, a7, a8, a9, a10, a11, a12, a13, a14, a15, a16, a17, a18, a19, a20, a21, a22, a23, a24, a25, a26, a27, a28, a29], _ => exact ⟨_, _, _, _, _, _, _, _, _, _, _, _, _, _, _, _, _, _, _, _, _, _, _, _, _, _, _, _, _, _, rfl⟩
  unfold execOp
  simp only [ho, List.map_toArray, List.map_cons, List.map_nil, h0, h1, h2, h3, h4]
  kernel_rfl
end Go.Proofs.YtilhceajhlaojaaGreatDoor

import Derived.Test.YtilhceajhlaojaaGreatDoorZ13
import Derived.Deep.Cut
namespace Go.Proofs.YtilhceajhlaojaaGreatDoor
open Go.RowKit
set_option linter.unusedVariables false
set_option linter.unusedSimpArgs false
theorem info_parts {P : Program} {t : TypeId} {z : Option Value} {s b : Nat} (h : (P.info? t).map (fun i => (i.zero, i.size, i.bytes)) = some (z, s, b)) : ∃ i, P.info? t = some i ∧ i.zero = z ∧ i.size = s ∧ i.bytes = b := by
  cases hi : P.info? t with
  | none => rw [hi] at h; cases h
  | some i =>
    rw [hi] at h
    simp only [Option.map_some, Option.some.injEq, Prod.mk.injEq] at h
    exact ⟨i, rfl, h.1, h.2.1, h.2.2⟩
theorem turn_grown {w w' : World} {row : Option Nat} (h : w.grownBy w' row) : Turn (fun b => row = some b) w w' :=
  ⟨h.os, h.tape, h.output, h.size, fun k hk hn => h.block k hk (fun e => hn e.symm)⟩
set_option maxRecDepth 100000 in
theorem infoAsk : (Tryz.prog.info? 67).map (fun i => (i.zero, i.size, i.bytes)) = some (some (.agg #[.int .i64 0, .int .u32 0, .int .i64 0, .int .u32 0, .bool false, .int .i64 0, .int .i64 0, .int .i64 0, .int .i64 0, .int .u32 0, .int .i64 0, .bool false]), 12, 88) := by kernel_rfl
set_option maxRecDepth 100000 in
theorem infoPut : (Tryz.prog.info? 45).map (fun i => (i.zero, i.size, i.bytes)) = some (some (.agg #[.int .u32 0, .int .u32 0]), 2, 8) := by kernel_rfl
theorem akL_one (k : Ak) : ∀ u ∈ akL k, u.oneCell' = true := by
  intro u hu
  simp only [akL, List.mem_cons, List.mem_nil_iff, or_false] at hu
  rcases hu with rfl | rfl | rfl | rfl | rfl | rfl | rfl | rfl | rfl | rfl | rfl | rfl <;> rfl
theorem appAsk (w : World) (lo : Nat) (v x : Value) (L : List Ak) (k : Ak) (h : w.ownsRow lo 67 12 v L.length (L.flatMap akL)) (hx : Src Tryz.prog 12 56 x 1 (akL k) w) (hlo : lo ≤ w.heap.size) (hk : L.length ≤ 400000000000) :
    ∃ v' w', (∀ ty, (Builtin.append_ #[56, 56] ty #[v, x]).run Tryz.prog w = .ok v' w') ∧ w'.ownsRow lo 67 12 v' (L ++ [k]).length ((L ++ [k]).flatMap akL) ∧ Turn (fun b => v.ownBlock = some b) w w' ∧ (∀ g, v'.ownBlock = some g → v.ownBlock = some g ∨ w.heap.size ≤ g) := by
  obtain ⟨i0, hi, hz0, hz1, hz2⟩ := info_parts infoAsk
  have hm : maxLen = 9223372036854775807 := rfl
  obtain ⟨v', w', hr, ho', hg, hb⟩ := Mm.append_any (P := Tryz.prog) w 56 67 i0 _ Tryz.underlying56 hi hz0 (by rw [hz1]; rfl) lo L.length 1 v x (L.flatMap akL) (akL k) (by rw [hz1]; exact h) (by rw [hz1]; exact hx) hlo (by omega) (by rw [hz2]; omega)
  rw [hz1] at ho'
  refine ⟨v', w', hr, ?_, turn_grown hg, hb⟩
  rw [List.length_append, List.flatMap_append]
  simpa using ho'
/-- One asking more. -/
theorem LX.ask {w : World} {lo lb : Nat} {pv hv av : Value} {l : Ln} (h : LX w lo lb pv hv av l) (hlo : lo ≤ w.heap.size) (k : Ak) (x : Value) (hx : Src Tryz.prog 12 56 x 1 (akL k) w) (hn : l.asked.length ≤ 400000000000) :
    ∃ av' w', (∀ ty, (Builtin.append_ #[56, 56] ty #[av, x]).run Tryz.prog w = .ok av' w') ∧ Turn (fun b => av.ownBlock = some b) w w' ∧
      LX (w'.setCell ⟨lb, 2, none⟩ av') lo lb pv hv av' { l with asked := l.asked ++ [k] } ∧ Turn (LO lb pv hv av) w (w'.setCell ⟨lb, 2, none⟩ av') ∧ (∀ b, LO lb pv hv av' b → LO lb pv hv av b ∨ w.heap.size ≤ b) ∧ (w'.cell? ⟨lb, 2, none⟩ = some av ∧ w'.frozen? ⟨lb, 2, none⟩ = false) := by
  obtain ⟨av', w', hr, ho, ht, hb⟩ := appAsk w lo av x l.asked k h.a hx hlo hn
  have hlb := h.bl.turn ht h.al
  have hlt := h.bl.lt
  have hnl : av'.ownBlock ≠ some lb := fun e => by
    rcases hb lb e with h1 | h1
    · exact h.al h1
    · omega
  have hT : Turn (LO lb pv hv av) w (w'.setCell ⟨lb, 2, none⟩ av') := Turn.setCell (ht.trans (S' := fun _ => False) (Turn.refl _ _) (fun _ hx => hx.elim) |>.trans (Turn.refl (fun _ => False) _) (fun _ hx => hx.elim) |> fun t => ⟨t.os, t.tape, t.output, t.size, fun j hj hn => t.block j hj (fun e => hn (.inr (.inr (.inr e))))⟩) (.inl (.inl rfl)) _
  have hS : Turn (fun b => b = lb) w' (w'.setCell ⟨lb, 2, none⟩ av') := (TA.set (Turn.refl _ w') 2 av')
  refine ⟨av', w', hr, ht, ⟨?_, ?_, ?_, ?_, h.low, h.pl, h.hl, hnl, h.ph, ?_, ?_⟩, hT, ?_, ?_, ?_⟩
  · exact hlb.set 2 av'
  · exact own_turn (own_turn h.p ht (fun g hg e => h.pa g hg e)) hS (fun g hg e => h.pl (e ▸ hg))
  · exact own_turn (own_turn h.h ht (fun g hg e => h.ha g hg e)) hS (fun g hg e => h.hl (e ▸ hg))
  · exact own_turn ho hS (fun g hg e => hnl (e ▸ hg))
  · intro g hg e
    rcases hb g e with h1 | h1
    · exact h.pa g hg h1
    · have := (Mm.own_block_new h.p hg).2; omega
  · intro g hg e
    rcases hb g e with h1 | h1
    · exact h.ha g hg h1
    · have := (Mm.own_block_new h.h hg).2; omega
  · intro b hb2
    rcases hb2 with rfl | hb2 | hb2 | hb2
    · exact .inl (.inl rfl)
    · exact .inl (.inr (.inl hb2))
    · exact .inl (.inr (.inr (.inl hb2)))
    · rcases hb b hb2 with h1 | h1
      · exact .inl (.inr (.inr (.inr h1)))
      · exact .inr h1
  · exact hlb.cell 2
  · exact hlb.frozen 2
end Go.Proofs.YtilhceajhlaojaaGreatDoor
namespace Go.Proofs.YtilhceajhlaojaaGreatDoor
open Go.RowKit
set_option linter.unusedVariables false
set_option linter.unusedSimpArgs false
theorem LX.lenH {w : World} {lo lb : Nat} {pv hv av : Value} {l : Ln} (h : LX w lo lb pv hv av l) : ∃ a c, hv = .slice a l.holes.length c := by
  rcases Mm.row_of_own h.h with ⟨rfl, h2, _⟩ | ⟨g, cap, cur, rfl, _, _, h4, h5, _⟩
  · exact ⟨none, 0, by rw [h2]⟩
  · exact ⟨_, cap, rfl⟩
/-- No hole, and a word at a multiple of 4: no fault. -/
theorem bl5 {w : World} {q : Nat} {t : TypeId} {x0 x1 x2 x3 x4 : Value} (h : Bl w q t [x0, x1, x2, x3, x4]) : w.cell? ⟨q, 0, none⟩ = some x0 ∧ w.cell? ⟨q, 1, none⟩ = some x1 ∧ w.cell? ⟨q, 2, none⟩ = some x2 ∧ w.cell? ⟨q, 3, none⟩ = some x3 ∧ w.cell? ⟨q, 4, none⟩ = some x4 := ⟨h.cell 0, h.cell 1, h.cell 2, h.cell 3, h.cell 4⟩
set_option maxRecDepth 100000 in
set_option maxHeartbeats 1000000 in
theorem gfault0 (w : World) (lo lb : Nat) (pv hv av : Value) (l : Ln) (kd va vl : Int) (pr : Bool) (h : LX w lo lb pv hv av l) (hh : l.holes = []) (hva : 0 ≤ va ∧ va < 4294967296) (h4 : va % 4 = 0) : Calls Tryz.prog 150 #[.pointer (some ⟨lb, 0, none⟩), .agg #[.int .i64 kd, .int .u32 va, .int .i64 4, .int .u32 vl, .bool pr]] w fun e w' => e = .returned (.agg #[.int .i64 0, .int .i64 0, .int .i64 0]) ∧ Below w.heap.size w w' := by
  obtain ⟨sa, sc, hhv⟩ := h.lenH
  rw [hh] at hhv
  obtain ⟨⟨_, c1, _, _⟩, _⟩ := h.cells
  rw [hhv] at c1
  have hlt := h.bl.lt
  have d1 : ∀ o o', ((w.alloc o).alloc o').cell? ⟨lb, 1, none⟩ = some (.slice sa 0 sc) := fun o o' => cell_keep (cell_keep c1 (below_new _ _)) (below_new _ _)
  have HB : Hid (∀ o o', Below w.heap.size w ((w.alloc o).alloc o')) := fun o o' => Below.step (below_new _ _) (below_new _ _)
  clear h hh hhv c1
  go_enter Tryz.func150, Tryz.ntmps150
  go_wp2
  refine wp_loop_rounds 1 ?_
  rw [rounds_succ]
  go_wp2
  refine bodyPost_ret (v := .agg #[.int .i64 0, .int .i64 0, .int .i64 0]) (by simp [results, Tryz.results150, go_sem]) rfl ⟨rfl, ?_⟩
  exact HB.out _ _
def acV (kd va vl : Int) (pr : Bool) : Value := .agg #[.int .i64 kd, .int .u32 va, .int .i64 4, .int .u32 vl, .bool pr]
def anZ : List Value := [.int .u32 0, .int .i64 0, .int .i64 0, .int .i64 0]
/-- What is asked. -/
def askP (kd va vl : Int) (pr : Bool) : Ak := ⟨kd, va, 4, vl, pr, 0, 0, 0, 0, 0, 0, false⟩
/-- The state while an access is asked: what was asked is laid down; the box of the access, that of the answer. -/
structure AX (W v : World) (lo lb : Nat) (pv hv av : Value) (l : Ln) (kd va vl : Int) (pr : Bool) : Prop where
  lx : LX v lo lb pv hv av l
  turn : Turn (LO lb pv hv av) W v
  box : Bl v W.heap.size 65 [.int .i64 kd, .int .u32 va, .int .i64 4, .int .u32 vl, .bool pr]
  ans : Bl v (W.heap.size + 1) 119 anZ
theorem LO_lt {W v : World} {lo lb : Nat} {pv hv av : Value} {l : Ln} (h : LX W lo lb pv hv av l) {b : Nat} (hb : W.heap.size ≤ b) : ¬ LO lb pv hv av b := fun e => by have := h.lt e; omega
theorem AX.first {w : World} {lo lb : Nat} {pv hv av : Value} {l : Ln} (h : LX w lo lb pv hv av l) (kd va vl : Int) (pr : Bool) : AX w ((w.alloc (.cells #[.int .i64 kd, .int .u32 va, .int .i64 4, .int .u32 vl, .bool pr] 65)).alloc (.cells anZ.toArray 119)) lo lb pv hv av l kd va vl pr := by
  have b1 := below_new w (.cells #[.int .i64 kd, .int .u32 va, .int .i64 4, .int .u32 vl, .bool pr] 65)
  have b2 := below_new (w.alloc (.cells #[.int .i64 kd, .int .u32 va, .int .i64 4, .int .u32 vl, .bool pr] 65)) (.cells anZ.toArray 119)
  refine ⟨h.below (Below.step b1 b2), Turn.below (Below.step b1 b2), Bl.below (Bl.new w 65 [.int .i64 kd, .int .u32 va, .int .i64 4, .int .u32 vl, .bool pr]) b2, ?_⟩
  have := Bl.new (w.alloc (.cells #[.int .i64 kd, .int .u32 va, .int .i64 4, .int .u32 vl, .bool pr] 65)) 119 anZ
  rwa [World.size_alloc] at this
theorem AX.below {W v v' : World} {lo lb : Nat} {pv hv av : Value} {l : Ln} {kd va vl : Int} {pr : Bool} (h : AX W v lo lb pv hv av l kd va vl pr) (hb : Below v.heap.size v v') : AX W v' lo lb pv hv av l kd va vl pr :=
  ⟨h.lx.below hb, h.turn.then (Turn.below hb), h.box.below hb, h.ans.below hb⟩
theorem AX.drew {W v : World} {lo lb : Nat} {pv hv av : Value} {l : Ln} {kd va vl : Int} {pr : Bool} (h : AX W v lo lb pv hv av l kd va vl pr) : AX W v.drew lo lb pv hv av l kd va vl pr :=
  ⟨h.lx.drew, h.turn.drew, h.box.drew, h.ans.drew⟩
/-- Behind the asking. -/
def AY (W v : World) (lo lb : Nat) (pv hv av : Value) (l : Ln) (kd va vl : Int) (pr : Bool) : Prop :=
  ∃ av', LX v lo lb pv hv av' { l with asked := l.asked ++ [askP kd va vl pr] } ∧ Turn (LO lb pv hv av) W v ∧ Bl v W.heap.size 65 [.int .i64 kd, .int .u32 va, .int .i64 4, .int .u32 vl, .bool pr] ∧ Bl v (W.heap.size + 1) 119 anZ ∧ ∀ b, LO lb pv hv av' b → LO lb pv hv av b ∨ W.heap.size + 1 < b
theorem own_slice {w : World} {lo n size : Nat} {e : TypeId} {v : Value} {xs : List Value} (h : w.ownsRow lo e size v n xs) : ∃ a c, v = .slice a n c := by
  rcases Mm.row_of_own h with ⟨rfl, h2, _⟩ | ⟨g, cap, cur, rfl, _⟩
  · exact ⟨none, 0, by rw [h2]⟩
  · exact ⟨_, cap, rfl⟩
theorem AX.ask {W v : World} {lo lb : Nat} {pv hv av : Value} {l : Ln} {kd va vl : Int} {pr : Bool} (h : AX W v lo lb pv hv av l kd va vl pr) (hW : ∀ b, LO lb pv hv av b → b < W.heap.size) (hlo : lo ≤ W.heap.size) (hn : l.asked.length ≤ 400000000000) (qb : Nat) (hq : Bl v qb 67 (akL (askP kd va vl pr))) :
    ∃ av' w', (∃ sa sn sc, av' = .slice sa sn sc) ∧ (∀ ty, (Builtin.append_ #[56, 56] ty #[av, .slice (some ⟨qb, 0, none⟩) 1 1]).run Tryz.prog v = .ok av' w') ∧ AY W (w'.setCell ⟨lb, 2, none⟩ av') lo lb pv hv av l kd va vl pr ∧ (w'.cell? ⟨lb, 2, none⟩ = some av ∧ w'.frozen? ⟨lb, 2, none⟩ = false) ∧ (w'.cell? ⟨W.heap.size, 0, none⟩ = some (.int .i64 kd) ∧ w'.cell? ⟨W.heap.size, 1, none⟩ = some (.int .u32 va) ∧ w'.cell? ⟨W.heap.size, 2, none⟩ = some (.int .i64 4) ∧ w'.cell? ⟨W.heap.size, 3, none⟩ = some (.int .u32 vl) ∧ w'.cell? ⟨W.heap.size, 4, none⟩ = some (.bool pr)) ∧ ((w'.setCell ⟨lb, 2, none⟩ av').cell? ⟨W.heap.size, 0, none⟩ = some (.int .i64 kd) ∧ (w'.setCell ⟨lb, 2, none⟩ av').cell? ⟨W.heap.size, 1, none⟩ = some (.int .u32 va) ∧ (w'.setCell ⟨lb, 2, none⟩ av').cell? ⟨W.heap.size, 2, none⟩ = some (.int .i64 4) ∧ (w'.setCell ⟨lb, 2, none⟩ av').cell? ⟨W.heap.size, 3, none⟩ = some (.int .u32 vl) ∧ (w'.setCell ⟨lb, 2, none⟩ av').cell? ⟨W.heap.size, 4, none⟩ = some (.bool pr)) := by
  have hs : W.heap.size + 1 < v.heap.size := h.ans.lt
  have hsrc : Src Tryz.prog 12 56 (.slice (some ⟨qb, 0, none⟩) 1 1) 1 (akL (askP kd va vl pr)) v := Src.ofSlice _ Tryz.underlying56 ⟨qb, 0, none⟩ 1 1 _ rfl (fun j u hj => by rw [Addr.add_lit, Nat.zero_add]; exact (hq.cell j).trans hj) (akL_one _)
  obtain ⟨av', w', hr, ht, hlx, hT, hO, hc⟩ := h.lx.ask (by omega) (askP kd va vl pr) _ hsrc hn
  have n0 : ¬ (av.ownBlock = some W.heap.size) := fun e => by have := hW _ (.inr (.inr (.inr e))); omega
  have m0 : ¬ LO lb pv hv av W.heap.size := fun e => by have := hW _ e; omega
  have m1 : ¬ LO lb pv hv av (W.heap.size + 1) := fun e => by have := hW _ e; omega
  refine ⟨av', w', (by obtain ⟨a, c, e⟩ := own_slice hlx.a; exact ⟨a, _, c, e⟩), hr, ⟨av', hlx, h.turn.then hT, h.box.turn hT m0, h.ans.turn hT m1, fun b hb => ?_⟩, hc, bl5 (h.box.turn ht n0), bl5 (h.box.turn hT m0)⟩
  rcases hO b hb with h1 | h1
  · exact .inl h1
  · exact .inr (by omega)
structure AZ (W v : World) (lo lb : Nat) (pv hv av av' : Value) (l' : Ln) (kd va vl : Int) (pr : Bool) : Prop where
  lx : LX v lo lb pv hv av' l'
  turn : Turn (LO lb pv hv av) W v
  box : Bl v W.heap.size 65 [.int .i64 kd, .int .u32 va, .int .i64 4, .int .u32 vl, .bool pr]
  ans : Bl v (W.heap.size + 1) 119 anZ
theorem AZ.below {W v v' : World} {lo lb : Nat} {pv hv av av' : Value} {l' : Ln} {kd va vl : Int} {pr : Bool} (h : AZ W v lo lb pv hv av av' l' kd va vl pr) (hb : Below v.heap.size v v') : AZ W v' lo lb pv hv av av' l' kd va vl pr :=
  ⟨h.lx.below hb, h.turn.then (Turn.below hb), h.box.below hb, h.ans.below hb⟩
theorem AZ.fin {W v : World} {lo lb : Nat} {pv hv av av' : Value} {l' : Ln} {kd va vl : Int} {pr : Bool} (h : AZ W v lo lb pv hv av av' l' kd va vl pr) (hO : ∀ b, LO lb pv hv av' b → LO lb pv hv av b ∨ W.heap.size + 1 < b) (hW : ∀ b, LO lb pv hv av b → b < W.heap.size) (V : Int) :
    LX ((((v.setCell ⟨W.heap.size + 1, 0, none⟩ (.int .u32 V)).setCell ⟨W.heap.size + 1, 1, none⟩ (.int .i64 0)).setCell ⟨W.heap.size + 1, 2, none⟩ (.int .i64 0)).setCell ⟨W.heap.size + 1, 3, none⟩ (.int .i64 0)) lo lb pv hv av' l' ∧
    Turn (LO lb pv hv av) W ((((v.setCell ⟨W.heap.size + 1, 0, none⟩ (.int .u32 V)).setCell ⟨W.heap.size + 1, 1, none⟩ (.int .i64 0)).setCell ⟨W.heap.size + 1, 2, none⟩ (.int .i64 0)).setCell ⟨W.heap.size + 1, 3, none⟩ (.int .i64 0)) ∧
    Bl ((((v.setCell ⟨W.heap.size + 1, 0, none⟩ (.int .u32 V)).setCell ⟨W.heap.size + 1, 1, none⟩ (.int .i64 0)).setCell ⟨W.heap.size + 1, 2, none⟩ (.int .i64 0)).setCell ⟨W.heap.size + 1, 3, none⟩ (.int .i64 0)) (W.heap.size + 1) 119 [.int .u32 V, .int .i64 0, .int .i64 0, .int .i64 0] := by
  have hT : TA (W.heap.size + 1) v ((((v.setCell ⟨W.heap.size + 1, 0, none⟩ (.int .u32 V)).setCell ⟨W.heap.size + 1, 1, none⟩ (.int .i64 0)).setCell ⟨W.heap.size + 1, 2, none⟩ (.int .i64 0)).setCell ⟨W.heap.size + 1, 3, none⟩ (.int .i64 0)) := (((TA.set (Turn.refl _ v) 0 _).set 1 _).set 2 _).set 3 _
  refine ⟨h.lx.turn hT (fun b hb e => ?_), h.turn.trans hT (fun x hx => .inr (by have : x = W.heap.size + 1 := hx; omega)), (((h.ans.set 0 _).set 1 _).set 2 _).set 3 _⟩
  have e : b = W.heap.size + 1 := e
  rcases hO b hb with h1 | h1
  · have := hW b h1; omega
  · omega
theorem wdK_range {l : List (Int × Int)} (h : ∀ p ∈ l, (0 ≤ p.1 ∧ p.1 < 4294967296) ∧ (0 ≤ p.2 ∧ p.2 < 4294967296)) (a : Int) : ∀ k, 0 ≤ wdK l a k ∧ wdK l a k < 4294967296
  | 0 => by unfold wdK; decide
  | k + 1 => by
    have ih := wdK_range h a k
    rw [wdK]
    cases hk : l[k]? with
    | none => exact ih
    | some p =>
      show (0 : Int) ≤ (if p.1 - p.1 % 4 = a then p.2 else wdK l a k) ∧ (if p.1 - p.1 % 4 = a then p.2 else wdK l a k) < (4294967296 : Int)
      split
      · exact (h p (List.mem_of_getElem? hk)).2
      · exact ih
set_option maxRecDepth 100000 in
set_option maxHeartbeats 1000000 in
theorem gaccess0 (w : World) (lo lb : Nat) (pv hv av : Value) (l : Ln) (kd va vl : Int) (pr : Bool) (h : LX w lo lb pv hv av l) (ho : LOk l) (hlo : lo ≤ w.heap.size) (hn : l.asked.length ≤ 400000000000) (hh : l.holes = []) (hk : ¬ kd = 3) (hva : 0 ≤ va ∧ va < 4294967296) (h4 : va % 4 = 0) :
    Calls Tryz.prog 147 #[.pointer (some ⟨lb, 0, none⟩), acV kd va vl pr] w fun e w' => e = .returned (.agg #[.int .u32 (wdK l.puts va l.puts.length), .int .i64 0, .int .i64 0, .int .i64 0]) ∧ ∃ av', LX w' lo lb pv hv av' { l with asked := l.asked ++ [askP kd va vl pr] } ∧ Turn (LO lb pv hv av) w w' ∧ ∀ b, LO lb pv hv av' b → LO lb pv hv av b ∨ w.heap.size ≤ b := by
  have HX := hidW (AX.first h kd va vl pr)
  have HQ : Hid (∀ b, LO lb pv hv av b → b < w.heap.size) := fun b hb => h.lt hb
  have HS : Hid (∀ v qb, AX w v lo lb pv hv av l kd va vl pr → Bl v qb 67 (akL (askP kd va vl pr)) → _) := fun v qb hx hq => hx.ask HQ.out hlo hn qb hq
  have HF : Hid (∀ v av', LX v lo lb pv hv av' { l with asked := l.asked ++ [askP kd va vl pr] } → Calls Tryz.prog 150 #[.pointer (some ⟨lb, 0, none⟩), .agg #[.int .i64 kd, .int .u32 va, .int .i64 4, .int .u32 vl, .bool pr]] v fun e w' => e = .returned (.agg #[.int .i64 0, .int .i64 0, .int .i64 0]) ∧ Below v.heap.size v w') := fun v av' h => gfault0 v lo lb pv hv av' _ kd va vl pr h hh hva h4
  have HW : Hid (∀ v av', LX v lo lb pv hv av' { l with asked := l.asked ++ [askP kd va vl pr] } → Calls Tryz.prog 20 #[.pointer (some ⟨lb, 0, none⟩), .int .u32 va] v fun e w' => e = .returned (.int .u32 (wdK l.puts va l.puts.length)) ∧ Below v.heap.size v w') := fun v av' h => gWord v lo lb pv hv av' { l with asked := l.asked ++ [askP kd va vl pr] } va h ⟨ho.puts, ho.cop⟩
  have hwr := wdK_range ho.puts va l.puts.length
  generalize wdK l.puts va l.puts.length = V at *
  have ev : IntKind.u32.wrap va = va := by rw [IntKind.wrap_u32']; omega
  have eV : bits .and .u32 V 4294967295 = V := by
    rw [band_mod 32 4294967295 V (by decide) (by decide) hwr]
    rw [show (2 : Int) ^ 32 = 4294967296 by decide]
    omega
  have k3 : (kd == 3) = false := beq_eq_false_iff_ne.2 hk
  clear h
  unfold acV
  go_enter Tryz.func147, Tryz.ntmps147
  go_wp2
  go_cut [] from 10 (fun wx => AY w wx lo lb pv hv av l kd va vl pr)
  case first =>
    change Hid (AX w ((w.alloc (.cells #[.int .i64 kd, .int .u32 va, .int .i64 4, .int .u32 vl, .bool pr] 65)).alloc (.cells #[.int .u32 0, .int .i64 0, .int .i64 0, .int .i64 0] 119)) lo lb pv hv av l kd va vl pr) at HX
    generalize ((w.alloc (.cells #[.int .i64 kd, .int .u32 va, .int .i64 4, .int .u32 vl, .bool pr] 65)).alloc (.cells #[.int .u32 0, .int .i64 0, .int .i64 0, .int .i64 0] 119)) = w1 at HX ⊢
    have HX := hidW HX.out.drew
    refine wp_region_held_drew (S := fun v => v.cell? ⟨w.heap.size, 0, none⟩ = some (.int .i64 kd) ∧ v.cell? ⟨w.heap.size, 1, none⟩ = some (.int .u32 va) ∧ v.cell? ⟨w.heap.size, 2, none⟩ = some (.int .i64 4) ∧ v.cell? ⟨w.heap.size, 3, none⟩ = some (.int .u32 vl) ∧ v.cell? ⟨w.heap.size, 4, none⟩ = some (.bool pr)) (by kernel_rfl) (bl5 HX.out.box) (fun hHeld => ?_)
    clear hHeld
    generalize w1.drew = w2 at HX ⊢
    have K2 := hidW (bl5 HX.out.box)
    have k2 := HX.out.lx.cells.1.2.2.1
    refine wpAnyH_take (i := 0) (oi := { dst := some 10, op := Op.move (Operand.tmp 0), type := 42, pos := _, after := #[], guard := none }) (v := ?_) rfl (by kernel_rfl) (by kernel_rfl) (by kernel_rfl) (fun _ _ _ h => h) (Or.inl ⟨by rfl, ?_⟩) (by assumption) ?_
    rotate_left
    · (intro w hSw; (try dsimp only at hSw); go_simp; try with_reducible rfl)
    simp only [Act.put, List.setIfInBounds_toArray, List.set_cons_zero, List.set_cons_succ]
    refine wpAnyH_take (i := 1) (oi := { dst := some 11, op := Op.move (Operand.tmp 0), type := 42, pos := _, after := #[], guard := none }) (v := ?_) rfl (by kernel_rfl) (by kernel_rfl) (by kernel_rfl) (fun _ _ _ h => h) (Or.inl ⟨by rfl, ?_⟩) (by assumption) ?_
    rotate_left
    · (intro w hSw; (try dsimp only at hSw); go_simp; try with_reducible rfl)
    simp only [Act.put, List.setIfInBounds_toArray, List.set_cons_zero, List.set_cons_succ]
    refine wpAnyH_take (i := 2) (oi := { dst := some 12, op := Op.nilCheck (Operand.tmp 11), type := 0, pos := _, after := #[{ on := 1, ground := Ground.data }], guard := none }) (v := ?_) rfl (by kernel_rfl) (by kernel_rfl) (by kernel_rfl) (fun _ _ _ h => h) (Or.inl ⟨by rfl, ?_⟩) (by assumption) ?_
    rotate_left
    · (intro w hSw; (try dsimp only at hSw); go_simp; try with_reducible rfl)
    simp only [Act.put, List.setIfInBounds_toArray, List.set_cons_zero, List.set_cons_succ]
    refine wpAnyH_take (i := 3) (oi := { dst := some 13, op := Op.fieldAddr 58 (Operand.tmp 12) 2, type := 0, pos := _, after := #[{ on := 2, ground := Ground.data }], guard := none }) (v := ?_) rfl (by kernel_rfl) (by kernel_rfl) (by kernel_rfl) (fun _ _ _ h => h) (Or.inl ⟨by rfl, ?_⟩) (by assumption) ?_
    rotate_left
    · (intro w hSw; (try dsimp only at hSw); go_simp; try with_reducible rfl)
    simp only [Act.put, List.setIfInBounds_toArray, List.set_cons_zero, List.set_cons_succ]
    refine wpAnyH_take (i := 5) (oi := { dst := some 15, op := Op.load 65 (Operand.tmp 3), type := 65, pos := _, after := #[], guard := none }) (v := ?_) rfl (by kernel_rfl) (by kernel_rfl) (by kernel_rfl) (fun _ _ _ h => h) (Or.inl ⟨by rfl, ?_⟩) (by assumption) ?_
    rotate_left
    · (intro w hSw; (try dsimp only at hSw); go_simp; try with_reducible rfl)
    simp only [Act.put, List.setIfInBounds_toArray, List.set_cons_zero, List.set_cons_succ]
    refine wpAnyH_take (i := 6) (oi := { dst := some 16, op := Op.build 67 #[(0, Operand.tmp 15)], type := 67, pos := _, after := #[{ on := 5, ground := Ground.data }], guard := none }) (v := ?_) rfl (by kernel_rfl) (by kernel_rfl) (by kernel_rfl) (fun _ _ _ h => h) (Or.inl ⟨by rfl, ?_⟩) (by assumption) ?_
    rotate_left
    · (intro w hSw; (try dsimp only at hSw); go_simp; try with_reducible rfl)
    simp only [Act.put, List.setIfInBounds_toArray, List.set_cons_zero, List.set_cons_succ]
    refine wpAnyH_ready (rs := [4, 7]) (by kernel_rfl) (by simp) ?_
    refine (AllReadyH.cons (o := { dst := some 14, op := Op.load 56 (Operand.tmp 13), type := 56, pos := _, after := #[{ on := 3, ground := Ground.data }], guard := none }) rfl (fun K hK => ?_) (AllReadyH.cons (o := { dst := some 17, op := Op.buildSlice 56 1 #[(0, Operand.tmp 16)], type := 56, pos := _, after := #[{ on := 6, ground := Ground.data }], guard := none }) rfl (fun K hK => ?_) AllReadyH.nil))
    · go_simp
      skip
      refine hK.out _ _ ?_ (fun hHeld => ?_)
      · ((try dsimp only); with_reducible exact K2.out)
      clear hK K
      try simp only [Act.put, List.setIfInBounds_toArray, List.set_cons_zero, List.set_cons_succ]
      refine wpAnyH_ready (rs := [7]) (by kernel_rfl) (by simp) ?_
      refine (AllReadyH.cons (o := { dst := some 17, op := Op.buildSlice 56 1 #[(0, Operand.tmp 16)], type := 56, pos := _, after := #[{ on := 6, ground := Ground.data }], guard := none }) rfl (fun K hK => ?_) AllReadyH.nil)
      go_simp
      have HA := hidW (Bl.new w2 67 (akL (askP kd va vl pr))); have HX := hidW (HX.out.below (below_new w2 (.cells (akL (askP kd va vl pr)).toArray 67))); generalize hw3 : World.alloc w2 _ = w3; generalize w2.heap.size = qb at HA ⊢; have e3 : w2.alloc (.cells (akL (askP kd va vl pr)).toArray 67) = w3 := hw3; rw [e3] at HX HA; clear hw3 e3; have K2 := hidW (bl5 HX.out.box); have k2 := HX.out.lx.cells.1.2.2.1
      refine hK.out _ _ ?_ (fun hHeld => ?_)
      · ((try dsimp only); with_reducible exact K2.out)
      clear hK K
      try simp only [Act.put, List.setIfInBounds_toArray, List.set_cons_zero, List.set_cons_succ]
      refine wpAnyH_ready (rs := [8]) (by kernel_rfl) (by simp) ?_
      refine (AllReadyH.cons (o := { dst := some 18, op := Op.call { callee := Callee.builtin Builtin.append, args := #[Operand.tmp 14, Operand.tmp 17], argTypes := #[56, 56] }, type := 56, pos := _, after := #[{ on := 4, ground := Ground.data }, { on := 7, ground := Ground.data }], guard := none }) rfl (fun K hK => ?_) AllReadyH.nil)
      rw [if_pos (by kernel_rfl)]; obtain ⟨av', w4, ⟨sa, sn, sc, rfl⟩, hr, HY, ⟨g2, g3⟩, K4, K5⟩ := HS.out _ _ HX.out HA.out; refine Lib.wp_append_run _ _ _ 56 56 rfl _ _ rfl rfl _ _ (hr _) ?_; clear hr; have K2 := hidW K4
      refine hK.out _ _ ?_ (fun hHeld => ?_)
      · ((try dsimp only); with_reducible exact K2.out)
      clear hK K
      try simp only [Act.put, List.setIfInBounds_toArray, List.set_cons_zero, List.set_cons_succ]
      refine wpAnyH_take (i := 9) (oi := { dst := some 19, op := Op.nilCheck (Operand.tmp 10), type := 0, pos := _, after := #[{ on := 0, ground := Ground.data }, { on := 0, ground := Ground.phase }, { on := 1, ground := Ground.phase }, { on := 2, ground := Ground.phase }, { on := 3, ground := Ground.phase }, { on := 4, ground := Ground.phase }, { on := 5, ground := Ground.phase }, { on := 6, ground := Ground.phase }, { on := 7, ground := Ground.phase }, { on := 8, ground := Ground.phase }], guard := none }) (v := ?_) rfl (by kernel_rfl) (by kernel_rfl) (by kernel_rfl) (fun _ _ _ h => h) (Or.inl ⟨by rfl, ?_⟩) (by assumption) ?_
      rotate_left
      · (intro w hSw; (try dsimp only at hSw); go_simp; try with_reducible rfl)
      simp only [Act.put, List.setIfInBounds_toArray, List.set_cons_zero, List.set_cons_succ]
      refine wpAnyH_take (i := 10) (oi := { dst := some 20, op := Op.fieldAddr 58 (Operand.tmp 19) 2, type := 0, pos := _, after := #[{ on := 9, ground := Ground.data }, { on := 0, ground := Ground.phase }, { on := 1, ground := Ground.phase }, { on := 2, ground := Ground.phase }, { on := 3, ground := Ground.phase }, { on := 4, ground := Ground.phase }, { on := 5, ground := Ground.phase }, { on := 6, ground := Ground.phase }, { on := 7, ground := Ground.phase }, { on := 8, ground := Ground.phase }], guard := none }) (v := ?_) rfl (by kernel_rfl) (by kernel_rfl) (by kernel_rfl) (fun _ _ _ h => h) (Or.inl ⟨by rfl, ?_⟩) (by assumption) ?_
      rotate_left
      · (intro w hSw; (try dsimp only at hSw); go_simp; try with_reducible rfl)
      simp only [Act.put, List.setIfInBounds_toArray, List.set_cons_zero, List.set_cons_succ]
      refine wpAnyH_ready (rs := [11]) (by kernel_rfl) (by simp) ?_
      refine (AllReadyH.cons (o := { dst := none, op := Op.store 56 (Operand.tmp 20) (Operand.tmp 18), type := 0, pos := _, after := #[{ on := 10, ground := Ground.data }, { on := 8, ground := Ground.data }, { on := 8, ground := Ground.chain }, { on := 0, ground := Ground.phase }, { on := 1, ground := Ground.phase }, { on := 2, ground := Ground.phase }, { on := 3, ground := Ground.phase }, { on := 4, ground := Ground.phase }, { on := 5, ground := Ground.phase }, { on := 6, ground := Ground.phase }, { on := 7, ground := Ground.phase }, { on := 8, ground := Ground.phase }], guard := none }) rfl (fun K hK => ?_) AllReadyH.nil)
      go_simp
      skip
      refine hK.out _ _ ?_ (fun hHeld => ?_)
      · ((try dsimp only); exact K5)
      clear hK K
      try simp only [Act.put, List.setIfInBounds_toArray, List.set_cons_zero, List.set_cons_succ]
      refine wpAnyH_done (by kernel_rfl) ?_ _
      (go_wp2_with fail); go_meet; exact HY
    · go_simp
      have HA := hidW (Bl.new w2 67 (akL (askP kd va vl pr))); have HX := hidW (HX.out.below (below_new w2 (.cells (akL (askP kd va vl pr)).toArray 67))); generalize hw3 : World.alloc w2 _ = w3; generalize w2.heap.size = qb at HA ⊢; have e3 : w2.alloc (.cells (akL (askP kd va vl pr)).toArray 67) = w3 := hw3; rw [e3] at HX HA; clear hw3 e3; have K2 := hidW (bl5 HX.out.box); have k2 := HX.out.lx.cells.1.2.2.1
      refine hK.out _ _ ?_ (fun hHeld => ?_)
      · ((try dsimp only); with_reducible exact K2.out)
      clear hK K
      try simp only [Act.put, List.setIfInBounds_toArray, List.set_cons_zero, List.set_cons_succ]
      refine wpAnyH_ready (rs := [4]) (by kernel_rfl) (by simp) ?_
      refine (AllReadyH.cons (o := { dst := some 14, op := Op.load 56 (Operand.tmp 13), type := 56, pos := _, after := #[{ on := 3, ground := Ground.data }], guard := none }) rfl (fun K hK => ?_) AllReadyH.nil)
      go_simp
      skip
      refine hK.out _ _ ?_ (fun hHeld => ?_)
      · ((try dsimp only); with_reducible exact K2.out)
      clear hK K
      try simp only [Act.put, List.setIfInBounds_toArray, List.set_cons_zero, List.set_cons_succ]
      refine wpAnyH_ready (rs := [8]) (by kernel_rfl) (by simp) ?_
      refine (AllReadyH.cons (o := { dst := some 18, op := Op.call { callee := Callee.builtin Builtin.append, args := #[Operand.tmp 14, Operand.tmp 17], argTypes := #[56, 56] }, type := 56, pos := _, after := #[{ on := 4, ground := Ground.data }, { on := 7, ground := Ground.data }], guard := none }) rfl (fun K hK => ?_) AllReadyH.nil)
      rw [if_pos (by kernel_rfl)]; obtain ⟨av', w4, ⟨sa, sn, sc, rfl⟩, hr, HY, ⟨g2, g3⟩, K4, K5⟩ := HS.out _ _ HX.out HA.out; refine Lib.wp_append_run _ _ _ 56 56 rfl _ _ rfl rfl _ _ (hr _) ?_; clear hr; have K2 := hidW K4
      refine hK.out _ _ ?_ (fun hHeld => ?_)
      · ((try dsimp only); with_reducible exact K2.out)
      clear hK K
      try simp only [Act.put, List.setIfInBounds_toArray, List.set_cons_zero, List.set_cons_succ]
      refine wpAnyH_take (i := 9) (oi := { dst := some 19, op := Op.nilCheck (Operand.tmp 10), type := 0, pos := _, after := #[{ on := 0, ground := Ground.data }, { on := 0, ground := Ground.phase }, { on := 1, ground := Ground.phase }, { on := 2, ground := Ground.phase }, { on := 3, ground := Ground.phase }, { on := 4, ground := Ground.phase }, { on := 5, ground := Ground.phase }, { on := 6, ground := Ground.phase }, { on := 7, ground := Ground.phase }, { on := 8, ground := Ground.phase }], guard := none }) (v := ?_) rfl (by kernel_rfl) (by kernel_rfl) (by kernel_rfl) (fun _ _ _ h => h) (Or.inl ⟨by rfl, ?_⟩) (by assumption) ?_
      rotate_left
      · (intro w hSw; (try dsimp only at hSw); go_simp; try with_reducible rfl)
      simp only [Act.put, List.setIfInBounds_toArray, List.set_cons_zero, List.set_cons_succ]
      refine wpAnyH_take (i := 10) (oi := { dst := some 20, op := Op.fieldAddr 58 (Operand.tmp 19) 2, type := 0, pos := _, after := #[{ on := 9, ground := Ground.data }, { on := 0, ground := Ground.phase }, { on := 1, ground := Ground.phase }, { on := 2, ground := Ground.phase }, { on := 3, ground := Ground.phase }, { on := 4, ground := Ground.phase }, { on := 5, ground := Ground.phase }, { on := 6, ground := Ground.phase }, { on := 7, ground := Ground.phase }, { on := 8, ground := Ground.phase }], guard := none }) (v := ?_) rfl (by kernel_rfl) (by kernel_rfl) (by kernel_rfl) (fun _ _ _ h => h) (Or.inl ⟨by rfl, ?_⟩) (by assumption) ?_
      rotate_left
      · (intro w hSw; (try dsimp only at hSw); go_simp; try with_reducible rfl)
      simp only [Act.put, List.setIfInBounds_toArray, List.set_cons_zero, List.set_cons_succ]
      refine wpAnyH_ready (rs := [11]) (by kernel_rfl) (by simp) ?_
      refine (AllReadyH.cons (o := { dst := none, op := Op.store 56 (Operand.tmp 20) (Operand.tmp 18), type := 0, pos := _, after := #[{ on := 10, ground := Ground.data }, { on := 8, ground := Ground.data }, { on := 8, ground := Ground.chain }, { on := 0, ground := Ground.phase }, { on := 1, ground := Ground.phase }, { on := 2, ground := Ground.phase }, { on := 3, ground := Ground.phase }, { on := 4, ground := Ground.phase }, { on := 5, ground := Ground.phase }, { on := 6, ground := Ground.phase }, { on := 7, ground := Ground.phase }, { on := 8, ground := Ground.phase }], guard := none }) rfl (fun K hK => ?_) AllReadyH.nil)
      go_simp
      skip
      refine hK.out _ _ ?_ (fun hHeld => ?_)
      · ((try dsimp only); exact K5)
      clear hK K
      try simp only [Act.put, List.setIfInBounds_toArray, List.set_cons_zero, List.set_cons_succ]
      refine wpAnyH_done (by kernel_rfl) ?_ _
      (go_wp2_with fail); go_meet; exact HY
  case rest =>
    obtain ⟨av', hlx, hT, hbx, han, hO⟩ := hcut
    have HY := hidW (AZ.mk hlx hT hbx han)
    have HO2 : Hid (∀ b, LO lb pv hv av' b → LO lb pv hv av b ∨ w.heap.size ≤ b) := fun b hb => (hO b hb).imp_right (fun h => by omega)
    have HO := hidW hO
    clear hlx hT hbx han hO HS HX
    obtain ⟨b0, b1, b2, b3, b4⟩ := bl5 HY.out.box
    go_wp2_with (first | (go_at_call 150; refine (HF.out _ _ HY.out.lx).mono ?_; rintro e w1 ⟨rfl, hb⟩; have HY := hidW ((HY.out.below hb).below (below_new _ (.cells #[.int .i64 0, .int .i64 0, .int .i64 0] 48))); clear hb b0 b1 b2 b3 b4; obtain ⟨b0, b1, b2, b3, b4⟩ := bl5 HY.out.box) | (go_at_call 20; refine (HW.out _ _ HY.out.lx).mono ?_; rintro e w2 ⟨rfl, hb⟩; have HY := hidW (HY.out.below hb); clear hb b0 b1 b2 b3 b4; obtain ⟨b0, b1, b2, b3, b4⟩ := bl5 HY.out.box; obtain ⟨⟨a0, a1, a2, a3⟩, f0, f1, f2, f3⟩ := HY.out.ans.four))
    have HZ := hidW (HY.out.fin HO.out HQ.out V)
    obtain ⟨c0, c1, c2, c3⟩ := HZ.out.2.2.four.1
    generalize ((((w2.setCell ⟨w.heap.size + 1, 0, none⟩ (.int .u32 V)).setCell ⟨w.heap.size + 1, 1, none⟩ (.int .i64 0)).setCell ⟨w.heap.size + 1, 2, none⟩ (.int .i64 0)).setCell ⟨w.heap.size + 1, 3, none⟩ (.int .i64 0)) = w3 at *
    exact bodyPost_ret (v := .agg #[.int .u32 V, .int .i64 0, .int .i64 0, .int .i64 0]) (by simp [results, Tryz.results147, go_sem, c0, c1, c2, c3]) rfl ⟨rfl, av', HZ.out.1, HZ.out.2.1, HO2.out⟩
end Go.Proofs.YtilhceajhlaojaaGreatDoor

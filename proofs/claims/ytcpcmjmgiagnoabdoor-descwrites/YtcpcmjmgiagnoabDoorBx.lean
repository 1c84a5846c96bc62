import Derived.Test.YtcpcmjmgiagnoabDoorBw
namespace Go.Proofs.YtcpcmjmgiagnoabDoor
open Go.RowKit
set_option linter.unusedVariables false
set_option linter.unusedSimpArgs false
theorem hidIn {p : Prop} (h : p) : Hid p := h
theorem belA (w : World) (o : Obj) : Below w.heap.size w (w.alloc o) := (Below.refl _ _).alloc (Nat.le_refl _) o
theorem via1 {G : World → Prop} {P : World → Prop} {R : Prop} (main : (∀ w, P w → G w) → R) (key : ∀ w, P w → G w) : R := main key
/-- The entry in its block, the bits in block n. -/
structure ES (l : List Value) (W : World) (n : Nat) (f : Nat → Int) (w : World) : Prop where
  ent : Bl w W.heap.size 28 l
  arr : Bl w n 54 (encB f)
  bel : Below W.heap.size W w
  lt : W.heap.size < n
theorem ES.below {l : List Value} {W : World} {n : Nat} {f : Nat → Int} {w w' : World} (h : ES l W n f w) (hb : Below w.heap.size w w') : ES l W n f w' := ⟨h.ent.below hb, h.arr.below hb, Below.step h.bel hb, h.lt⟩
theorem ES.drew {l : List Value} {W : World} {n : Nat} {f : Nat → Int} {w : World} (h : ES l W n f w) : ES l W n f w.drew := ⟨h.ent.drew, h.arr.drew, below_drew h.bel, h.lt⟩
theorem ES.store {l : List Value} {W : World} {n : Nat} {f : Nat → Int} {w : World} (h : ES l W n f w) (g : Nat → Int) : ES l W n g (w.setRow n (encB g).toArray) := by
  have h1 := h.lt
  exact ⟨(setRow_other _ _ _ _ (by omega)).trans h.ent, storeB_bl _ _ g _ h.arr, Below.setRow h.bel _ (by omega) _, h.lt⟩
theorem es_start {l : List Value} {W w1 : World} (f : Nat → Int) (hb : Below (W.alloc (.cells l.toArray 28)).heap.size (W.alloc (.cells l.toArray 28)) w1) :
    ES l W w1.heap.size f (w1.alloc (.cells (encB f).toArray 54)) := by
  have h1 := (Bl.new W 28 l).below hb
  exact ⟨h1.below (belA w1 _), Bl.new w1 54 (encB f), Below.step (Below.one hb) (belA w1 _), h1.lt⟩
theorem wpl_load_es {l : List Value} {W : World} {n : Nat} {f : Nat → Int} {w : World} {ops : Array Oper} {rest : List Oper} {o : Oper} {a : Act} {Q : Exit → Act → World → Prop} (h : ES l W n f w) (hgd : o.guard = none) (x : Operand) (ho : o.op = Op.load 54 x) (hx : a.eval x = .pointer (some ⟨n, 0, none⟩))
    (hk : wpList Tryd.prog ops Q rest (a.put o.dst (.agg (encB f).toArray)) w) : wpList Tryd.prog ops Q (o :: rest) a w :=
  wpl_loadB w hgd x ho _ hx (loadB _ _ _ h.arr) hk
theorem wpl_store_es {l : List Value} {W : World} {n : Nat} {f : Nat → Int} {w : World} {ops : Array Oper} {rest : List Oper} {o : Oper} {a : Act} {Q : Exit → Act → World → Prop} (h : ES l W n f w) (g : Nat → Int) (hgd : o.guard = none) (x y : Operand) (ho : o.op = Op.store 54 x y) (hx : a.eval x = .pointer (some ⟨n, 0, none⟩)) (hy : a.eval y = .agg (encB g).toArray)
    (hk : ∀ w', Hid (ES l W n g w') → wpList Tryd.prog ops Q rest (a.put o.dst undef) w') : wpList Tryd.prog ops Q (o :: rest) a w :=
  wpl_storeB w hgd x y ho _ _ hx hy (storeB _ _ g _ h.arr (encB_len _)) (hk _ (h.store g))
theorem wp_load_es {l : List Value} {W : World} {n : Nat} {f : Nat → Int} {w : World} {o : Oper} {a : Act} {K : Act → World → Prop} {Q : Exit → Act → World → Prop} (h : ES l W n f w) (x : Operand) (ho : o.op = Op.load 54 x) (hx : a.eval x = .pointer (some ⟨n, 0, none⟩))
    (hk : K (a.put o.dst (.agg (encB f).toArray)) w) : o.wp Tryd.prog a w K Q := by
  unfold Oper.wp execOp
  simp only [ho, hx, Sem.run_bind, loadB _ _ _ h.arr, Sem.run_pure, Result.andThen_ok]
  exact hk
theorem wp_store_es {l : List Value} {W : World} {n : Nat} {f : Nat → Int} {w : World} {o : Oper} {a : Act} {K : Act → World → Prop} {Q : Exit → Act → World → Prop} (h : ES l W n f w) (g : Nat → Int) (x y : Operand) (ho : o.op = Op.store 54 x y) (hx : a.eval x = .pointer (some ⟨n, 0, none⟩)) (hy : a.eval y = .agg (encB g).toArray)
    (hk : ∀ w', Hid (ES l W n g w') → K (a.put o.dst undef) w') : o.wp Tryd.prog a w K Q := by
  unfold Oper.wp execOp
  simp only [ho, hx, hy, Sem.run_bind, storeB _ _ g _ h.arr (encB_len _), Sem.run_pure, Result.andThen_ok]
  exact hk _ (h.store g)
theorem power_l (n : Nat) (N : Int) (w : World) (hn : n ≤ 60) (hN : (2 : Int) ^ n = N) (m : Int) (hm : m = (n : Int)) : Calls Tryd.prog 27 #[.int .i64 m] w fun e w' => e = .returned (.int .u64 N) ∧ w = w' := by
  subst hm; subst hN
  exact power_any n w hn
theorem lay_l (f : Nat → Int) (hi lo : Nat) (x a b : Int) (ha : a = hi) (hb : b = lo) (h1 : lo ≤ hi) (h2 : hi < 32) (hx : 0 ≤ x ∧ x < 18446744073709551616) (g : Nat → Int) (hg : laid f lo hi x = g) (w : World) :
    Calls Tryd.prog 26 #[.agg (encB f).toArray, .int .i64 a, .int .i64 b, .int .u64 x] w fun e w' => e = .returned (.agg (encB g).toArray) ∧ Below w.heap.size w w' := by
  subst ha; subst hb; subst hg
  exact lay_any f lo hi x w h1 h2 hx
end Go.Proofs.YtcpcmjmgiagnoabDoor

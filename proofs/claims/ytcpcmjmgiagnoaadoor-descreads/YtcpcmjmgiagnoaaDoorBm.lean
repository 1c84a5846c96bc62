import Derived.Test.YtcpcmjmgiagnoaaDoorBk
namespace Go.Proofs.YtcpcmjmgiagnoaaDoor
open Go.RowKit
set_option linter.unusedVariables false
set_option linter.unusedSimpArgs false
theorem exec54 (o : Oper) (a : Act) (x : Operand) (ho : o.op = Op.load 54 x) (b : Nat) (g : Nat → Int) (hx : a.eval x = .pointer (some ⟨b, 0, none⟩)) (w : World) (h : Bl w b 54 (encB g)) :
    (execOp a.eval o).run Tryd.prog w = .ok (.value (.agg (encB g).toArray)) w := by
  unfold execOp
  simp only [ho, hx, Sem.run_bind, loadB w b g h, Sem.run_pure, Result.andThen_ok]
theorem hidIn {p : Prop} (h : p) : Hid p := h
theorem belS {w w1 w2 : World} (h1 : Below w.heap.size w w1) (h2 : Below w1.heap.size w1 w2) : Below w.heap.size w w2 := h1.trans (h2.mono h1.size)
theorem belA (w : World) (o : Obj) : Below w.heap.size w (w.alloc o) := (Below.refl _ _).alloc (Nat.le_refl _) o
theorem Bl.setC {w : World} {b : Nat} {t : TypeId} {l : List Value} (h : Bl w b t l) (c o : Nat) (hp : c ≠ b) (v : Value) : Bl (w.setCell ⟨c, o, none⟩ v) b t l := (Below.heap_setCell w ⟨c, o, none⟩ v b (Ne.symm hp)).trans h
theorem Bl.keep4 {w : World} {b : Nat} {t : TypeId} {l : List Value} (h : Bl w b t l) (c : Nat) (hc : c ≠ b) (v0 v1 v2 v3 : Value) : Bl ((((w.setCell ⟨c, 0, none⟩ v0).setCell ⟨c, 1, none⟩ v1).setCell ⟨c, 2, none⟩ v2).setCell ⟨c, 3, none⟩ v3) b t l := by
  have h := Bl.setC h c 0 hc v0
  have h := Bl.setC h c 1 hc v1
  have h := Bl.setC h c 2 hc v2
  have h := Bl.setC h c 3 hc v3
  exact h
theorem Bl.keep8' {w : World} {b : Nat} {t : TypeId} {l : List Value} (h : Bl w b t l) (c : Nat) (hc : c ≠ b) (v0 v1 v2 v3 v4 v5 v6 v7 : Value) : Bl ((((((((w.setCell ⟨c, 0, none⟩ v0).setCell ⟨c, 1, none⟩ v1).setCell ⟨c, 2, none⟩ v2).setCell ⟨c, 3, none⟩ v3).setCell ⟨c, 4, none⟩ v4).setCell ⟨c, 5, none⟩ v5).setCell ⟨c, 6, none⟩ v6).setCell ⟨c, 7, none⟩ v7) b t l := by
  have h := Bl.setC h c 0 hc v0
  have h := Bl.setC h c 1 hc v1
  have h := Bl.setC h c 2 hc v2
  have h := Bl.setC h c 3 hc v3
  have h := Bl.setC h c 4 hc v4
  have h := Bl.setC h c 5 hc v5
  have h := Bl.setC h c 6 hc v6
  have h := Bl.setC h c 7 hc v7
  exact h
theorem Bl.write4 {w : World} {c : Nat} {t : TypeId} {u0 u1 u2 u3 : Value} (h : Bl w c t [u0, u1, u2, u3]) (v0 v1 v2 v3 : Value) : Bl ((((w.setCell ⟨c, 0, none⟩ v0).setCell ⟨c, 1, none⟩ v1).setCell ⟨c, 2, none⟩ v2).setCell ⟨c, 3, none⟩ v3) c t [v0, v1, v2, v3] :=
  (((h.write1 0 v0).write1 1 v1).write1 2 v2).write1 3 v3
theorem belC {B : Nat} {a w : World} (h : Below B a w) (c : Nat) (hc : B ≤ c) (k : Nat) (v : Value) : Below B a (w.setCell ⟨c, k, none⟩ v) := Below.setCell h hc _
theorem via {G : Nat → World → Prop} {P : Nat → World → Prop} {R : Prop} (main : (∀ c w, P c w → G c w) → R) (key : ∀ c w, P c w → G c w) : R := main key
theorem power_l (n : Nat) (N : Int) (w : World) (hn : n ≤ 60) (hN : (2 : Int) ^ n = N) (m : Int) (hm : m = (n : Int)) : Calls Tryd.prog 30 #[.int .i64 m] w fun e w' => e = .returned (.int .u64 N) ∧ w = w' := by
  subst hm; subst hN
  exact power_any n w hn
/-- Behind 'b := bits(w)': the bits in block n, the result's block still zero. -/
structure RS (f : Nat → Int) (W : World) (n : Nat) (w : World) : Prop where
  arr : Bl w n 54 (encB f)
  res : Bl w W.heap.size 30 [.int .i64 0, .int .u64 0, .int .i64 0, .bool false, .int .i64 0, .int .u32 0, .bool false, .bool false]
  bel : Below W.heap.size W w
  lt : W.heap.size < n
theorem RS.below {f : Nat → Int} {W : World} {n : Nat} {w w' : World} (h : RS f W n w) (hb : Below w.heap.size w w') : RS f W n w' := ⟨h.arr.below hb, h.res.below hb, belS h.bel hb, h.lt⟩
theorem RS.drew {f : Nat → Int} {W : World} {n : Nat} {w : World} (h : RS f W n w) : RS f W n w.drew := ⟨h.arr.drew, h.res.drew, below_drew h.bel, h.lt⟩
theorem RS.cell {f : Nat → Int} {W : World} {n : Nat} {w : World} (h : RS f W n w) (k : Nat) (hk : k < 32) : w.cell? ⟨n, k, none⟩ = some (.int .i64 (f k)) := (h.arr.cell k).trans (encB_at f k hk)
theorem rs_start {f : Nat → Int} {W w1 : World} (Z : List Value) (hb : Below (W.alloc (.cells ([.int .i64 0, .int .u64 0, .int .i64 0, .bool false, .int .i64 0, .int .u32 0, .bool false, .bool false] : List Value).toArray 30)).heap.size (W.alloc (.cells ([.int .i64 0, .int .u64 0, .int .i64 0, .bool false, .int .i64 0, .int .u32 0, .bool false, .bool false] : List Value).toArray 30)) w1) :
    RS f W w1.heap.size ((w1.alloc (.cells Z.toArray 54)).setRow w1.heap.size (encB f).toArray) := by
  have h1 := (Bl.new W 30 [.int .i64 0, .int .u64 0, .int .i64 0, .bool false, .int .i64 0, .int .u32 0, .bool false, .bool false]).below hb
  have h2 := h1.lt
  refine ⟨storeB_bl _ _ f Z (Bl.new w1 54 Z), ?_, ?_, h2⟩
  · exact (setRow_other _ _ _ _ (by omega)).trans (h1.below (belA w1 _))
  · exact Below.setRow (belS (Below.one hb) (belA w1 _)) _ (by omega) _
/-- And with a leaf in block c. -/
structure RL (f : Nat → Int) (W : World) (n : Nat) (l : List Value) (c : Nat) (w : World) : Prop extends RS f W n w where
  leaf : Bl w c 28 l
  ltc : W.heap.size < c
  nec : c ≠ n
theorem RL.below {f : Nat → Int} {W : World} {n : Nat} {l : List Value} {c : Nat} {w w' : World} (h : RL f W n l c w) (hb : Below w.heap.size w w') : RL f W n l c w' := ⟨h.toRS.below hb, h.leaf.below hb, h.ltc, h.nec⟩
theorem RL.drew {f : Nat → Int} {W : World} {n : Nat} {l : List Value} {c : Nat} {w : World} (h : RL f W n l c w) : RL f W n l c w.drew := ⟨h.toRS.drew, h.leaf.drew, h.ltc, h.nec⟩
theorem RS.alloc {f : Nat → Int} {W : World} {n : Nat} {w : World} (h : RS f W n w) (l : List Value) : RL f W n l w.heap.size (w.alloc (.cells l.toArray 28)) :=
  ⟨h.below (belA w _), Bl.new w _ l, h.res.lt, by have := h.arr.lt; omega⟩
theorem RL.store {f : Nat → Int} {W : World} {n c : Nat} {w : World} {u0 u1 u2 u3 : Value} (h : RL f W n [u0, u1, u2, u3] c w) (v0 v1 v2 v3 : Value) : RL f W n [v0, v1, v2, v3] c ((((w.setCell ⟨c, 0, none⟩ v0).setCell ⟨c, 1, none⟩ v1).setCell ⟨c, 2, none⟩ v2).setCell ⟨c, 3, none⟩ v3) := by
  have h1 := h.ltc
  exact ⟨⟨h.arr.keep4 c h.nec _ _ _ _, h.res.keep4 c (by omega) _ _ _ _, belC (belC (belC (belC h.bel c (by omega) _ _) c (by omega) _ _) c (by omega) _ _) c (by omega) _ _, h.lt⟩, h.leaf.write4 _ _ _ _, h.ltc, h.nec⟩
theorem RL.put {f : Nat → Int} {W : World} {n c : Nat} {w : World} {l : List Value} (h : RL f W n l c w) (k : Nat) (v : Value) : RL f W n (l.set k v) c (w.setCell ⟨c, k, none⟩ v) := by
  have h1 := h.ltc
  exact ⟨⟨h.arr.setC c k h.nec v, h.res.setC c k (by omega) v, belC h.bel c (by omega) _ _, h.lt⟩, h.leaf.write1 k v, h.ltc, h.nec⟩
end Go.Proofs.YtcpcmjmgiagnoaaDoor

import Derived.Test.YtliiblaodhcjhabWithR
namespace Go.Proofs.Ytliiblaodhcjhab
open Go.RowKit Go.Shelf
set_option linter.unusedVariables false
attribute [local go_sem] Oper.semAt_some

/-! The parts of the law's code. -/
def sq2 : Code → Code
  | .seq _ y => y
  | c => c
def sq1 : Code → Code
  | .seq x _ => x
  | c => c
def blkC : Code → Code
  | .block _ c => c
  | c => c
def rfB : Code → Code
  | .rangeFunc _ _ _ b => b
  | c => c
def from10 (f : Func) : Code := sq2 (sq2 (sq2 (sq2 (sq2 (sq2 (sq2 (f.body.getD .skip)))))))
def from12 (f : Func) : Code := sq2 (from10 f)
def from19 (f : Func) : Code := sq2 (sq2 (sq2 (from12 f)))
def body5 (f : Func) : Code := rfB (blkC (sq2 (sq1 (sq2 (sq2 (from12 f))))))

theorem regionIn_held {n l k : Nat} {P : Program} {id : Nat} {ops : Array Oper} {Q : Exit → Act → World → Prop} (S : World → Prop) {a : Act} {w : World} (hk : ops.size = k) (hm : P.follows .mixedOrders = true) (hd : ∀ (i : Nat) o, ops[i]? = some o → ∀ c, o.op ≠ .defer c) (hQ : ¬ LetsOut Q)
    (h : wpAnyH P .any ops Q S k (Array.replicate k false) a w.drew) : (Code.region id ops true).wpIn (Fence.wide.inRound l) n P Q a w := by
  subst hk
  exact regionIn_of_held hm hd hQ h

theorem turn_cell {W W' : World} {p : Nat} {v : Value} (t : Turn W W' p v) {b : Nat} (hb : b < W.heap.size) (h1 : b ≠ p) (h2 : some b ≠ v.ownBlock) (o : Nat) : W'.cell? ⟨b, o, none⟩ = W.cell? ⟨b, o, none⟩ := by
  simp only [World.cell?, t.block b hb h1 h2]

set_option maxRecDepth 100000 in
set_option maxHeartbeats 8000000 in
theorem body5_any {t0 t1 t2 t3 t4 t5 t6 t7 t10 t12 t13 t16 t17 t18 t19 t20 t21 t22 t23 t24 t25 t26 t27 t28 t29 t30 t31 t32 t33 t34 t35 t36 t37 t38 t39 t40 t41 t42 t43 t44 t45 t46 t47 t48 t49 t50 t51 t52 t53 t54 t55 t56 t57 t58 t59 t60 t61 t62 : Value} (n l : Nat) (W w8 w10 : World) (Bm Bw lw : Nat) (wa : Option Addr) (wc gl : Nat) (G L pre : List (Sp Int)) (x : Sp Int) (Y : World) (Bx : Nat)
    (hI : Stw W w8 w10 Bm Bw lw wa wc gl G L pre Y) (hGL : G.length = gl) (hL : L.length ≤ 3000000) (hBx : w10.heap.size ≤ Bx) (hx : Y.heap[Bx]? = some (.cells #[.int .u64 x.lo, .int .u64 x.hi, .int .i64 x.val] 45 (0, 0)))
    (hxo : ∀ u, Y.cell? ⟨W.heap.size + 1, 0, none⟩ = some u → u.ownBlock ≠ some Bx)
    (hlt : pre.length < gl)
    (n1 : W.heap.size + 1 < w8.heap.size) (n2 : Bw ≠ W.heap.size + 1) (n3 : Bm ≠ W.heap.size + 1) (n4 : Bw < w8.heap.size) (n5 : Bm < w8.heap.size) (n6 : w8.heap.size + 4 ≤ w10.heap.size) (hgl : gl ≤ 3000000) :
    (body5 Try.f5).wpIn (Fence.wide.inRound l) n Try.prog (ownPostG w10.heap.size (KpS (w8.heap.size + 1 + 1 + 1) (W.heap.size + 1)) (fun pre Y => Stw W w8 w10 Bm Bw lw wa wc gl G L pre Y) (fun c pre Y => c = .ret ∧ ¬ pre <+: G) (pre ++ [x]) Y) { tmps := #[t0, t1, t2, t3, t4, t5, t6, t7, .pointer (some ⟨W.heap.size, 0, none⟩), .pointer (some ⟨Bm, 0, none⟩), t10, .pointer (some ⟨Bw, 0, none⟩), t12, t13, .pointer (some ⟨w8.heap.size + 1 + 1 + 1, 0, none⟩), .pointer (some ⟨Bx, 0, none⟩), t16, t17, t18, t19, t20, t21, t22, t23, t24, t25, t26, t27, t28, t29, t30, t31, t32, t33, t34, t35, t36, t37, t38, t39, t40, t41, t42, t43, t44, t45, t46, t47, t48, t49, t50, t51, t52, t53, t54, t55, t56, t57, t58, t59, t60, t61, t62, .agg #[.int .u64 x.lo, .int .u64 x.hi, .int .i64 x.val], undef, undef, undef, undef, undef, undef, undef, undef, undef, undef, undef, undef, undef, undef, undef, undef, undef, undef, undef, undef, undef, undef, undef, undef, undef, undef, undef, undef, undef, undef, undef, undef, undef, undef, undef, undef], defers := [] } Y := by
  simp only [body5, from12, from10, sq2, sq1, blkC, rfB, Try.f5, Option.getD]
  have c14 := hI.cnt.cell
  have f14 := hI.cnt.frozen
  have c11 := hI.want.cell
  have c9 := hI.map.cell
  have x0 : Y.cell? ⟨Bx, 0, none⟩ = some (.int .u64 x.lo) := by simp [World.cell?, hx]
  have x1 : Y.cell? ⟨Bx, 1, none⟩ = some (.int .u64 x.hi) := by simp [World.cell?, hx]
  have x2 : Y.cell? ⟨Bx, 2, none⟩ = some (.int .i64 x.val) := by simp [World.cell?, hx]
  have hGy : ∃ y, G[pre.length]? = some y := ⟨G[pre.length]'(by omega), by simp⟩
  obtain ⟨y, hGy⟩ := hGy
  have hwc : ∃ gw, wa = some ⟨gw, 0, none⟩ ∧ gw < Y.heap.size ∧ Y.cell? ⟨gw, pre.length * 3, none⟩ = some (.int .u64 y.lo) ∧ Y.cell? ⟨gw, pre.length * 3 + 1, none⟩ = some (.int .u64 y.hi) ∧ Y.cell? ⟨gw, pre.length * 3 + 2, none⟩ = some (.int .i64 y.val) := by
    have hq : Lr Y lw (.slice wa gl wc) G := by rw [Lr, hGL]; exact hI.list
    obtain ⟨a', c', e1, e2⟩ := Lr.view hq
    have e3 := (Value.slice.inj e1).1
    obtain ⟨g, h1, h2, h3, h4, h5, h6, h7⟩ := e2 pre.length y hGy
    exact ⟨g, e3.trans h1, h3, h4, h5, h6⟩
  obtain ⟨gw, rfl, lgw, q0, q1, q2⟩ := hwc
  obtain ⟨vm, hMm⟩ := hI.at'
  have z1 : ¬ (gl : Int) ≤ (pre.length : Int) := by omega
  have z2 : (pre.length : Int) < (gl : Int) := by omega
  have z3 : (0 : Int) ≤ (pre.length : Int) := by omega
  have z4 : (pre.length : Int) ≤ 3000000 := by omega
  have kx : Bx < Y.heap.size := (Array.getElem?_eq_some_iff.1 hx).1
  have k14 := hI.cnt.lt
  have k11 := hI.want.lt
  have k9 := hI.map.lt
  have hS0 : (fun w' : World => w'.cell? ⟨w8.heap.size + 1 + 1 + 1, 0, none⟩ = some (.int .i64 pre.length) ∧ w'.cell? ⟨Bw, 0, none⟩ = some (.slice (some ⟨gw, 0, none⟩) gl wc) ∧ w'.cell? ⟨Bm, 0, none⟩ = some (.pointer (some ⟨W.heap.size + 1, 0, none⟩)) ∧ w'.cell? ⟨Bx, 0, none⟩ = some (.int .u64 x.lo) ∧ w'.cell? ⟨Bx, 1, none⟩ = some (.int .u64 x.hi) ∧ w'.cell? ⟨Bx, 2, none⟩ = some (.int .i64 x.val) ∧ w'.cell? ⟨gw, pre.length * 3, none⟩ = some (.int .u64 y.lo) ∧ w'.cell? ⟨gw, pre.length * 3 + 1, none⟩ = some (.int .u64 y.hi) ∧ w'.cell? ⟨gw, pre.length * 3 + 2, none⟩ = some (.int .i64 y.val)) Y.drew := ⟨c14, c11, c9, x0, x1, x2, q0, q1, q2⟩
  have HGy := Hid.mk2 hGy
  have HI := Hid.mk2 hI
  have HX := Hid.mk2 hx
  have HXo := Hid.mk2 hxo
  have HMm := Hid.mk2 hMm
  clear hGy hI hx hxo hMm c14 c11 c9 x0 x1 x2 q0 q1 q2
  gi_wp2
  refine regionIn_held (k := 19) (fun w' : World => w'.cell? ⟨w8.heap.size + 1 + 1 + 1, 0, none⟩ = some (.int .i64 pre.length) ∧ w'.cell? ⟨Bw, 0, none⟩ = some (.slice (some ⟨gw, 0, none⟩) gl wc) ∧ w'.cell? ⟨Bm, 0, none⟩ = some (.pointer (some ⟨W.heap.size + 1, 0, none⟩)) ∧ w'.cell? ⟨Bx, 0, none⟩ = some (.int .u64 x.lo) ∧ w'.cell? ⟨Bx, 1, none⟩ = some (.int .u64 x.hi) ∧ w'.cell? ⟨Bx, 2, none⟩ = some (.int .i64 x.val) ∧ w'.cell? ⟨gw, pre.length * 3, none⟩ = some (.int .u64 y.lo) ∧ w'.cell? ⟨gw, pre.length * 3 + 1, none⟩ = some (.int .u64 y.hi) ∧ w'.cell? ⟨gw, pre.length * 3 + 2, none⟩ = some (.int .i64 y.val)) (by rfl) (by kernel_rfl) (no_defer (by kernel_rfl)) (by rintro ⟨a, w, h⟩; exact h) ?_
  refine wpAnyH_take (i := 0) (oi := { dst := some 64, op := Op.load 3 (Operand.tmp 14), type := 3, pos := _, after := #[], guard := none }) (v := .int .i64 pre.length) rfl (by kernel_rfl) (by kernel_rfl) (by kernel_rfl) (fun _ _ _ h => h) (Or.inl ⟨by rfl, ?_⟩) (by assumption) ?_
  · intro w hSw
    try dsimp only at hSw
    go_simp
  simp only [Act.put, List.setIfInBounds_toArray, List.set_cons_zero, List.set_cons_succ]
  refine wpAnyH_take (i := 1) (oi := { dst := some 65, op := Op.load 36 (Operand.tmp 11), type := 36, pos := _, after := #[], guard := none }) (v := .slice (some ⟨gw, 0, none⟩) gl wc) rfl (by kernel_rfl) (by kernel_rfl) (by kernel_rfl) (fun _ _ _ h => h) (Or.inl ⟨by rfl, ?_⟩) (by assumption) ?_
  · intro w hSw
    try dsimp only at hSw
    go_simp
  simp only [Act.put, List.setIfInBounds_toArray, List.set_cons_zero, List.set_cons_succ]
  refine wpAnyH_take (i := 2) (oi := { dst := some 66, op := Op.call { callee := Callee.builtin Builtin.len, args := #[Operand.tmp 65], argTypes := #[36] }, type := 3, pos := _, after := #[{ on := 1, ground := Ground.data }], guard := none }) (v := .int .i64 gl) rfl (by kernel_rfl) (by kernel_rfl) (by kernel_rfl) (fun _ _ _ h => h) (Or.inl ⟨by rfl, ?_⟩) (by assumption) ?_
  · intro w hSw
    try dsimp only at hSw
    go_simp
  simp only [Act.put, List.setIfInBounds_toArray, List.set_cons_zero, List.set_cons_succ]
  refine wpAnyH_take (i := 3) (oi := { dst := some 67, op := Op.binOp BinOp.geq 3 (Operand.tmp 64) (Operand.tmp 66) 3, type := 4, pos := _, after := #[{ on := 0, ground := Ground.data }, { on := 2, ground := Ground.data }], guard := none }) (v := .bool false) rfl (by kernel_rfl) (by kernel_rfl) (by kernel_rfl) (fun _ _ _ h => h) (Or.inl ⟨by rfl, ?_⟩) (by assumption) ?_
  · intro w hSw
    try dsimp only at hSw
    go_simp
  simp only [Act.put, List.setIfInBounds_toArray, List.set_cons_zero, List.set_cons_succ]
  refine wpAnyH_take (i := 4) (oi := { dst := some 68, op := Op.move (Operand.tmp 67), type := 4, pos := _, after := #[{ on := 3, ground := Ground.data }], guard := none }) (v := .bool false) rfl (by kernel_rfl) (by kernel_rfl) (by kernel_rfl) (fun _ _ _ h => h) (Or.inl ⟨by rfl, ?_⟩) (by assumption) ?_
  · intro w hSw
    try dsimp only at hSw
    go_simp
  simp only [Act.put, List.setIfInBounds_toArray, List.set_cons_zero, List.set_cons_succ]
  refine wpAnyH_take (i := 5) (oi := { dst := some 69, op := Op.load 45 (Operand.tmp 15), type := 45, pos := _, after := #[{ on := 4, ground := Ground.guard }], guard := some (4, false) }) (v := .agg #[.int .u64 x.lo, .int .u64 x.hi, .int .i64 x.val]) rfl (by kernel_rfl) (by kernel_rfl) (by kernel_rfl) (fun _ _ _ h => h) (Or.inl ⟨by rfl, ?_⟩) (by assumption) ?_
  · intro w hSw
    try dsimp only at hSw
    go_simp
  simp only [Act.put, List.setIfInBounds_toArray, List.set_cons_zero, List.set_cons_succ]
  refine wpAnyH_take (i := 6) (oi := { dst := some 70, op := Op.load 36 (Operand.tmp 11), type := 36, pos := _, after := #[{ on := 4, ground := Ground.guard }], guard := some (4, false) }) (v := .slice (some ⟨gw, 0, none⟩) gl wc) rfl (by kernel_rfl) (by kernel_rfl) (by kernel_rfl) (fun _ _ _ h => h) (Or.inl ⟨by rfl, ?_⟩) (by assumption) ?_
  · intro w hSw
    try dsimp only at hSw
    go_simp
  simp only [Act.put, List.setIfInBounds_toArray, List.set_cons_zero, List.set_cons_succ]
  refine wpAnyH_take (i := 7) (oi := { dst := some 71, op := Op.load 3 (Operand.tmp 14), type := 3, pos := _, after := #[{ on := 4, ground := Ground.guard }], guard := some (4, false) }) (v := .int .i64 pre.length) rfl (by kernel_rfl) (by kernel_rfl) (by kernel_rfl) (fun _ _ _ h => h) (Or.inl ⟨by rfl, ?_⟩) (by assumption) ?_
  · intro w hSw
    try dsimp only at hSw
    go_simp
  simp only [Act.put, List.setIfInBounds_toArray, List.set_cons_zero, List.set_cons_succ]
  refine wpAnyH_take (i := 8) (oi := { dst := some 72, op := Op.indexAddr 36 (Operand.tmp 70) (Operand.tmp 71), type := 0, pos := _, after := #[{ on := 6, ground := Ground.data }, { on := 7, ground := Ground.data }, { on := 4, ground := Ground.guard }], guard := some (4, false) }) (v := .pointer (some ⟨gw, pre.length * 3, none⟩)) rfl (by kernel_rfl) (by kernel_rfl) (by kernel_rfl) (fun _ _ _ h => h) (Or.inl ⟨by rfl, ?_⟩) (by assumption) ?_
  · intro w hSw
    try dsimp only at hSw
    go_simp
  simp only [Act.put, List.setIfInBounds_toArray, List.set_cons_zero, List.set_cons_succ]
  refine wpAnyH_take (i := 9) (oi := { dst := some 73, op := Op.load 47 (Operand.tmp 72), type := 47, pos := _, after := #[{ on := 8, ground := Ground.data }, { on := 4, ground := Ground.guard }], guard := some (4, false) }) (v := .agg #[.int .u64 y.lo, .int .u64 y.hi, .int .i64 y.val]) rfl (by kernel_rfl) (by kernel_rfl) (by kernel_rfl) (fun _ _ _ h => h) (Or.inl ⟨by rfl, ?_⟩) (by assumption) ?_
  · intro w hSw
    try dsimp only at hSw
    go_simp
  simp only [Act.put, List.setIfInBounds_toArray, List.set_cons_zero, List.set_cons_succ]
  have HS0 := Hid.mk2 hS0
  clear hS0
  refine wpAnyH_ready (rs := [10]) (by kernel_rfl) (by simp) ?_
  refine AllReadyH.cons (o := { dst := some 74, op := Op.call { callee := Callee.value (Operand.func 16), args := #[Operand.tmp 69, Operand.tmp 73], argTypes := #[45, 47] }, type := 4, pos := _, after := #[{ on := 5, ground := Ground.data }, { on := 9, ground := Ground.data }, { on := 4, ground := Ground.chain }, { on := 4, ground := Ground.guard }], guard := some (4, false) }) rfl (fun K hK => ?_) AllReadyH.nil
  go_simp
  refine (like_gen x y _).mono ?_
  rintro e wL ⟨rfl, hbL⟩
  show K _ _
  have hbY : Below Y.heap.size Y wL := below_go ((Below.refl _ Y).drew) hbL
  have hSL : (fun w' : World => w'.cell? ⟨w8.heap.size + 1 + 1 + 1, 0, none⟩ = some (.int .i64 pre.length) ∧ w'.cell? ⟨Bw, 0, none⟩ = some (.slice (some ⟨gw, 0, none⟩) gl wc) ∧ w'.cell? ⟨Bm, 0, none⟩ = some (.pointer (some ⟨W.heap.size + 1, 0, none⟩)) ∧ w'.cell? ⟨Bx, 0, none⟩ = some (.int .u64 x.lo) ∧ w'.cell? ⟨Bx, 1, none⟩ = some (.int .u64 x.hi) ∧ w'.cell? ⟨Bx, 2, none⟩ = some (.int .i64 x.val) ∧ w'.cell? ⟨gw, pre.length * 3, none⟩ = some (.int .u64 y.lo) ∧ w'.cell? ⟨gw, pre.length * 3 + 1, none⟩ = some (.int .u64 y.hi) ∧ w'.cell? ⟨gw, pre.length * 3 + 2, none⟩ = some (.int .i64 y.val)) wL := by
    obtain ⟨s1, s2, s3, s4, s5, s6, s7, s8, s9⟩ := HS0.out
    have hc := (bcell hbY).1
    exact ⟨(hc _ _ k14).trans s1, (hc _ _ k11).trans s2, (hc _ _ k9).trans s3, (hc _ _ kx).trans s4, (hc _ _ kx).trans s5, (hc _ _ kx).trans s6, (hc _ _ lgw).trans s7, (hc _ _ lgw).trans s8, (hc _ _ lgw).trans s9⟩
  refine hK.out _ _ hSL (fun hHeld => ?_)
  clear hK K hbL hHeld HS0
  try simp only [Act.put, List.setIfInBounds_toArray, List.set_cons_zero, List.set_cons_succ]
  have HbY := Hid.mk2 hbY
  have fr14 : wL.frozen? ⟨w8.heap.size + 1 + 1 + 1, 0, none⟩ = false := ((bcell hbY).2 _ _ k14).trans f14
  clear f14 hbY
  by_cases hxy : x = y
  · subst hxy
    rw [show sameW x x = true from sameW_iff.2 rfl]
    refine wpAnyH_take (i := 11) (oi := { dst := some 75, op := Op.unOp UnOp.not 4 (Operand.tmp 74), type := 4, pos := _, after := #[{ on := 10, ground := Ground.data }, { on := 4, ground := Ground.guard }], guard := some (4, false) }) (v := .bool false) rfl (by kernel_rfl) (by kernel_rfl) (by kernel_rfl) (fun _ _ _ h => h) (Or.inl ⟨by rfl, ?_⟩) (by assumption) ?_
    · intro w hSw
      try dsimp only at hSw
      go_simp
    simp only [Act.put, List.setIfInBounds_toArray, List.set_cons_zero, List.set_cons_succ]
    refine wpAnyH_take (i := 12) (oi := { dst := some 76, op := Op.pick (Operand.tmp 68) (Operand.const (Value.bool true)) (Operand.tmp 75), type := 4, pos := _, after := #[{ on := 4, ground := Ground.data }, { on := 11, ground := Ground.data }], guard := none }) (v := .bool false) rfl (by kernel_rfl) (by kernel_rfl) (by kernel_rfl) (fun _ _ _ h => h) (Or.inl ⟨by rfl, ?_⟩) (by assumption) ?_
    · intro w hSw
      try dsimp only at hSw
      go_simp
    simp only [Act.put, List.setIfInBounds_toArray, List.set_cons_zero, List.set_cons_succ]
    refine wpAnyH_take (i := 13) (oi := { dst := some 77, op := Op.move (Operand.tmp 76), type := 4, pos := _, after := #[{ on := 12, ground := Ground.data }, { on := 10, ground := Ground.chain }], guard := none }) (v := .bool false) rfl (by kernel_rfl) (by kernel_rfl) (by kernel_rfl) (fun _ _ _ h => h) (Or.inl ⟨by rfl, ?_⟩) (by assumption) ?_
    · intro w hSw
      try dsimp only at hSw
      go_simp
    simp only [Act.put, List.setIfInBounds_toArray, List.set_cons_zero, List.set_cons_succ]
    refine wpAnyH_take (i := 14) (oi := { dst := some 78, op := Op.load 24 (Operand.tmp 9), type := 24, pos := _, after := #[{ on := 13, ground := Ground.guard }], guard := some (13, false) }) (v := .pointer (some ⟨W.heap.size + 1, 0, none⟩)) rfl (by kernel_rfl) (by kernel_rfl) (by kernel_rfl) (fun _ _ _ h => h) (Or.inl ⟨by rfl, ?_⟩) (by assumption) ?_
    · intro w hSw
      try dsimp only at hSw
      go_simp
    simp only [Act.put, List.setIfInBounds_toArray, List.set_cons_zero, List.set_cons_succ]
    have hMl := HMm.out.keep HbY.out
    have hnS := Hid.mk2 hSL
    clear hSL
    refine wpAnyH_ready (rs := [15]) (by kernel_rfl) (by simp) ?_
    refine AllReadyH.cons (o := { dst := some 79, op := Op.call { callee := Callee.value (Operand.func 18), args := #[Operand.tmp 78, Operand.const (Value.int IntKind.u64 0), Operand.const (Value.int IntKind.u64 18446744073709551615)], argTypes := #[24, 23, 23] }, type := 49, pos := _, after := #[{ on := 14, ground := Ground.data }, { on := 13, ground := Ground.chain }, { on := 13, ground := Ground.guard }], guard := some (13, false) }) rfl (fun K hK => ?_) AllReadyH.nil
    go_simp
    refine (clear_whole wL _ _ vm _ hMl (by split; exact hL; simp)).mono ?_
    rintro e wC ⟨rfl, ⟨v', hMc, ho⟩, hT⟩
    show K _ _
    have hLs := HI.out.below HbY.out
    have b1 := box_turn hLs.cnt hMl hT (by omega) (by decide)
    have b2 := box_turn hLs.want hMl hT n2 (by decide)
    have b3 := box_turn hLs.map hMl hT n3 (by decide)
    have sz := HbY.out.size
    have hSC : (fun w' : World => w'.cell? ⟨w8.heap.size + 1 + 1 + 1, 0, none⟩ = some (.int .i64 pre.length) ∧ w'.cell? ⟨Bw, 0, none⟩ = some (.slice (some ⟨gw, 0, none⟩) gl wc) ∧ w'.cell? ⟨Bm, 0, none⟩ = some (.pointer (some ⟨W.heap.size + 1, 0, none⟩)) ∧ w'.cell? ⟨Bx, 0, none⟩ = some (.int .u64 x.lo) ∧ w'.cell? ⟨Bx, 1, none⟩ = some (.int .u64 x.hi) ∧ w'.cell? ⟨Bx, 2, none⟩ = some (.int .i64 x.val) ∧ w'.cell? ⟨gw, pre.length * 3, none⟩ = some (.int .u64 x.lo) ∧ w'.cell? ⟨gw, pre.length * 3 + 1, none⟩ = some (.int .u64 x.hi) ∧ w'.cell? ⟨gw, pre.length * 3 + 2, none⟩ = some (.int .i64 x.val)) wC := by
      obtain ⟨s1, s2, s3, s4, s5, s6, s7, s8, s9⟩ := hnS.out
      have hcx := turn_cell hT (b := Bx) (by omega) (by omega) (fun e => HXo.out vm HMm.out.cell e.symm)
      obtain ⟨cur, hcur⟩ := own_type hLs.list (g := gw) rfl
      have hcg := turn_cell hT (b := gw) (by omega) (block_ne hcur hMl.box (by decide)) (fun e => by obtain ⟨cur2, hc2⟩ := own_type hMl.own e.symm; exact block_ne hcur hc2 (by decide) rfl)
      exact ⟨b1.cell, b2.cell, b3.cell, (hcx _).trans s4, (hcx _).trans s5, (hcx _).trans s6, (hcg _).trans s7, (hcg _).trans s8, (hcg _).trans s9⟩
    refine hK.out _ _ hSC (fun hHeld => ?_)
    clear hK K hHeld hnS
    try simp only [Act.put, List.setIfInBounds_toArray, List.set_cons_zero, List.set_cons_succ]
    have c14 := b1.cell
    have f14 := b1.frozen
    have HN := Hid.mk2 (Stw.next HI.out HbY.out hMl hMc ho hT (x := x) (by
      obtain ⟨r, hr⟩ := HI.out.part
      have e := HGy.out
      rw [← hr, List.getElem?_append_right (Nat.le_refl _), Nat.sub_self] at e
      cases r with
      | nil => cases e
      | cons z r =>
        have ez : z = x := by simpa using e
        exact ⟨r, by rw [← hr, ez]; simp⟩) n1 n2 n3 n4 n5)
    clear b1 b2 b3 hLs hMl hMc ho hT fr14
    refine wpAnyH_ready (rs := [16]) (by kernel_rfl) (by simp) ?_
    refine AllReadyH.cons (o := { dst := some 80, op := Op.call { callee := Callee.value (Operand.func 17), args := #[Operand.tmp 79], argTypes := #[49] }, type := 3, pos := _, after := #[{ on := 15, ground := Ground.data }, { on := 15, ground := Ground.chain }, { on := 13, ground := Ground.guard }], guard := some (13, false) }) rfl (fun K hK => ?_) AllReadyH.nil
    have HSC := Hid.mk2 hSC
    clear hSC c14
    go_simp
    refine (no_any 0 _).mono ?_
    rintro e w' ⟨rfl, rfl⟩
    show K _ _
    have hSC := HSC.out
    refine hK.out _ _ hSC (fun hHeld => ?_)
    clear hK K hHeld HSC
    try simp only [Act.put, List.setIfInBounds_toArray, List.set_cons_zero, List.set_cons_succ]
    refine wpAnyH_take (i := 17) (oi := { dst := some 81, op := Op.binOp BinOp.neq 3 (Operand.tmp 80) (Operand.const (Value.int IntKind.i64 0)) 3, type := 4, pos := _, after := #[{ on := 16, ground := Ground.data }, { on := 13, ground := Ground.guard }], guard := some (13, false) }) (v := .bool false) rfl (by kernel_rfl) (by kernel_rfl) (by kernel_rfl) (fun _ _ _ h => h) (Or.inl ⟨by rfl, ?_⟩) (by assumption) ?_
    · intro w hSw
      try dsimp only at hSw
      go_simp
    simp only [Act.put, List.setIfInBounds_toArray, List.set_cons_zero, List.set_cons_succ]
    refine wpAnyH_take (i := 18) (oi := { dst := some 82, op := Op.pick (Operand.tmp 77) (Operand.const (Value.bool true)) (Operand.tmp 81), type := 4, pos := _, after := #[{ on := 13, ground := Ground.data }, { on := 17, ground := Ground.data }], guard := none }) (v := .bool false) rfl (by kernel_rfl) (by kernel_rfl) (by kernel_rfl) (fun _ _ _ h => h) (Or.inl ⟨by rfl, ?_⟩) (by assumption) ?_
    · intro w hSw
      try dsimp only at hSw
      go_simp
    simp only [Act.put, List.setIfInBounds_toArray, List.set_cons_zero, List.set_cons_succ]
    refine wpAnyH_done (by kernel_rfl) ?_ _
    have c14 := hSC.1
    clear hSC
    gi_wp2
    exact HN.out
  · rw [show sameW x y = false from by simpa using (fun h => hxy (sameW_iff.1 h))]
    refine wpAnyH_take (i := 11) (oi := { dst := some 75, op := Op.unOp UnOp.not 4 (Operand.tmp 74), type := 4, pos := _, after := #[{ on := 10, ground := Ground.data }, { on := 4, ground := Ground.guard }], guard := some (4, false) }) (v := .bool true) rfl (by kernel_rfl) (by kernel_rfl) (by kernel_rfl) (fun _ _ _ h => h) (Or.inl ⟨by rfl, ?_⟩) (by assumption) ?_
    · intro w hSw
      try dsimp only at hSw
      go_simp
    simp only [Act.put, List.setIfInBounds_toArray, List.set_cons_zero, List.set_cons_succ]
    refine wpAnyH_take (i := 12) (oi := { dst := some 76, op := Op.pick (Operand.tmp 68) (Operand.const (Value.bool true)) (Operand.tmp 75), type := 4, pos := _, after := #[{ on := 4, ground := Ground.data }, { on := 11, ground := Ground.data }], guard := none }) (v := .bool true) rfl (by kernel_rfl) (by kernel_rfl) (by kernel_rfl) (fun _ _ _ h => h) (Or.inl ⟨by rfl, ?_⟩) (by assumption) ?_
    · intro w hSw
      try dsimp only at hSw
      go_simp
    simp only [Act.put, List.setIfInBounds_toArray, List.set_cons_zero, List.set_cons_succ]
    refine wpAnyH_take (i := 13) (oi := { dst := some 77, op := Op.move (Operand.tmp 76), type := 4, pos := _, after := #[{ on := 12, ground := Ground.data }, { on := 10, ground := Ground.chain }], guard := none }) (v := .bool true) rfl (by kernel_rfl) (by kernel_rfl) (by kernel_rfl) (fun _ _ _ h => h) (Or.inl ⟨by rfl, ?_⟩) (by assumption) ?_
    · intro w hSw
      try dsimp only at hSw
      go_simp
    simp only [Act.put, List.setIfInBounds_toArray, List.set_cons_zero, List.set_cons_succ]
    refine wpAnyH_take (i := 14) (oi := { dst := some 78, op := Op.load 24 (Operand.tmp 9), type := 24, pos := _, after := #[{ on := 13, ground := Ground.guard }], guard := some (13, false) }) (v := undef) rfl (by kernel_rfl) (by kernel_rfl) (by kernel_rfl) (fun _ _ _ h => h) (Or.inr ⟨by rfl, rfl⟩) (by assumption) ?_
    simp only [Act.put, List.setIfInBounds_toArray, List.set_cons_zero, List.set_cons_succ]
    refine wpAnyH_take (i := 15) (oi := { dst := some 79, op := Op.call { callee := Callee.value (Operand.func 18), args := #[Operand.tmp 78, Operand.const (Value.int IntKind.u64 0), Operand.const (Value.int IntKind.u64 18446744073709551615)], argTypes := #[24, 23, 23] }, type := 49, pos := _, after := #[{ on := 14, ground := Ground.data }, { on := 13, ground := Ground.chain }, { on := 13, ground := Ground.guard }], guard := some (13, false) }) (v := undef) rfl (by kernel_rfl) (by kernel_rfl) (by kernel_rfl) (fun _ _ _ h => h) (Or.inr ⟨by rfl, rfl⟩) (by assumption) ?_
    simp only [Act.put, List.setIfInBounds_toArray, List.set_cons_zero, List.set_cons_succ]
    refine wpAnyH_take (i := 16) (oi := { dst := some 80, op := Op.call { callee := Callee.value (Operand.func 17), args := #[Operand.tmp 79], argTypes := #[49] }, type := 3, pos := _, after := #[{ on := 15, ground := Ground.data }, { on := 15, ground := Ground.chain }, { on := 13, ground := Ground.guard }], guard := some (13, false) }) (v := undef) rfl (by kernel_rfl) (by kernel_rfl) (by kernel_rfl) (fun _ _ _ h => h) (Or.inr ⟨by rfl, rfl⟩) (by assumption) ?_
    simp only [Act.put, List.setIfInBounds_toArray, List.set_cons_zero, List.set_cons_succ]
    refine wpAnyH_take (i := 17) (oi := { dst := some 81, op := Op.binOp BinOp.neq 3 (Operand.tmp 80) (Operand.const (Value.int IntKind.i64 0)) 3, type := 4, pos := _, after := #[{ on := 16, ground := Ground.data }, { on := 13, ground := Ground.guard }], guard := some (13, false) }) (v := undef) rfl (by kernel_rfl) (by kernel_rfl) (by kernel_rfl) (fun _ _ _ h => h) (Or.inr ⟨by rfl, rfl⟩) (by assumption) ?_
    simp only [Act.put, List.setIfInBounds_toArray, List.set_cons_zero, List.set_cons_succ]
    refine wpAnyH_take (i := 18) (oi := { dst := some 82, op := Op.pick (Operand.tmp 77) (Operand.const (Value.bool true)) (Operand.tmp 81), type := 4, pos := _, after := #[{ on := 13, ground := Ground.data }, { on := 17, ground := Ground.data }], guard := none }) (v := .bool true) rfl (by kernel_rfl) (by kernel_rfl) (by kernel_rfl) (fun _ _ _ h => h) (Or.inl ⟨by rfl, ?_⟩) (by assumption) ?_
    · intro w hSw
      try dsimp only at hSw
      go_simp
    simp only [Act.put, List.setIfInBounds_toArray, List.set_cons_zero, List.set_cons_succ]
    refine wpAnyH_done (by kernel_rfl) ?_ _
    have bR := (HI.out.below HbY.out).res
    have cR := bR.cell
    have fR := bR.frozen
    clear bR hSL
    gi_wp2
    refine ⟨(keepsFrom_below HbY.out).trans ((KeepsOthers.setCell _ _ _).from _), rfl, ?_⟩
    rintro ⟨r, hr⟩
    refine hxy ?_
    have e := HGy.out
    rw [← hr] at e
    simpa using e
end Go.Proofs.Ytliiblaodhcjhab

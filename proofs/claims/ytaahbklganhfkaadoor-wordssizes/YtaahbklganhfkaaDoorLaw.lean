import Derived.Test.YtaahbklganhfkaaDoorRef
namespace Go.Proofs.YtaahbklganhfkaaDoor
open Go.RowKit
set_option linter.unusedVariables false

theorem cell_lt {w : World} {p : Addr} {v : Value} (h : w.cell? p = some v) : p.block < w.heap.size := by
  cases hb : w.heap[p.block]? with
  | none => simp [World.cell?, hb] at h
  | some o => exact (Array.getElem?_eq_some_iff.1 hb).1

theorem tab_below {w w' : World} (h : Tab w) (hb : Below w.heap.size w w') : Tab w' :=
  ⟨(hb.cell (cell_lt h.c1)).trans h.c1, (hb.cell (cell_lt h.c2)).trans h.c2, (hb.cell (cell_lt h.c3)).trans h.c3, (hb.cell (cell_lt h.c4)).trans h.c4⟩

theorem sz_1 : szN (szT 1) = 1 ∧ szE (szT 1) = 0 := by
  have h : (szT 1).toList = [52, 107] := by rw [Lib.toList_data]; rfl
  unfold szE szN
  rw [h]
  decide
theorem sz_2 : szN (szT 2) = 2 ∧ szE (szT 2) = 0 := by
  have h : (szT 2).toList = [54, 52, 107] := by rw [Lib.toList_data]; rfl
  unfold szE szN
  rw [h]
  decide
theorem sz_3 : szN (szT 3) = 3 ∧ szE (szT 3) = 0 := by
  have h : (szT 3).toList = [49, 109] := by rw [Lib.toList_data]; rfl
  unfold szE szN
  rw [h]
  decide
theorem sz_4 : szN (szT 4) = 4 ∧ szE (szT 4) = 0 := by
  have h : (szT 4).toList = [49, 54, 109] := by rw [Lib.toList_data]; rfl
  unfold szE szN
  rw [h]
  decide

/-- Three bools in a block. -/
structure Three (w : World) (k : Nat) (a b c : Bool) : Prop where
  c0 : w.cell? ⟨k, 0, none⟩ = some (.bool a)
  c1 : w.cell? ⟨k, 1, none⟩ = some (.bool b)
  c2 : w.cell? ⟨k, 2, none⟩ = some (.bool c)

theorem three_new (w : World) (a b c : Bool) : Three (w.alloc (.cells #[.bool a, .bool b, .bool c] 26)) w.heap.size a b c := by
  constructor <;> simp

theorem three_below {w w' : World} {k : Nat} {a b c : Bool} (h : Three w k a b c) (hb : Below w.heap.size w w') : Three w' k a b c :=
  ⟨(hb.cell (cell_lt h.c0)).trans h.c0, (hb.cell (cell_lt h.c1)).trans h.c1, (hb.cell (cell_lt h.c2)).trans h.c2⟩

set_option maxRecDepth 100000 in
set_option maxHeartbeats 1600000 in
theorem law_sizes (s : ByteArray) (n : Int) (w : World) (ht : Tab w) :
    Calls Tryd.prog 3 #[.string s, .int .i64 n] w fun e w' => e = .returned (.bool true) ∧ Below w.heap.size w w' := by
  go_enter Tryd.func3, Tryd.ntmps3
  go_wp2_with fail
  refine (size_any s _ ht).mono ?_
  rintro e w' ⟨rfl, rfl⟩
  go_wp2_with fail
  refine (refSize_any s _).mono ?_
  rintro e w' ⟨rfl, rfl⟩
  go_wp2_with fail
  refine (rights_any s _).mono ?_
  rintro e w1 ⟨a, b, c, r, hr, rfl, b1⟩
  go_wp2_with fail
  refine (refRights_any s _).mono ?_
  rintro e w2 ⟨a', b', c', r', hr', rfl, b2⟩
  obtain ⟨rfl, rfl, rfl, rfl⟩ := said_one hr hr'
  clear hr hr'
  have t1 := tab_below ht b1
  have hs1 : (w1.alloc (.cells #[.bool a, .bool b, .bool c] 26)).heap.size = w1.heap.size + 1 := by simp
  obtain ⟨r0, r1, r2⟩ := three_below (three_new w1 a b c) b2
  have t2 : Tab w2 := tab_below t1 (((Below.refl _ _).alloc (Nat.le_refl _) _).trans (b2.mono (by omega)))
  have b3 : Below w.heap.size w w2 := (b1.alloc b1.size _).trans (b2.mono (by have := b1.size; omega))
  have hsz2 : w1.heap.size < w2.heap.size := by have := b2.size; omega
  clear b1 b2 t1
  go_wp2_with fail
  refine (sizeText_any n _ (by exact tab_below t2 ((Below.refl _ _).alloc (Nat.le_refl _) _))).mono ?_
  rintro e w' ⟨rfl, rfl⟩
  go_wp2_with fail
  refine (refSizeText_any n _).mono ?_
  rintro e w' ⟨rfl, rfl⟩
  go_wp2
  go_loopw [13, 14, 15, 16, 17] (fun i _ _ _ _ wr => ∃ k : Nat, k ≤ 8 ∧ i = .int .i64 k ∧ Below w.heap.size w wr ∧ Tab wr) (fun i _ _ _ _ _ => 8 - (intOf i).toNat)
  case atStart => exact ⟨0, by omega, rfl, b3.alloc b3.size _, tab_below t2 ((Below.refl _ _).alloc (Nat.le_refl _) _)⟩
  case round =>
    obtain ⟨k, h8, rfl, hB, hT⟩ := hrel
    clear b3 t2 r0 r1 r2 hsz2 hs1 ht
    rcases (show k = 0 ∨ k = 1 ∨ k = 2 ∨ k = 3 ∨ k = 4 ∨ k = 5 ∨ k = 6 ∨ k = 7 ∨ k = 8 by omega) with rfl | rfl | rfl | rfl | rfl | rfl | rfl | rfl | rfl
    · have m1 : (bits BinOp.and IntKind.i64 0 1 == 1) = false := by decide
      have m2 : (bits BinOp.and IntKind.i64 0 2 == 2) = false := by decide
      have m4 : (bits BinOp.and IntKind.i64 0 4 == 4) = false := by decide
      go_wp2_with fail
      refine (text_any false false false _).mono ?_
      rintro e u1 ⟨rfl, d1⟩
      have hsw : (wr.alloc (.cells #[.bool false, .bool false, .bool false] 26)).heap.size = wr.heap.size + 1 := by simp
      have x1 := three_below (three_new wr false false false) d1
      have e1 : Below w.heap.size w u1 := (hB.alloc hB.size _).trans (d1.mono (by have := hB.size; omega))
      have hz1 : wr.heap.size < u1.heap.size := by have := d1.size; omega
      have T1 : Tab u1 := tab_below hT (((Below.refl _ _).alloc (Nat.le_refl _) _).trans (d1.mono (by omega)))
      clear d1 hsw
      go_wp2_with fail
      refine (rights_any _ _).mono ?_
      rintro e u2 ⟨a2, b2, c2, r2, hr, rfl, d2⟩
      obtain ⟨rfl, rfl, rfl, rfl⟩ := said_one hr (.inl ⟨rfl, rfl⟩)
      clear hr
      have x2 := three_below x1 d2
      have e2 : Below w.heap.size w u2 := e1.trans (d2.mono e1.size)
      have hz2 : wr.heap.size < u2.heap.size := by have := d2.size; omega
      have T2 : Tab u2 := tab_below T1 d2
      clear d2 x1 e1 T1 hz1
      obtain ⟨y0, y1, y2⟩ := x2
      go_wp2_with fail
      refine (refText_any false false false _).mono ?_
      rintro e u3 ⟨rfl, d3⟩
      have hsw : (u2.alloc (.cells #[.bool false, .bool false, .bool false] 26)).heap.size = u2.heap.size + 1 := by simp
      obtain ⟨v0, v1, v2⟩ := three_below (three_new u2 false false false) d3
      obtain ⟨z0, z1, z2⟩ := three_below (three_below ⟨y0, y1, y2⟩ ((Below.refl _ _).alloc (Nat.le_refl _) (.cells #[.bool false, .bool false, .bool false] 26))) d3
      have e3 : Below w.heap.size w u3 := (e2.alloc e2.size _).trans (d3.mono (by have := e2.size; omega))
      have T3 : Tab u3 := tab_below T2 (((Below.refl _ _).alloc (Nat.le_refl _) _).trans (d3.mono (by omega)))
      clear d3 hsw y0 y1 y2 e2 T2
      go_wp2
      go_roundw
      case rel => exact ⟨1, by omega, rfl, e3, T3⟩
      case measure => simp [intOf]
    · have m1 : (bits BinOp.and IntKind.i64 1 1 == 1) = true := by decide
      have m2 : (bits BinOp.and IntKind.i64 1 2 == 2) = false := by decide
      have m4 : (bits BinOp.and IntKind.i64 1 4 == 4) = false := by decide
      go_wp2_with fail
      refine (text_any true false false _).mono ?_
      rintro e u1 ⟨rfl, d1⟩
      have hsw : (wr.alloc (.cells #[.bool true, .bool false, .bool false] 26)).heap.size = wr.heap.size + 1 := by simp
      have x1 := three_below (three_new wr true false false) d1
      have e1 : Below w.heap.size w u1 := (hB.alloc hB.size _).trans (d1.mono (by have := hB.size; omega))
      have hz1 : wr.heap.size < u1.heap.size := by have := d1.size; omega
      have T1 : Tab u1 := tab_below hT (((Below.refl _ _).alloc (Nat.le_refl _) _).trans (d1.mono (by omega)))
      clear d1 hsw
      go_wp2_with fail
      refine (rights_any _ _).mono ?_
      rintro e u2 ⟨a2, b2, c2, r2, hr, rfl, d2⟩
      obtain ⟨rfl, rfl, rfl, rfl⟩ := said_one hr (.inl ⟨rfl, rfl⟩)
      clear hr
      have x2 := three_below x1 d2
      have e2 : Below w.heap.size w u2 := e1.trans (d2.mono e1.size)
      have hz2 : wr.heap.size < u2.heap.size := by have := d2.size; omega
      have T2 : Tab u2 := tab_below T1 d2
      clear d2 x1 e1 T1 hz1
      obtain ⟨y0, y1, y2⟩ := x2
      go_wp2_with fail
      refine (refText_any true false false _).mono ?_
      rintro e u3 ⟨rfl, d3⟩
      have hsw : (u2.alloc (.cells #[.bool true, .bool false, .bool false] 26)).heap.size = u2.heap.size + 1 := by simp
      obtain ⟨v0, v1, v2⟩ := three_below (three_new u2 true false false) d3
      obtain ⟨z0, z1, z2⟩ := three_below (three_below ⟨y0, y1, y2⟩ ((Below.refl _ _).alloc (Nat.le_refl _) (.cells #[.bool true, .bool false, .bool false] 26))) d3
      have e3 : Below w.heap.size w u3 := (e2.alloc e2.size _).trans (d3.mono (by have := e2.size; omega))
      have T3 : Tab u3 := tab_below T2 (((Below.refl _ _).alloc (Nat.le_refl _) _).trans (d3.mono (by omega)))
      clear d3 hsw y0 y1 y2 e2 T2
      go_wp2
      go_roundw
      case rel => exact ⟨2, by omega, rfl, e3, T3⟩
      case measure => simp [intOf]
    · have m1 : (bits BinOp.and IntKind.i64 2 1 == 1) = false := by decide
      have m2 : (bits BinOp.and IntKind.i64 2 2 == 2) = true := by decide
      have m4 : (bits BinOp.and IntKind.i64 2 4 == 4) = false := by decide
      go_wp2_with fail
      refine (text_any false true false _).mono ?_
      rintro e u1 ⟨rfl, d1⟩
      have hsw : (wr.alloc (.cells #[.bool false, .bool true, .bool false] 26)).heap.size = wr.heap.size + 1 := by simp
      have x1 := three_below (three_new wr false true false) d1
      have e1 : Below w.heap.size w u1 := (hB.alloc hB.size _).trans (d1.mono (by have := hB.size; omega))
      have hz1 : wr.heap.size < u1.heap.size := by have := d1.size; omega
      have T1 : Tab u1 := tab_below hT (((Below.refl _ _).alloc (Nat.le_refl _) _).trans (d1.mono (by omega)))
      clear d1 hsw
      go_wp2_with fail
      refine (rights_any _ _).mono ?_
      rintro e u2 ⟨a2, b2, c2, r2, hr, rfl, d2⟩
      obtain ⟨rfl, rfl, rfl, rfl⟩ := said_one hr (.inl ⟨rfl, rfl⟩)
      clear hr
      have x2 := three_below x1 d2
      have e2 : Below w.heap.size w u2 := e1.trans (d2.mono e1.size)
      have hz2 : wr.heap.size < u2.heap.size := by have := d2.size; omega
      have T2 : Tab u2 := tab_below T1 d2
      clear d2 x1 e1 T1 hz1
      obtain ⟨y0, y1, y2⟩ := x2
      go_wp2_with fail
      refine (refText_any false true false _).mono ?_
      rintro e u3 ⟨rfl, d3⟩
      have hsw : (u2.alloc (.cells #[.bool false, .bool true, .bool false] 26)).heap.size = u2.heap.size + 1 := by simp
      obtain ⟨v0, v1, v2⟩ := three_below (three_new u2 false true false) d3
      obtain ⟨z0, z1, z2⟩ := three_below (three_below ⟨y0, y1, y2⟩ ((Below.refl _ _).alloc (Nat.le_refl _) (.cells #[.bool false, .bool true, .bool false] 26))) d3
      have e3 : Below w.heap.size w u3 := (e2.alloc e2.size _).trans (d3.mono (by have := e2.size; omega))
      have T3 : Tab u3 := tab_below T2 (((Below.refl _ _).alloc (Nat.le_refl _) _).trans (d3.mono (by omega)))
      clear d3 hsw y0 y1 y2 e2 T2
      go_wp2
      go_roundw
      case rel => exact ⟨3, by omega, rfl, e3, T3⟩
      case measure => simp [intOf]
    · have m1 : (bits BinOp.and IntKind.i64 3 1 == 1) = true := by decide
      have m2 : (bits BinOp.and IntKind.i64 3 2 == 2) = true := by decide
      have m4 : (bits BinOp.and IntKind.i64 3 4 == 4) = false := by decide
      go_wp2_with fail
      refine (text_any true true false _).mono ?_
      rintro e u1 ⟨rfl, d1⟩
      have hsw : (wr.alloc (.cells #[.bool true, .bool true, .bool false] 26)).heap.size = wr.heap.size + 1 := by simp
      have x1 := three_below (three_new wr true true false) d1
      have e1 : Below w.heap.size w u1 := (hB.alloc hB.size _).trans (d1.mono (by have := hB.size; omega))
      have hz1 : wr.heap.size < u1.heap.size := by have := d1.size; omega
      have T1 : Tab u1 := tab_below hT (((Below.refl _ _).alloc (Nat.le_refl _) _).trans (d1.mono (by omega)))
      clear d1 hsw
      go_wp2_with fail
      refine (rights_any _ _).mono ?_
      rintro e u2 ⟨a2, b2, c2, r2, hr, rfl, d2⟩
      obtain ⟨rfl, rfl, rfl, rfl⟩ := said_one hr (.inl ⟨rfl, rfl⟩)
      clear hr
      have x2 := three_below x1 d2
      have e2 : Below w.heap.size w u2 := e1.trans (d2.mono e1.size)
      have hz2 : wr.heap.size < u2.heap.size := by have := d2.size; omega
      have T2 : Tab u2 := tab_below T1 d2
      clear d2 x1 e1 T1 hz1
      obtain ⟨y0, y1, y2⟩ := x2
      go_wp2_with fail
      refine (refText_any true true false _).mono ?_
      rintro e u3 ⟨rfl, d3⟩
      have hsw : (u2.alloc (.cells #[.bool true, .bool true, .bool false] 26)).heap.size = u2.heap.size + 1 := by simp
      obtain ⟨v0, v1, v2⟩ := three_below (three_new u2 true true false) d3
      obtain ⟨z0, z1, z2⟩ := three_below (three_below ⟨y0, y1, y2⟩ ((Below.refl _ _).alloc (Nat.le_refl _) (.cells #[.bool true, .bool true, .bool false] 26))) d3
      have e3 : Below w.heap.size w u3 := (e2.alloc e2.size _).trans (d3.mono (by have := e2.size; omega))
      have T3 : Tab u3 := tab_below T2 (((Below.refl _ _).alloc (Nat.le_refl _) _).trans (d3.mono (by omega)))
      clear d3 hsw y0 y1 y2 e2 T2
      go_wp2
      go_roundw
      case rel => exact ⟨4, by omega, rfl, e3, T3⟩
      case measure => simp [intOf]
    · have m1 : (bits BinOp.and IntKind.i64 4 1 == 1) = false := by decide
      have m2 : (bits BinOp.and IntKind.i64 4 2 == 2) = false := by decide
      have m4 : (bits BinOp.and IntKind.i64 4 4 == 4) = true := by decide
      go_wp2_with fail
      refine (text_any false false true _).mono ?_
      rintro e u1 ⟨rfl, d1⟩
      have hsw : (wr.alloc (.cells #[.bool false, .bool false, .bool true] 26)).heap.size = wr.heap.size + 1 := by simp
      have x1 := three_below (three_new wr false false true) d1
      have e1 : Below w.heap.size w u1 := (hB.alloc hB.size _).trans (d1.mono (by have := hB.size; omega))
      have hz1 : wr.heap.size < u1.heap.size := by have := d1.size; omega
      have T1 : Tab u1 := tab_below hT (((Below.refl _ _).alloc (Nat.le_refl _) _).trans (d1.mono (by omega)))
      clear d1 hsw
      go_wp2_with fail
      refine (rights_any _ _).mono ?_
      rintro e u2 ⟨a2, b2, c2, r2, hr, rfl, d2⟩
      obtain ⟨rfl, rfl, rfl, rfl⟩ := said_one hr (.inl ⟨rfl, rfl⟩)
      clear hr
      have x2 := three_below x1 d2
      have e2 : Below w.heap.size w u2 := e1.trans (d2.mono e1.size)
      have hz2 : wr.heap.size < u2.heap.size := by have := d2.size; omega
      have T2 : Tab u2 := tab_below T1 d2
      clear d2 x1 e1 T1 hz1
      obtain ⟨y0, y1, y2⟩ := x2
      go_wp2_with fail
      refine (refText_any false false true _).mono ?_
      rintro e u3 ⟨rfl, d3⟩
      have hsw : (u2.alloc (.cells #[.bool false, .bool false, .bool true] 26)).heap.size = u2.heap.size + 1 := by simp
      obtain ⟨v0, v1, v2⟩ := three_below (three_new u2 false false true) d3
      obtain ⟨z0, z1, z2⟩ := three_below (three_below ⟨y0, y1, y2⟩ ((Below.refl _ _).alloc (Nat.le_refl _) (.cells #[.bool false, .bool false, .bool true] 26))) d3
      have e3 : Below w.heap.size w u3 := (e2.alloc e2.size _).trans (d3.mono (by have := e2.size; omega))
      have T3 : Tab u3 := tab_below T2 (((Below.refl _ _).alloc (Nat.le_refl _) _).trans (d3.mono (by omega)))
      clear d3 hsw y0 y1 y2 e2 T2
      go_wp2
      go_roundw
      case rel => exact ⟨5, by omega, rfl, e3, T3⟩
      case measure => simp [intOf]
    · have m1 : (bits BinOp.and IntKind.i64 5 1 == 1) = true := by decide
      have m2 : (bits BinOp.and IntKind.i64 5 2 == 2) = false := by decide
      have m4 : (bits BinOp.and IntKind.i64 5 4 == 4) = true := by decide
      go_wp2_with fail
      refine (text_any true false true _).mono ?_
      rintro e u1 ⟨rfl, d1⟩
      have hsw : (wr.alloc (.cells #[.bool true, .bool false, .bool true] 26)).heap.size = wr.heap.size + 1 := by simp
      have x1 := three_below (three_new wr true false true) d1
      have e1 : Below w.heap.size w u1 := (hB.alloc hB.size _).trans (d1.mono (by have := hB.size; omega))
      have hz1 : wr.heap.size < u1.heap.size := by have := d1.size; omega
      have T1 : Tab u1 := tab_below hT (((Below.refl _ _).alloc (Nat.le_refl _) _).trans (d1.mono (by omega)))
      clear d1 hsw
      go_wp2_with fail
      refine (rights_any _ _).mono ?_
      rintro e u2 ⟨a2, b2, c2, r2, hr, rfl, d2⟩
      obtain ⟨rfl, rfl, rfl, rfl⟩ := said_one hr (.inl ⟨rfl, rfl⟩)
      clear hr
      have x2 := three_below x1 d2
      have e2 : Below w.heap.size w u2 := e1.trans (d2.mono e1.size)
      have hz2 : wr.heap.size < u2.heap.size := by have := d2.size; omega
      have T2 : Tab u2 := tab_below T1 d2
      clear d2 x1 e1 T1 hz1
      obtain ⟨y0, y1, y2⟩ := x2
      go_wp2_with fail
      refine (refText_any true false true _).mono ?_
      rintro e u3 ⟨rfl, d3⟩
      have hsw : (u2.alloc (.cells #[.bool true, .bool false, .bool true] 26)).heap.size = u2.heap.size + 1 := by simp
      obtain ⟨v0, v1, v2⟩ := three_below (three_new u2 true false true) d3
      obtain ⟨z0, z1, z2⟩ := three_below (three_below ⟨y0, y1, y2⟩ ((Below.refl _ _).alloc (Nat.le_refl _) (.cells #[.bool true, .bool false, .bool true] 26))) d3
      have e3 : Below w.heap.size w u3 := (e2.alloc e2.size _).trans (d3.mono (by have := e2.size; omega))
      have T3 : Tab u3 := tab_below T2 (((Below.refl _ _).alloc (Nat.le_refl _) _).trans (d3.mono (by omega)))
      clear d3 hsw y0 y1 y2 e2 T2
      go_wp2
      go_roundw
      case rel => exact ⟨6, by omega, rfl, e3, T3⟩
      case measure => simp [intOf]
    · have m1 : (bits BinOp.and IntKind.i64 6 1 == 1) = false := by decide
      have m2 : (bits BinOp.and IntKind.i64 6 2 == 2) = true := by decide
      have m4 : (bits BinOp.and IntKind.i64 6 4 == 4) = true := by decide
      go_wp2_with fail
      refine (text_any false true true _).mono ?_
      rintro e u1 ⟨rfl, d1⟩
      have hsw : (wr.alloc (.cells #[.bool false, .bool true, .bool true] 26)).heap.size = wr.heap.size + 1 := by simp
      have x1 := three_below (three_new wr false true true) d1
      have e1 : Below w.heap.size w u1 := (hB.alloc hB.size _).trans (d1.mono (by have := hB.size; omega))
      have hz1 : wr.heap.size < u1.heap.size := by have := d1.size; omega
      have T1 : Tab u1 := tab_below hT (((Below.refl _ _).alloc (Nat.le_refl _) _).trans (d1.mono (by omega)))
      clear d1 hsw
      go_wp2_with fail
      refine (rights_any _ _).mono ?_
      rintro e u2 ⟨a2, b2, c2, r2, hr, rfl, d2⟩
      obtain ⟨rfl, rfl, rfl, rfl⟩ := said_one hr (.inl ⟨rfl, rfl⟩)
      clear hr
      have x2 := three_below x1 d2
      have e2 : Below w.heap.size w u2 := e1.trans (d2.mono e1.size)
      have hz2 : wr.heap.size < u2.heap.size := by have := d2.size; omega
      have T2 : Tab u2 := tab_below T1 d2
      clear d2 x1 e1 T1 hz1
      obtain ⟨y0, y1, y2⟩ := x2
      go_wp2_with fail
      refine (refText_any false true true _).mono ?_
      rintro e u3 ⟨rfl, d3⟩
      have hsw : (u2.alloc (.cells #[.bool false, .bool true, .bool true] 26)).heap.size = u2.heap.size + 1 := by simp
      obtain ⟨v0, v1, v2⟩ := three_below (three_new u2 false true true) d3
      obtain ⟨z0, z1, z2⟩ := three_below (three_below ⟨y0, y1, y2⟩ ((Below.refl _ _).alloc (Nat.le_refl _) (.cells #[.bool false, .bool true, .bool true] 26))) d3
      have e3 : Below w.heap.size w u3 := (e2.alloc e2.size _).trans (d3.mono (by have := e2.size; omega))
      have T3 : Tab u3 := tab_below T2 (((Below.refl _ _).alloc (Nat.le_refl _) _).trans (d3.mono (by omega)))
      clear d3 hsw y0 y1 y2 e2 T2
      go_wp2
      go_roundw
      case rel => exact ⟨7, by omega, rfl, e3, T3⟩
      case measure => simp [intOf]
    · have m1 : (bits BinOp.and IntKind.i64 7 1 == 1) = true := by decide
      have m2 : (bits BinOp.and IntKind.i64 7 2 == 2) = true := by decide
      have m4 : (bits BinOp.and IntKind.i64 7 4 == 4) = true := by decide
      go_wp2_with fail
      refine (text_any true true true _).mono ?_
      rintro e u1 ⟨rfl, d1⟩
      have hsw : (wr.alloc (.cells #[.bool true, .bool true, .bool true] 26)).heap.size = wr.heap.size + 1 := by simp
      have x1 := three_below (three_new wr true true true) d1
      have e1 : Below w.heap.size w u1 := (hB.alloc hB.size _).trans (d1.mono (by have := hB.size; omega))
      have hz1 : wr.heap.size < u1.heap.size := by have := d1.size; omega
      have T1 : Tab u1 := tab_below hT (((Below.refl _ _).alloc (Nat.le_refl _) _).trans (d1.mono (by omega)))
      clear d1 hsw
      go_wp2_with fail
      refine (rights_any _ _).mono ?_
      rintro e u2 ⟨a2, b2, c2, r2, hr, rfl, d2⟩
      obtain ⟨rfl, rfl, rfl, rfl⟩ := said_one hr (.inl ⟨rfl, rfl⟩)
      clear hr
      have x2 := three_below x1 d2
      have e2 : Below w.heap.size w u2 := e1.trans (d2.mono e1.size)
      have hz2 : wr.heap.size < u2.heap.size := by have := d2.size; omega
      have T2 : Tab u2 := tab_below T1 d2
      clear d2 x1 e1 T1 hz1
      obtain ⟨y0, y1, y2⟩ := x2
      go_wp2_with fail
      refine (refText_any true true true _).mono ?_
      rintro e u3 ⟨rfl, d3⟩
      have hsw : (u2.alloc (.cells #[.bool true, .bool true, .bool true] 26)).heap.size = u2.heap.size + 1 := by simp
      obtain ⟨v0, v1, v2⟩ := three_below (three_new u2 true true true) d3
      obtain ⟨z0, z1, z2⟩ := three_below (three_below ⟨y0, y1, y2⟩ ((Below.refl _ _).alloc (Nat.le_refl _) (.cells #[.bool true, .bool true, .bool true] 26))) d3
      have e3 : Below w.heap.size w u3 := (e2.alloc e2.size _).trans (d3.mono (by have := e2.size; omega))
      have T3 : Tab u3 := tab_below T2 (((Below.refl _ _).alloc (Nat.le_refl _) _).trans (d3.mono (by omega)))
      clear d3 hsw y0 y1 y2 e2 T2
      go_wp2
      go_roundw
      case rel => exact ⟨8, by omega, rfl, e3, T3⟩
      case measure => simp [intOf]
    · go_wp2
      go_loopw [18, 19, 20] (fun i _ _ wr => ∃ k : Nat, 1 ≤ k ∧ k ≤ 5 ∧ i = .int .i64 k ∧ Below w.heap.size w wr ∧ Tab wr) (fun i _ _ _ => 5 - (intOf i).toNat)
      case atStart => exact ⟨1, by omega, by omega, rfl, hB, hT⟩
      case round =>
        clear hB hT
        obtain ⟨k, h1, h5, rfl, hB, hT⟩ := hrel
        rcases (show k = 1 ∨ k = 2 ∨ k = 3 ∨ k = 4 ∨ k = 5 by omega) with rfl | rfl | rfl | rfl | rfl
        · go_wp2_with fail
          refine (sizeText_any _ _ hT).mono ?_
          rintro e u ⟨rfl, rfl⟩
          go_wp2_with fail
          refine (size_any _ _ hT).mono ?_
          rintro e u ⟨rfl, rfl⟩
          rw [sz_1.1, sz_1.2]
          go_wp2
          go_roundw
          case rel =>
            (repeat apply Exists.intro)
            exact ⟨⟨2, by omega, by omega, rfl, hB, hT⟩, rfl⟩
          case measure => simp [intOf]
        · go_wp2_with fail
          refine (sizeText_any _ _ hT).mono ?_
          rintro e u ⟨rfl, rfl⟩
          go_wp2_with fail
          refine (size_any _ _ hT).mono ?_
          rintro e u ⟨rfl, rfl⟩
          rw [sz_2.1, sz_2.2]
          go_wp2
          go_roundw
          case rel =>
            (repeat apply Exists.intro)
            exact ⟨⟨3, by omega, by omega, rfl, hB, hT⟩, rfl⟩
          case measure => simp [intOf]
        · go_wp2_with fail
          refine (sizeText_any _ _ hT).mono ?_
          rintro e u ⟨rfl, rfl⟩
          go_wp2_with fail
          refine (size_any _ _ hT).mono ?_
          rintro e u ⟨rfl, rfl⟩
          rw [sz_3.1, sz_3.2]
          go_wp2
          go_roundw
          case rel =>
            (repeat apply Exists.intro)
            exact ⟨⟨4, by omega, by omega, rfl, hB, hT⟩, rfl⟩
          case measure => simp [intOf]
        · go_wp2_with fail
          refine (sizeText_any _ _ hT).mono ?_
          rintro e u ⟨rfl, rfl⟩
          go_wp2_with fail
          refine (size_any _ _ hT).mono ?_
          rintro e u ⟨rfl, rfl⟩
          rw [sz_4.1, sz_4.2]
          go_wp2
          go_roundw
          case rel =>
            (repeat apply Exists.intro)
            exact ⟨⟨5, by omega, by omega, rfl, hB, hT⟩, rfl⟩
          case measure => simp [intOf]
        · go_wp2
          go_ret
          exact ⟨rfl, hB⟩
end Go.Proofs.YtaahbklganhfkaaDoor

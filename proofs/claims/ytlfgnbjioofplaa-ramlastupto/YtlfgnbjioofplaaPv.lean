import Derived.Test.YtlfgnbjioofplaaPu
import Derived.BigQuiet
namespace Go.Proofs.Ytlfgnbjioofplaa
open Go.RowKit
set_option linter.unusedVariables false
theorem upd_wrs1 (m : Nat → Int) (a : Nat) (v : Int) (h0 : 0 ≤ v) (h1 : v < 256) : setV 4 m a 1 v = (if errV 4 a 1 = 0 then upd m a v else m) := by
  unfold setV
  split
  · rw [show byt v 1 = [] ++ [v] from by simp [byt]; omega, wrs_snoc, wrs_nil]; rfl
  · rfl

set_option maxHeartbeats 8000000 in
set_option maxRecDepth 100000 in
theorem puts_one (W : World) (S : Nat → Prop) (p bk : Nat) (m : Nat → Int) (cap : Nat) (A v wide : Int) (hv0 : 0 ≤ v) (hv1 : v < 256) (h : PB W S p bk m) (hw1 : wide ≠ 1) (hw2 : wide ≠ 2) :
    Calls Try.prog 16 #[.pointer (some ⟨p, 0, none⟩), .slice (some ⟨bk, 0, none⟩) 16384 cap, .agg #[.int .i64 A, .int .u8 v, .bool false, .int .i64 wide]] W fun e W' => e = .returned (.bool true) ∧ ∃ m', PB W' (gr S W W') p bk m' ∧ Turn (fun b => S b ∨ b = bk) W W' := by
  obtain ⟨hP, hB, hS⟩ := h
  have hb1 := and16383 A
  have hb2 : 0 ≤ A % 16384 ∧ A % 16384 < 16384 := by omega
  obtain ⟨a, ha⟩ := Int.eq_ofNat_of_zero_le hb2.1
  rw [ha] at hb1 hb2
  have hal : a < 16384 := by omega
  have hby := hP.byts
  have HT0 : Turn (fun b => b = bk) W (W.setCell ⟨bk, a, none⟩ (.int .u8 v)) := (Turn.refl (fun b => b = bk) W).setCell (p := ⟨bk, a, none⟩) (.inl rfl) _
  have HT : Hid (Turn (fun b => b = bk) W ((W.setCell ⟨bk, a, none⟩ (.int .u8 v)).alloc (.cells #[.int .i64 A, .int .u8 v, .bool false, .int .i64 wide] 42))) := HT0.alloc _
  have HU : Hid (Bk ((W.setCell ⟨bk, a, none⟩ (.int .u8 v)).alloc (.cells #[.int .i64 A, .int .u8 v, .bool false, .int .i64 wide] 42)) bk (upd m a v)) := (hB.upd a v).turn ((Turn.refl (fun _ => False) _).alloc _) (fun h => h)
  clear HT0
  have HX : Hid (PM W S p 4 m ∧ ¬ S bk ∧ bk < W.heap.size) := ⟨hP, hS, RowAt.lt hB⟩
  have HPK : Hid (∀ ww, Turn (fun b => b = bk) W ww → PM ww S p 4 m) := fun ww t => HX.out.1.keep t (fun b hb e => HX.out.2.1 (e ▸ hb))
  have hbk : bk < W.heap.size := RowAt.lt hB
  have hne : ¬ bk = W.heap.size := by omega
  have hcb := hB.cell hal
  have hfz := RowAt.frozen hB a
  clear hP hB hS hb2
  have hset := fun (ww : World) (hp : PM ww S p 4 m) => setByte_any ww S p 4 m a v hp (by omega) hv0 hv1
  rw [upd_wrs1 m a v hv0 hv1, err0 a 1 (by omega) hal (by omega), if_pos rfl] at hset
  have hs1 := hset _ (HPK.out _ HT.out)
  clear hset
  clear ha hby
  go_enter Try.func16, Try.ntmps16
  go_wp2_with (first
    | (go_at_call 14; refine hs1.mono ?_; rintro e w2 ⟨rfl, h1, h2⟩)
    | go_in)
  go_ret
  exact ⟨rfl, _, PB.done HX.out.2.1 HX.out.2.2 HX.out.1.low HT.out HU.out h1 h2⟩

set_option maxHeartbeats 8000000 in
set_option maxRecDepth 100000 in
theorem puts_half0 (W : World) (S : Nat → Prop) (p bk : Nat) (m : Nat → Int) (cap : Nat) (A v : Int) (hv0 : 0 ≤ v) (hv1 : v < 256) (h : PB W S p bk m) (hj : A % 2 = 0) :
    Calls Try.prog 16 #[.pointer (some ⟨p, 0, none⟩), .slice (some ⟨bk, 0, none⟩) 16384 cap, .agg #[.int .i64 A, .int .u8 v, .bool false, .int .i64 1]] W fun e W' => e = .returned (.bool true) ∧ ∃ m', PB W' (gr S W W') p bk m' ∧ Turn (fun b => S b ∨ b = bk) W W' := by
  obtain ⟨hP, hB, hS⟩ := h
  have hb1 := and16383 A
  have hb2 : 0 ≤ A % 16384 ∧ A % 16384 < 16384 := by omega
  obtain ⟨a, ha⟩ := Int.eq_ofNat_of_zero_le hb2.1
  rw [ha] at hb1 hb2
  have hal : a < 16384 := by omega
  have hby := hP.byts
  have HT0 : Turn (fun b => b = bk) W (W.setCell ⟨bk, a, none⟩ (.int .u8 v)) := (Turn.refl (fun b => b = bk) W).setCell (p := ⟨bk, a, none⟩) (.inl rfl) _
  have HT : Hid (Turn (fun b => b = bk) W ((W.setCell ⟨bk, a, none⟩ (.int .u8 v)).alloc (.cells #[.int .i64 A, .int .u8 v, .bool false, .int .i64 1] 42))) := HT0.alloc _
  have HU : Hid (Bk ((W.setCell ⟨bk, a, none⟩ (.int .u8 v)).alloc (.cells #[.int .i64 A, .int .u8 v, .bool false, .int .i64 1] 42)) bk (upd m a v)) := (hB.upd a v).turn ((Turn.refl (fun _ => False) _).alloc _) (fun h => h)
  clear HT0
  have HX : Hid (PM W S p 4 m ∧ ¬ S bk ∧ bk < W.heap.size) := ⟨hP, hS, RowAt.lt hB⟩
  have HPK : Hid (∀ ww, Turn (fun b => b = bk) W ww → PM ww S p 4 m) := fun ww t => HX.out.1.keep t (fun b hb e => HX.out.2.1 (e ▸ hb))
  have hbk : bk < W.heap.size := RowAt.lt hB
  have hne : ¬ bk = W.heap.size := by omega
  have hcb := hB.cell hal
  have hfz := RowAt.frozen hB a
  clear hP hB hS hb2
  have hnm := not1 a hal
  have hsh : bits BinOp.and IntKind.i64 (a : Int) 1 = 0 := by rw [and1]; omega
  have hba : a - a % 2 + 0 = a := by omega
  have hbm : (a - a % 2) % 2 = 0 := by omega
  generalize a - a % 2 = b at *
  have hbl : b < 16384 := by omega
  have hget := fun (ww : World) (hp : PM ww S p 4 m) => half_any ww S p 4 m b hp (by omega)
  have hvv : valV 4 m b 2 = num m b 2 := by unfold valV; rw [if_pos (err0 b 2 (by omega) hbl hbm)]
  rw [hvv, err0 b 2 (by omega) hbl hbm] at hget
  have hnb := num_bd hby 2 b
  have hnl : num m b 2 < 65536 := by have := hnb.2; simpa using this
  have hn0 := hnb.1
  have HRP : Hid (bits .or .u16 (bits .andNot .u16 (num m b 2) 255) (v) = 256 * (num m b 2 / 256) + v) := by
    have := repl_u16 (num m b 2) v 0 255 (v) (by omega) hn0 hnl hv0 hv1 (by decide) (by omega)
    show _ = _
    rw [this]
    omega
  have hvl : 0 ≤ 256 * (num m b 2 / 256) + v ∧ 256 * (num m b 2 / 256) + v < 65536 := by omega
  have hset := fun (ww : World) (hp : PM ww S p 4 m) => setHalf_any ww S p 4 m b (256 * (num m b 2 / 256) + v) hp (by omega) hvl.1 hvl.2
  have hsv : setV 4 m b 2 (256 * (num m b 2 / 256) + v) = upd m a v := by
    unfold setV
    rw [if_pos (err0 b 2 (by omega) hbl hbm), half0 hby b v ⟨hv0, hv1⟩]
    rw [← hba]; rfl
  rw [hsv, err0 b 2 (by omega) hbl hbm] at hset
  clear hsv hvv hnb hbm
  generalize hnew : 256 * (num m b 2 / 256) + v = nv at *
  generalize num m b 2 = x at *
  have hg1 := hget _ (HPK.out _ HT.out)
  have HST : Hid (∀ (ww : World) (hp : PM ww S p 4 m), _) := hset
  clear hset hget
  clear ha hby
  go_enter Try.func16, Try.ntmps16
  go_wp2_with (first
    | (go_at_call 30; refine hg1.mono ?_; rintro e w2 ⟨rfl, rfl⟩)
    | go_in)
  go_quiet (fail)
  rw [HRP.out]
  have hs1 := HST.out _ (HPK.out _ (HT.out.drewN nq))
  have hT2 := HT.out.drewN nq
  have hU2 := HU.out.turn ((Turn.refl (fun _ => False) _).drewN nq) (fun h => h)
  have HTU : Hid (_ ∧ _) := ⟨hT2, hU2⟩
  clear hT2 hU2 hg1
  go_wp2_with (first
    | (go_at_call 31; refine hs1.mono ?_; rintro e w2 ⟨rfl, h1, h2⟩)
    | go_in)
  go_ret
  exact ⟨rfl, _, PB.done HX.out.2.1 HX.out.2.2 HX.out.1.low HTU.out.1 HTU.out.2 h1 h2⟩

set_option maxHeartbeats 8000000 in
set_option maxRecDepth 100000 in
theorem puts_half1 (W : World) (S : Nat → Prop) (p bk : Nat) (m : Nat → Int) (cap : Nat) (A v : Int) (hv0 : 0 ≤ v) (hv1 : v < 256) (h : PB W S p bk m) (hj : A % 2 = 1) :
    Calls Try.prog 16 #[.pointer (some ⟨p, 0, none⟩), .slice (some ⟨bk, 0, none⟩) 16384 cap, .agg #[.int .i64 A, .int .u8 v, .bool false, .int .i64 1]] W fun e W' => e = .returned (.bool true) ∧ ∃ m', PB W' (gr S W W') p bk m' ∧ Turn (fun b => S b ∨ b = bk) W W' := by
  obtain ⟨hP, hB, hS⟩ := h
  have hb1 := and16383 A
  have hb2 : 0 ≤ A % 16384 ∧ A % 16384 < 16384 := by omega
  obtain ⟨a, ha⟩ := Int.eq_ofNat_of_zero_le hb2.1
  rw [ha] at hb1 hb2
  have hal : a < 16384 := by omega
  have hby := hP.byts
  have HT0 : Turn (fun b => b = bk) W (W.setCell ⟨bk, a, none⟩ (.int .u8 v)) := (Turn.refl (fun b => b = bk) W).setCell (p := ⟨bk, a, none⟩) (.inl rfl) _
  have HT : Hid (Turn (fun b => b = bk) W ((W.setCell ⟨bk, a, none⟩ (.int .u8 v)).alloc (.cells #[.int .i64 A, .int .u8 v, .bool false, .int .i64 1] 42))) := HT0.alloc _
  have HU : Hid (Bk ((W.setCell ⟨bk, a, none⟩ (.int .u8 v)).alloc (.cells #[.int .i64 A, .int .u8 v, .bool false, .int .i64 1] 42)) bk (upd m a v)) := (hB.upd a v).turn ((Turn.refl (fun _ => False) _).alloc _) (fun h => h)
  clear HT0
  have HX : Hid (PM W S p 4 m ∧ ¬ S bk ∧ bk < W.heap.size) := ⟨hP, hS, RowAt.lt hB⟩
  have HPK : Hid (∀ ww, Turn (fun b => b = bk) W ww → PM ww S p 4 m) := fun ww t => HX.out.1.keep t (fun b hb e => HX.out.2.1 (e ▸ hb))
  have hbk : bk < W.heap.size := RowAt.lt hB
  have hne : ¬ bk = W.heap.size := by omega
  have hcb := hB.cell hal
  have hfz := RowAt.frozen hB a
  clear hP hB hS hb2
  have hnm := not1 a hal
  have hsh : bits BinOp.and IntKind.i64 (a : Int) 1 = 1 := by rw [and1]; omega
  have hba : a - a % 2 + 1 = a := by omega
  have hbm : (a - a % 2) % 2 = 0 := by omega
  generalize a - a % 2 = b at *
  have hbl : b < 16384 := by omega
  have hget := fun (ww : World) (hp : PM ww S p 4 m) => half_any ww S p 4 m b hp (by omega)
  have hvv : valV 4 m b 2 = num m b 2 := by unfold valV; rw [if_pos (err0 b 2 (by omega) hbl hbm)]
  rw [hvv, err0 b 2 (by omega) hbl hbm] at hget
  have hnb := num_bd hby 2 b
  have hnl : num m b 2 < 65536 := by have := hnb.2; simpa using this
  have hn0 := hnb.1
  have HRP : Hid (bits .or .u16 (bits .andNot .u16 (num m b 2) 65280) (v * 256) = 256 * (256 * (num m b 2 / 65536) + v) + num m b 2 % 256) := by
    have := repl_u16 (num m b 2) v 8 65280 (v * 256) (by omega) hn0 hnl hv0 hv1 (by decide) (by rfl)
    show _ = _
    rw [this]
    omega
  have hvl : 0 ≤ 256 * (256 * (num m b 2 / 65536) + v) + num m b 2 % 256 ∧ 256 * (256 * (num m b 2 / 65536) + v) + num m b 2 % 256 < 65536 := by omega
  have hset := fun (ww : World) (hp : PM ww S p 4 m) => setHalf_any ww S p 4 m b (256 * (256 * (num m b 2 / 65536) + v) + num m b 2 % 256) hp (by omega) hvl.1 hvl.2
  have hsv : setV 4 m b 2 (256 * (256 * (num m b 2 / 65536) + v) + num m b 2 % 256) = upd m a v := by
    unfold setV
    rw [if_pos (err0 b 2 (by omega) hbl hbm), half1 hby b v ⟨hv0, hv1⟩, hba]
  rw [hsv, err0 b 2 (by omega) hbl hbm] at hset
  clear hsv hvv hnb hbm
  generalize hnew : 256 * (256 * (num m b 2 / 65536) + v) + num m b 2 % 256 = nv at *
  generalize num m b 2 = x at *
  have hg1 := hget _ (HPK.out _ HT.out)
  have HST : Hid (∀ (ww : World) (hp : PM ww S p 4 m), _) := hset
  clear hset hget
  clear ha hby
  go_enter Try.func16, Try.ntmps16
  go_wp2_with (first
    | (go_at_call 30; refine hg1.mono ?_; rintro e w2 ⟨rfl, rfl⟩)
    | go_in)
  go_quiet (fail)
  rw [HRP.out]
  have hs1 := HST.out _ (HPK.out _ (HT.out.drewN nq))
  have hT2 := HT.out.drewN nq
  have hU2 := HU.out.turn ((Turn.refl (fun _ => False) _).drewN nq) (fun h => h)
  have HTU : Hid (_ ∧ _) := ⟨hT2, hU2⟩
  clear hT2 hU2 hg1
  go_wp2_with (first
    | (go_at_call 31; refine hs1.mono ?_; rintro e w2 ⟨rfl, h1, h2⟩)
    | go_in)
  go_ret
  exact ⟨rfl, _, PB.done HX.out.2.1 HX.out.2.2 HX.out.1.low HTU.out.1 HTU.out.2 h1 h2⟩

set_option maxHeartbeats 8000000 in
set_option maxRecDepth 100000 in
theorem puts_word0 (W : World) (S : Nat → Prop) (p bk : Nat) (m : Nat → Int) (cap : Nat) (A v : Int) (hv0 : 0 ≤ v) (hv1 : v < 256) (h : PB W S p bk m) (hj : A % 4 = 0) :
    Calls Try.prog 16 #[.pointer (some ⟨p, 0, none⟩), .slice (some ⟨bk, 0, none⟩) 16384 cap, .agg #[.int .i64 A, .int .u8 v, .bool false, .int .i64 2]] W fun e W' => e = .returned (.bool true) ∧ ∃ m', PB W' (gr S W W') p bk m' ∧ Turn (fun b => S b ∨ b = bk) W W' := by
  obtain ⟨hP, hB, hS⟩ := h
  have hb1 := and16383 A
  have hb2 : 0 ≤ A % 16384 ∧ A % 16384 < 16384 := by omega
  obtain ⟨a, ha⟩ := Int.eq_ofNat_of_zero_le hb2.1
  rw [ha] at hb1 hb2
  have hal : a < 16384 := by omega
  have hby := hP.byts
  have HT0 : Turn (fun b => b = bk) W (W.setCell ⟨bk, a, none⟩ (.int .u8 v)) := (Turn.refl (fun b => b = bk) W).setCell (p := ⟨bk, a, none⟩) (.inl rfl) _
  have HT : Hid (Turn (fun b => b = bk) W ((W.setCell ⟨bk, a, none⟩ (.int .u8 v)).alloc (.cells #[.int .i64 A, .int .u8 v, .bool false, .int .i64 2] 42))) := HT0.alloc _
  have HU : Hid (Bk ((W.setCell ⟨bk, a, none⟩ (.int .u8 v)).alloc (.cells #[.int .i64 A, .int .u8 v, .bool false, .int .i64 2] 42)) bk (upd m a v)) := (hB.upd a v).turn ((Turn.refl (fun _ => False) _).alloc _) (fun h => h)
  clear HT0
  have HX : Hid (PM W S p 4 m ∧ ¬ S bk ∧ bk < W.heap.size) := ⟨hP, hS, RowAt.lt hB⟩
  have HPK : Hid (∀ ww, Turn (fun b => b = bk) W ww → PM ww S p 4 m) := fun ww t => HX.out.1.keep t (fun b hb e => HX.out.2.1 (e ▸ hb))
  have hbk : bk < W.heap.size := RowAt.lt hB
  have hne : ¬ bk = W.heap.size := by omega
  have hcb := hB.cell hal
  have hfz := RowAt.frozen hB a
  clear hP hB hS hb2
  have hnm := not3 a hal
  have hsh : bits BinOp.and IntKind.i64 (a : Int) 3 = 0 := by rw [andm3]; omega
  have hba : a - a % 4 + 0 = a := by omega
  have hbm : (a - a % 4) % 4 = 0 := by omega
  generalize a - a % 4 = b at *
  have hbl : b < 16384 := by omega
  have hget := fun (ww : World) (hp : PM ww S p 4 m) => word_any ww S p 4 m b hp (by omega)
  have hvv : valV 4 m b 4 = num m b 4 := by unfold valV; rw [if_pos (err0 b 4 (by omega) hbl hbm)]
  rw [hvv, err0 b 4 (by omega) hbl hbm] at hget
  have hnb := num_bd hby 4 b
  have hnl : num m b 4 < 4294967296 := by have := hnb.2; simpa using this
  have hn0 := hnb.1
  have HRP : Hid (bits .or .u32 (bits .andNot .u32 (num m b 4) 255) (v) = 256 * (num m b 4 / 256) + v) := by
    have := repl_u32 (num m b 4) v 0 255 (v) (by omega) hn0 hnl hv0 hv1 (by decide) (by omega)
    show _ = _
    rw [this]
    omega
  have hvl : 0 ≤ 256 * (num m b 4 / 256) + v ∧ 256 * (num m b 4 / 256) + v < 4294967296 := by omega
  have hset := fun (ww : World) (hp : PM ww S p 4 m) => setWord_any ww S p 4 m b (256 * (num m b 4 / 256) + v) hp (by omega) hvl.1 hvl.2
  have hsv : setV 4 m b 4 (256 * (num m b 4 / 256) + v) = upd m a v := by
    unfold setV
    rw [if_pos (err0 b 4 (by omega) hbl hbm), word0 hby b v ⟨hv0, hv1⟩]
    rw [← hba]; rfl
  rw [hsv, err0 b 4 (by omega) hbl hbm] at hset
  clear hsv hvv hnb hbm
  generalize hnew : 256 * (num m b 4 / 256) + v = nv at *
  generalize num m b 4 = x at *
  have hg1 := hget _ (HPK.out _ HT.out)
  have HST : Hid (∀ (ww : World) (hp : PM ww S p 4 m), _) := hset
  clear hset hget
  clear ha hby
  go_enter Try.func16, Try.ntmps16
  go_wp2_with (first
    | (go_at_call 32; refine hg1.mono ?_; rintro e w2 ⟨rfl, rfl⟩)
    | go_in)
  go_quiet (fail)
  rw [HRP.out]
  have hs1 := HST.out _ (HPK.out _ (HT.out.drewN nq))
  have hT2 := HT.out.drewN nq
  have hU2 := HU.out.turn ((Turn.refl (fun _ => False) _).drewN nq) (fun h => h)
  have HTU : Hid (_ ∧ _) := ⟨hT2, hU2⟩
  clear hT2 hU2 hg1
  go_wp2_with (first
    | (go_at_call 33; refine hs1.mono ?_; rintro e w2 ⟨rfl, h1, h2⟩)
    | go_in)
  go_ret
  exact ⟨rfl, _, PB.done HX.out.2.1 HX.out.2.2 HX.out.1.low HTU.out.1 HTU.out.2 h1 h2⟩

set_option maxHeartbeats 8000000 in
set_option maxRecDepth 100000 in
theorem puts_word1 (W : World) (S : Nat → Prop) (p bk : Nat) (m : Nat → Int) (cap : Nat) (A v : Int) (hv0 : 0 ≤ v) (hv1 : v < 256) (h : PB W S p bk m) (hj : A % 4 = 1) :
    Calls Try.prog 16 #[.pointer (some ⟨p, 0, none⟩), .slice (some ⟨bk, 0, none⟩) 16384 cap, .agg #[.int .i64 A, .int .u8 v, .bool false, .int .i64 2]] W fun e W' => e = .returned (.bool true) ∧ ∃ m', PB W' (gr S W W') p bk m' ∧ Turn (fun b => S b ∨ b = bk) W W' := by
  obtain ⟨hP, hB, hS⟩ := h
  have hb1 := and16383 A
  have hb2 : 0 ≤ A % 16384 ∧ A % 16384 < 16384 := by omega
  obtain ⟨a, ha⟩ := Int.eq_ofNat_of_zero_le hb2.1
  rw [ha] at hb1 hb2
  have hal : a < 16384 := by omega
  have hby := hP.byts
  have HT0 : Turn (fun b => b = bk) W (W.setCell ⟨bk, a, none⟩ (.int .u8 v)) := (Turn.refl (fun b => b = bk) W).setCell (p := ⟨bk, a, none⟩) (.inl rfl) _
  have HT : Hid (Turn (fun b => b = bk) W ((W.setCell ⟨bk, a, none⟩ (.int .u8 v)).alloc (.cells #[.int .i64 A, .int .u8 v, .bool false, .int .i64 2] 42))) := HT0.alloc _
  have HU : Hid (Bk ((W.setCell ⟨bk, a, none⟩ (.int .u8 v)).alloc (.cells #[.int .i64 A, .int .u8 v, .bool false, .int .i64 2] 42)) bk (upd m a v)) := (hB.upd a v).turn ((Turn.refl (fun _ => False) _).alloc _) (fun h => h)
  clear HT0
  have HX : Hid (PM W S p 4 m ∧ ¬ S bk ∧ bk < W.heap.size) := ⟨hP, hS, RowAt.lt hB⟩
  have HPK : Hid (∀ ww, Turn (fun b => b = bk) W ww → PM ww S p 4 m) := fun ww t => HX.out.1.keep t (fun b hb e => HX.out.2.1 (e ▸ hb))
  have hbk : bk < W.heap.size := RowAt.lt hB
  have hne : ¬ bk = W.heap.size := by omega
  have hcb := hB.cell hal
  have hfz := RowAt.frozen hB a
  clear hP hB hS hb2
  have hnm := not3 a hal
  have hsh : bits BinOp.and IntKind.i64 (a : Int) 3 = 1 := by rw [andm3]; omega
  have hba : a - a % 4 + 1 = a := by omega
  have hbm : (a - a % 4) % 4 = 0 := by omega
  generalize a - a % 4 = b at *
  have hbl : b < 16384 := by omega
  have hget := fun (ww : World) (hp : PM ww S p 4 m) => word_any ww S p 4 m b hp (by omega)
  have hvv : valV 4 m b 4 = num m b 4 := by unfold valV; rw [if_pos (err0 b 4 (by omega) hbl hbm)]
  rw [hvv, err0 b 4 (by omega) hbl hbm] at hget
  have hnb := num_bd hby 4 b
  have hnl : num m b 4 < 4294967296 := by have := hnb.2; simpa using this
  have hn0 := hnb.1
  have HRP : Hid (bits .or .u32 (bits .andNot .u32 (num m b 4) 65280) (v * 256) = 256 * (256 * (num m b 4 / 65536) + v) + num m b 4 % 256) := by
    have := repl_u32 (num m b 4) v 8 65280 (v * 256) (by omega) hn0 hnl hv0 hv1 (by decide) (by rfl)
    show _ = _
    rw [this]
    omega
  have hvl : 0 ≤ 256 * (256 * (num m b 4 / 65536) + v) + num m b 4 % 256 ∧ 256 * (256 * (num m b 4 / 65536) + v) + num m b 4 % 256 < 4294967296 := by omega
  have hset := fun (ww : World) (hp : PM ww S p 4 m) => setWord_any ww S p 4 m b (256 * (256 * (num m b 4 / 65536) + v) + num m b 4 % 256) hp (by omega) hvl.1 hvl.2
  have hsv : setV 4 m b 4 (256 * (256 * (num m b 4 / 65536) + v) + num m b 4 % 256) = upd m a v := by
    unfold setV
    rw [if_pos (err0 b 4 (by omega) hbl hbm), word1 hby b v ⟨hv0, hv1⟩, hba]
  rw [hsv, err0 b 4 (by omega) hbl hbm] at hset
  clear hsv hvv hnb hbm
  generalize hnew : 256 * (256 * (num m b 4 / 65536) + v) + num m b 4 % 256 = nv at *
  generalize num m b 4 = x at *
  have hg1 := hget _ (HPK.out _ HT.out)
  have HST : Hid (∀ (ww : World) (hp : PM ww S p 4 m), _) := hset
  clear hset hget
  clear ha hby
  go_enter Try.func16, Try.ntmps16
  go_wp2_with (first
    | (go_at_call 32; refine hg1.mono ?_; rintro e w2 ⟨rfl, rfl⟩)
    | go_in)
  go_quiet (fail)
  rw [HRP.out]
  have hs1 := HST.out _ (HPK.out _ (HT.out.drewN nq))
  have hT2 := HT.out.drewN nq
  have hU2 := HU.out.turn ((Turn.refl (fun _ => False) _).drewN nq) (fun h => h)
  have HTU : Hid (_ ∧ _) := ⟨hT2, hU2⟩
  clear hT2 hU2 hg1
  go_wp2_with (first
    | (go_at_call 33; refine hs1.mono ?_; rintro e w2 ⟨rfl, h1, h2⟩)
    | go_in)
  go_ret
  exact ⟨rfl, _, PB.done HX.out.2.1 HX.out.2.2 HX.out.1.low HTU.out.1 HTU.out.2 h1 h2⟩

set_option maxHeartbeats 8000000 in
set_option maxRecDepth 100000 in
theorem puts_word2 (W : World) (S : Nat → Prop) (p bk : Nat) (m : Nat → Int) (cap : Nat) (A v : Int) (hv0 : 0 ≤ v) (hv1 : v < 256) (h : PB W S p bk m) (hj : A % 4 = 2) :
    Calls Try.prog 16 #[.pointer (some ⟨p, 0, none⟩), .slice (some ⟨bk, 0, none⟩) 16384 cap, .agg #[.int .i64 A, .int .u8 v, .bool false, .int .i64 2]] W fun e W' => e = .returned (.bool true) ∧ ∃ m', PB W' (gr S W W') p bk m' ∧ Turn (fun b => S b ∨ b = bk) W W' := by
  obtain ⟨hP, hB, hS⟩ := h
  have hb1 := and16383 A
  have hb2 : 0 ≤ A % 16384 ∧ A % 16384 < 16384 := by omega
  obtain ⟨a, ha⟩ := Int.eq_ofNat_of_zero_le hb2.1
  rw [ha] at hb1 hb2
  have hal : a < 16384 := by omega
  have hby := hP.byts
  have HT0 : Turn (fun b => b = bk) W (W.setCell ⟨bk, a, none⟩ (.int .u8 v)) := (Turn.refl (fun b => b = bk) W).setCell (p := ⟨bk, a, none⟩) (.inl rfl) _
  have HT : Hid (Turn (fun b => b = bk) W ((W.setCell ⟨bk, a, none⟩ (.int .u8 v)).alloc (.cells #[.int .i64 A, .int .u8 v, .bool false, .int .i64 2] 42))) := HT0.alloc _
  have HU : Hid (Bk ((W.setCell ⟨bk, a, none⟩ (.int .u8 v)).alloc (.cells #[.int .i64 A, .int .u8 v, .bool false, .int .i64 2] 42)) bk (upd m a v)) := (hB.upd a v).turn ((Turn.refl (fun _ => False) _).alloc _) (fun h => h)
  clear HT0
  have HX : Hid (PM W S p 4 m ∧ ¬ S bk ∧ bk < W.heap.size) := ⟨hP, hS, RowAt.lt hB⟩
  have HPK : Hid (∀ ww, Turn (fun b => b = bk) W ww → PM ww S p 4 m) := fun ww t => HX.out.1.keep t (fun b hb e => HX.out.2.1 (e ▸ hb))
  have hbk : bk < W.heap.size := RowAt.lt hB
  have hne : ¬ bk = W.heap.size := by omega
  have hcb := hB.cell hal
  have hfz := RowAt.frozen hB a
  clear hP hB hS hb2
  have hnm := not3 a hal
  have hsh : bits BinOp.and IntKind.i64 (a : Int) 3 = 2 := by rw [andm3]; omega
  have hba : a - a % 4 + 2 = a := by omega
  have hbm : (a - a % 4) % 4 = 0 := by omega
  generalize a - a % 4 = b at *
  have hbl : b < 16384 := by omega
  have hget := fun (ww : World) (hp : PM ww S p 4 m) => word_any ww S p 4 m b hp (by omega)
  have hvv : valV 4 m b 4 = num m b 4 := by unfold valV; rw [if_pos (err0 b 4 (by omega) hbl hbm)]
  rw [hvv, err0 b 4 (by omega) hbl hbm] at hget
  have hnb := num_bd hby 4 b
  have hnl : num m b 4 < 4294967296 := by have := hnb.2; simpa using this
  have hn0 := hnb.1
  have HRP : Hid (bits .or .u32 (bits .andNot .u32 (num m b 4) 16711680) (v * 65536) = 65536 * (256 * (num m b 4 / 16777216) + v) + num m b 4 % 65536) := by
    have := repl_u32 (num m b 4) v 16 16711680 (v * 65536) (by omega) hn0 hnl hv0 hv1 (by decide) (by rfl)
    show _ = _
    rw [this]
    omega
  have hvl : 0 ≤ 65536 * (256 * (num m b 4 / 16777216) + v) + num m b 4 % 65536 ∧ 65536 * (256 * (num m b 4 / 16777216) + v) + num m b 4 % 65536 < 4294967296 := by omega
  have hset := fun (ww : World) (hp : PM ww S p 4 m) => setWord_any ww S p 4 m b (65536 * (256 * (num m b 4 / 16777216) + v) + num m b 4 % 65536) hp (by omega) hvl.1 hvl.2
  have hsv : setV 4 m b 4 (65536 * (256 * (num m b 4 / 16777216) + v) + num m b 4 % 65536) = upd m a v := by
    unfold setV
    rw [if_pos (err0 b 4 (by omega) hbl hbm), word2 hby b v ⟨hv0, hv1⟩, hba]
  rw [hsv, err0 b 4 (by omega) hbl hbm] at hset
  clear hsv hvv hnb hbm
  generalize hnew : 65536 * (256 * (num m b 4 / 16777216) + v) + num m b 4 % 65536 = nv at *
  generalize num m b 4 = x at *
  have hg1 := hget _ (HPK.out _ HT.out)
  have HST : Hid (∀ (ww : World) (hp : PM ww S p 4 m), _) := hset
  clear hset hget
  clear ha hby
  go_enter Try.func16, Try.ntmps16
  go_wp2_with (first
    | (go_at_call 32; refine hg1.mono ?_; rintro e w2 ⟨rfl, rfl⟩)
    | go_in)
  go_quiet (fail)
  rw [HRP.out]
  have hs1 := HST.out _ (HPK.out _ (HT.out.drewN nq))
  have hT2 := HT.out.drewN nq
  have hU2 := HU.out.turn ((Turn.refl (fun _ => False) _).drewN nq) (fun h => h)
  have HTU : Hid (_ ∧ _) := ⟨hT2, hU2⟩
  clear hT2 hU2 hg1
  go_wp2_with (first
    | (go_at_call 33; refine hs1.mono ?_; rintro e w2 ⟨rfl, h1, h2⟩)
    | go_in)
  go_ret
  exact ⟨rfl, _, PB.done HX.out.2.1 HX.out.2.2 HX.out.1.low HTU.out.1 HTU.out.2 h1 h2⟩

set_option maxHeartbeats 8000000 in
set_option maxRecDepth 100000 in
theorem puts_word3 (W : World) (S : Nat → Prop) (p bk : Nat) (m : Nat → Int) (cap : Nat) (A v : Int) (hv0 : 0 ≤ v) (hv1 : v < 256) (h : PB W S p bk m) (hj : A % 4 = 3) :
    Calls Try.prog 16 #[.pointer (some ⟨p, 0, none⟩), .slice (some ⟨bk, 0, none⟩) 16384 cap, .agg #[.int .i64 A, .int .u8 v, .bool false, .int .i64 2]] W fun e W' => e = .returned (.bool true) ∧ ∃ m', PB W' (gr S W W') p bk m' ∧ Turn (fun b => S b ∨ b = bk) W W' := by
  obtain ⟨hP, hB, hS⟩ := h
  have hb1 := and16383 A
  have hb2 : 0 ≤ A % 16384 ∧ A % 16384 < 16384 := by omega
  obtain ⟨a, ha⟩ := Int.eq_ofNat_of_zero_le hb2.1
  rw [ha] at hb1 hb2
  have hal : a < 16384 := by omega
  have hby := hP.byts
  have HT0 : Turn (fun b => b = bk) W (W.setCell ⟨bk, a, none⟩ (.int .u8 v)) := (Turn.refl (fun b => b = bk) W).setCell (p := ⟨bk, a, none⟩) (.inl rfl) _
  have HT : Hid (Turn (fun b => b = bk) W ((W.setCell ⟨bk, a, none⟩ (.int .u8 v)).alloc (.cells #[.int .i64 A, .int .u8 v, .bool false, .int .i64 2] 42))) := HT0.alloc _
  have HU : Hid (Bk ((W.setCell ⟨bk, a, none⟩ (.int .u8 v)).alloc (.cells #[.int .i64 A, .int .u8 v, .bool false, .int .i64 2] 42)) bk (upd m a v)) := (hB.upd a v).turn ((Turn.refl (fun _ => False) _).alloc _) (fun h => h)
  clear HT0
  have HX : Hid (PM W S p 4 m ∧ ¬ S bk ∧ bk < W.heap.size) := ⟨hP, hS, RowAt.lt hB⟩
  have HPK : Hid (∀ ww, Turn (fun b => b = bk) W ww → PM ww S p 4 m) := fun ww t => HX.out.1.keep t (fun b hb e => HX.out.2.1 (e ▸ hb))
  have hbk : bk < W.heap.size := RowAt.lt hB
  have hne : ¬ bk = W.heap.size := by omega
  have hcb := hB.cell hal
  have hfz := RowAt.frozen hB a
  clear hP hB hS hb2
  have hnm := not3 a hal
  have hsh : bits BinOp.and IntKind.i64 (a : Int) 3 = 3 := by rw [andm3]; omega
  have hba : a - a % 4 + 3 = a := by omega
  have hbm : (a - a % 4) % 4 = 0 := by omega
  generalize a - a % 4 = b at *
  have hbl : b < 16384 := by omega
  have hget := fun (ww : World) (hp : PM ww S p 4 m) => word_any ww S p 4 m b hp (by omega)
  have hvv : valV 4 m b 4 = num m b 4 := by unfold valV; rw [if_pos (err0 b 4 (by omega) hbl hbm)]
  rw [hvv, err0 b 4 (by omega) hbl hbm] at hget
  have hnb := num_bd hby 4 b
  have hnl : num m b 4 < 4294967296 := by have := hnb.2; simpa using this
  have hn0 := hnb.1
  have HRP : Hid (bits .or .u32 (bits .andNot .u32 (num m b 4) 4278190080) (v * 16777216) = 16777216 * (256 * (num m b 4 / 4294967296) + v) + num m b 4 % 16777216) := by
    have := repl_u32 (num m b 4) v 24 4278190080 (v * 16777216) (by omega) hn0 hnl hv0 hv1 (by decide) (by rfl)
    show _ = _
    rw [this]
    omega
  have hvl : 0 ≤ 16777216 * (256 * (num m b 4 / 4294967296) + v) + num m b 4 % 16777216 ∧ 16777216 * (256 * (num m b 4 / 4294967296) + v) + num m b 4 % 16777216 < 4294967296 := by omega
  have hset := fun (ww : World) (hp : PM ww S p 4 m) => setWord_any ww S p 4 m b (16777216 * (256 * (num m b 4 / 4294967296) + v) + num m b 4 % 16777216) hp (by omega) hvl.1 hvl.2
  have hsv : setV 4 m b 4 (16777216 * (256 * (num m b 4 / 4294967296) + v) + num m b 4 % 16777216) = upd m a v := by
    unfold setV
    rw [if_pos (err0 b 4 (by omega) hbl hbm), word3 hby b v ⟨hv0, hv1⟩, hba]
  rw [hsv, err0 b 4 (by omega) hbl hbm] at hset
  clear hsv hvv hnb hbm
  generalize hnew : 16777216 * (256 * (num m b 4 / 4294967296) + v) + num m b 4 % 16777216 = nv at *
  generalize num m b 4 = x at *
  have hg1 := hget _ (HPK.out _ HT.out)
  have HST : Hid (∀ (ww : World) (hp : PM ww S p 4 m), _) := hset
  clear hset hget
  clear ha hby
  go_enter Try.func16, Try.ntmps16
  go_wp2_with (first
    | (go_at_call 32; refine hg1.mono ?_; rintro e w2 ⟨rfl, rfl⟩)
    | go_in)
  go_quiet (fail)
  rw [HRP.out]
  have hs1 := HST.out _ (HPK.out _ (HT.out.drewN nq))
  have hT2 := HT.out.drewN nq
  have hU2 := HU.out.turn ((Turn.refl (fun _ => False) _).drewN nq) (fun h => h)
  have HTU : Hid (_ ∧ _) := ⟨hT2, hU2⟩
  clear hT2 hU2 hg1
  go_wp2_with (first
    | (go_at_call 33; refine hs1.mono ?_; rintro e w2 ⟨rfl, h1, h2⟩)
    | go_in)
  go_ret
  exact ⟨rfl, _, PB.done HX.out.2.1 HX.out.2.2 HX.out.1.low HTU.out.1 HTU.out.2 h1 h2⟩

theorem puts_any (W : World) (S : Nat → Prop) (p bk : Nat) (m : Nat → Int) (cap : Nat) (A v wide : Int) (wp : Bool) (hv0 : 0 ≤ v) (hv1 : v < 256) (h : PB W S p bk m) :
    Calls Try.prog 16 #[.pointer (some ⟨p, 0, none⟩), .slice (some ⟨bk, 0, none⟩) 16384 cap, .agg #[.int .i64 A, .int .u8 v, .bool wp, .int .i64 wide]] W fun e W' => e = .returned (.bool true) ∧ ∃ m', PB W' (gr S W W') p bk m' ∧ Turn (fun b => S b ∨ b = bk) W W' := by
  cases wp with
  | true => exact puts_wipe W S p bk m cap A v wide h
  | false =>
    by_cases h1 : wide = 1
    · subst h1
      by_cases hj : A % 2 = 0
      · exact puts_half0 W S p bk m cap A v hv0 hv1 h hj
      · exact puts_half1 W S p bk m cap A v hv0 hv1 h (by omega)
    · by_cases h2 : wide = 2
      · subst h2
        have h4 : A % 4 = 0 ∨ A % 4 = 1 ∨ A % 4 = 2 ∨ A % 4 = 3 := by omega
        rcases h4 with hj | hj | hj | hj
        · exact puts_word0 W S p bk m cap A v hv0 hv1 h hj
        · exact puts_word1 W S p bk m cap A v hv0 hv1 h hj
        · exact puts_word2 W S p bk m cap A v hv0 hv1 h hj
        · exact puts_word3 W S p bk m cap A v hv0 hv1 h hj
      · exact puts_one W S p bk m cap A v wide hv0 hv1 h h1 h2
end Go.Proofs.Ytlfgnbjioofplaa

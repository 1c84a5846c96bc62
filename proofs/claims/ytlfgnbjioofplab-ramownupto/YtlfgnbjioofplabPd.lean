import Derived.Test.YtlfgnbjioofplabPc
namespace Go.Proofs.Ytlfgnbjioofplab
open Go.RowKit
set_option linter.unusedVariables false

def setV (N : Nat) (m : Nat → Int) (pa w : Nat) (v : Int) : Nat → Int := if errV N pa w = 0 then wrs m pa (byt v w) else m
theorem byt4 (v : Int) : byt v 4 = [v % 256, v / 256 % 256, v / 65536 % 256, v / 16777216 % 256] := by
  simp only [byt]
  rw [show v / 256 / 256 = v / 65536 by omega, show v / 65536 / 256 = v / 16777216 by omega]
def row4 (v : Int) (k : Nat) : List Value := [.int .u8 (if 0 < k then v % 256 else 0), .int .u8 (if 1 < k then v / 256 % 256 else 0), .int .u8 (if 2 < k then v / 65536 % 256 else 0), .int .u8 (if 3 < k then v / 16777216 % 256 else 0)]
theorem row4_at {v b : Int} {w i : Nat} (hw : w = 1 ∨ w = 2 ∨ w = 4) (h : (byt v w)[i]? = some b) : (row4 v 4)[i]? = some (.int .u8 b) := by
  have hb : (byt v 4)[i]? = some b := by
    rcases hw with rfl | rfl | rfl
    · have hi : i < 1 := by have := (List.getElem?_eq_some_iff.1 h).1; rwa [byt_len] at this
      obtain rfl : i = 0 := by omega
      exact h
    · have hi : i < 2 := by have := (List.getElem?_eq_some_iff.1 h).1; rwa [byt_len] at this
      rcases (show i = 0 ∨ i = 1 by omega) with rfl | rfl <;> exact h
    · exact h
  have e : row4 v 4 = (byt v 4).map (Value.int .u8) := by rw [byt4]; rfl
  rw [e, List.getElem?_map, hb]; rfl
theorem gr_mono {S : Nat → Prop} {W W1 W' : World} (h : W.heap.size ≤ W1.heap.size) : ∀ b, gr S W1 W' b → gr S W W' b := fun b hb => by
  rcases hb with h1 | ⟨h1, h2⟩
  · exact .inl h1
  · exact .inr ⟨by omega, h2⟩
theorem PM.low {W : World} {S : Nat → Prop} {p N : Nat} {m : Nat → Int} (h : PM W S p N m) : ∀ b, S b → b < W.heap.size := by obtain ⟨mb, D, g, h⟩ := h; exact h.low
theorem PM.keep {W W' : World} {S S' : Nat → Prop} {p N : Nat} {m : Nat → Int} (h : PM W S p N m) (T : Turn S' W W') (hd : ∀ b, S b → ¬ S' b) : PM W' S p N m := by obtain ⟨mb, D, g, h⟩ := h; exact ⟨mb, D, g, h.keep T hd⟩
theorem PM.mono {W : World} {S S' : Nat → Prop} {p N : Nat} {m : Nat → Int} (h : PM W S p N m) (hS : ∀ b, S b → S' b) (hl : ∀ b, S' b → b < W.heap.size) : PM W S' p N m := by obtain ⟨mb, D, g, h⟩ := h; exact ⟨mb, D, g, h.mono hS hl⟩
theorem PM.cell0 {W : World} {S : Nat → Prop} {p N : Nat} {m : Nat → Int} (h : PM W S p N m) : W.cell? ⟨p, 0, none⟩ = some (.int .i64 N) := by obtain ⟨mb, D, g, h⟩ := h; exact h.cell0
theorem PM.n2 {W : World} {S : Nat → Prop} {p N : Nat} {m : Nat → Int} (h : PM W S p N m) : N ≤ 65536 := by obtain ⟨mb, D, g, h⟩ := h; exact h.n2
theorem PM.n1 {W : World} {S : Nat → Prop} {p N : Nat} {m : Nat → Int} (h : PM W S p N m) : 1 ≤ N := by obtain ⟨mb, D, g, h⟩ := h; exact h.n1
theorem PM.byts {W : World} {S : Nat → Prop} {p N : Nat} {m : Nat → Int} (h : PM W S p N m) : Byts m := by obtain ⟨mb, D, g, h⟩ := h; exact h.byts
theorem PM.lt {W : World} {S : Nat → Prop} {p N : Nat} {m : Nat → Int} (h : PM W S p N m) : p < W.heap.size := by obtain ⟨mb, D, g, h⟩ := h; exact h.lt

set_option maxHeartbeats 4000000 in
set_option maxRecDepth 100000 in
theorem setValue_ok (W : World) (S : Nat → Prop) (p N : Nat) (m : Nat → Int) (pa w : Nat) (v : Int) (h : PM W S p N m) (hw : w = 1 ∨ w = 2 ∨ w = 4) (hp : pa < 18446744073709551616) (hv0 : 0 ≤ v) (hv1 : v < 4294967296) (he : errV N pa w = 0) :
    Calls Try.prog 48 #[.pointer (some ⟨p, 0, none⟩), .int .u64 pa, .int .i64 w, .int .u32 v] W fun e W' => e = .returned (.int .i64 0) ∧ PM W' (gr S W W') p N (wrs m pa (byt v w)) ∧ Turn S W W' := by
  have hc0 := h.cell0
  have hN := h.n2
  have hck := check_any W p N w pa hc0 hN hw hp
  rw [he] at hck
  obtain ⟨ha, hb⟩ := errV_ok hw he
  have hnk : pa / 4096 ≤ 9223372036854775807 := by omega
  have hwl : 1 ≤ w ∧ w ≤ 4 := by omega
  obtain ⟨hw1, hw2⟩ := hwl
  have HH : Hid (PM W S p N m) := h
  clear h
  have HZ : ∀ W : World, (zeroValue 117).run Try.prog W = .ok (.agg #[.int .u8 0, .int .u8 0, .int .u8 0, .int .u8 0]) W := fun W => by kernel_rfl
  go_enter Try.func48, Try.ntmps48
  go_wp2_with (first
    | (go_at_call 62; refine hck.mono ?_; rintro e w1 ⟨rfl, rfl⟩)
    | go_in)
  go_loopw [21] (fun i wr => ∃ k : Nat, k ≤ 4 ∧ i = .int .i64 k ∧ Hid (RowAt wr W.heap.size 117 (row4 v k)) ∧ Hid (Turn (fun _ => False) W wr)) (fun i _ => 4 - (intOf i).toNat)
  case atStart => exact ⟨0, Nat.zero_le _, rfl, by show (W.alloc _).heap[W.heap.size]? = _; rw [(MapKept.heap_alloc W _).1]; rfl, (Turn.refl _ _).alloc _⟩
  case round =>
    obtain ⟨k, hk, rfl, HR, HT⟩ := hrel
    have hz1 : ∀ o, wr.frozen? ⟨W.heap.size, o, none⟩ = false := HR.out.frozen
    have HT1 : Hid (∀ o u, Turn (fun _ => False) W (wr.setCell ⟨W.heap.size, o, none⟩ u)) := fun o u => HT.out.setCell (.inr (Nat.le_refl _)) u
    have hk4 : k = 0 ∨ k = 1 ∨ k = 2 ∨ k = 3 ∨ k = 4 := by omega
    rcases hk4 with rfl | rfl | rfl | rfl | rfl
    · have q0 : wr.cell? ⟨W.heap.size, 0, none⟩ = some (.int .u8 0) := by rw [HR.out.cell]; rfl
      go_wp2
      go_roundw
      case rel => exact ⟨1, by omega, by go_num, HR.out.set 0 _, HT1.out _ _⟩
      case measure => simp [intOf]
    · have q0 : wr.cell? ⟨W.heap.size, 1, none⟩ = some (.int .u8 0) := by rw [HR.out.cell]; rfl
      go_wp2
      go_roundw
      case rel => exact ⟨2, by omega, by go_num, HR.out.set 1 _, HT1.out _ _⟩
      case measure => simp [intOf]
    · have q0 : wr.cell? ⟨W.heap.size, 2, none⟩ = some (.int .u8 0) := by rw [HR.out.cell]; rfl
      go_wp2
      go_roundw
      case rel => exact ⟨3, by omega, by go_num, HR.out.set 2 _, HT1.out _ _⟩
      case measure => simp [intOf]
    · have q0 : wr.cell? ⟨W.heap.size, 3, none⟩ = some (.int .u8 0) := by rw [HR.out.cell]; rfl
      go_wp2
      go_roundw
      case rel => exact ⟨4, by omega, by go_num, by show RowAt _ _ _ _; have e : v / 16777216 = v / 16777216 % 256 := (by omega); rw [e]; exact HR.out.set 3 _, HT1.out _ _⟩
      case measure => simp [intOf]
    · clear HT1
      have hpm : PM wr S p N m := HH.out.keep HT.out (fun _ _ h => h)
      have hlow := HH.out.low
      have hput := put_any wr S p N m (pa / 4096) (pa % 4096) (some ⟨W.heap.size, 0, none⟩) 4 (byt v w) hpm (by rcases hw with rfl | rfl | rfl <;> omega) (fun i b hi => ⟨W.heap.size, 0, rfl, fun hS => by have := hlow _ hS; omega, HR.out.lt, by
        rw [HR.out.cell, Nat.zero_add]
        exact row4_at hw hi⟩) (by rw [byt_len]; rcases hw with rfl | rfl | rfl <;> omega) (byt_bytes v w)
      rw [byt_len, show pa / 4096 * 4096 + pa % 4096 = pa by omega] at hput
      have hsp := split_any wr pa hp
      have hsl := slice4 wr W.heap.size w hw2
      have HTo := HT
      clear HR HT hpm hz1
      generalize pa / 4096 = q at *
      generalize pa % 4096 = r at *
      go_wp2_with (first
        | (go_at_call 27; refine hsp.mono ?_; rintro e w1 ⟨rfl, rfl⟩)
        | (go_at_call 42; refine hput.mono ?_; rintro e w2 ⟨rfl, hp2, ht2⟩)
        | go_in)
      go_ret
      exact ⟨rfl, hp2.mono (gr_mono HTo.out.size) (gr_low hlow (Nat.le_trans HTo.out.size ht2.size)), (HTo.out.mono (fun _ _ h => h.elim)).trans ht2 (fun x hx => .inl hx)⟩

set_option maxHeartbeats 4000000 in
theorem setValue_err (W : World) (p N : Nat) (pa w : Nat) (v : Int) (hc0 : W.cell? ⟨p, 0, none⟩ = some (.int .i64 N)) (hN : N ≤ 65536) (hw : w = 1 ∨ w = 2 ∨ w = 4) (hp : pa < 18446744073709551616) (he : errV N pa w ≠ 0) :
    Calls Try.prog 48 #[.pointer (some ⟨p, 0, none⟩), .int .u64 pa, .int .i64 w, .int .u32 v] W fun e W' => e = .returned (.int .i64 (errV N pa w)) ∧ W = W' := by
  have hck := check_any W p N w pa hc0 hN hw hp
  generalize errV N pa w = er at *
  go_enter Try.func48, Try.ntmps48
  go_wp2_with (first
    | (go_at_call 62; refine hck.mono ?_; rintro e w1 ⟨rfl, rfl⟩)
    | go_in)
  go_ret
  exact ⟨rfl, rfl⟩
theorem setValue_any (W : World) (S : Nat → Prop) (p N : Nat) (m : Nat → Int) (pa w : Nat) (v : Int) (h : PM W S p N m) (hw : w = 1 ∨ w = 2 ∨ w = 4) (hp : pa < 18446744073709551616) (hv0 : 0 ≤ v) (hv1 : v < 4294967296) :
    Calls Try.prog 48 #[.pointer (some ⟨p, 0, none⟩), .int .u64 pa, .int .i64 w, .int .u32 v] W fun e W' => e = .returned (.int .i64 (errV N pa w)) ∧ PM W' (gr S W W') p N (setV N m pa w v) ∧ Turn S W W' := by
  unfold setV
  by_cases he : errV N pa w = 0
  · rw [if_pos he, he]
    exact setValue_ok W S p N m pa w v h hw hp hv0 hv1 he
  · rw [if_neg he]
    refine (setValue_err W p N pa w v h.cell0 h.n2 hw hp he).mono ?_
    rintro e W' ⟨rfl, rfl⟩
    exact ⟨rfl, h.gr h.low (Nat.le_refl _), Turn.refl _ _⟩

set_option maxHeartbeats 4000000 in
theorem setByte_any (W : World) (S : Nat → Prop) (p N : Nat) (m : Nat → Int) (pa : Nat) (v : Int) (h : PM W S p N m) (hp : pa < 18446744073709551616) (hv0 : 0 ≤ v) (hv1 : v < 256) :
    Calls Try.prog 37 #[.pointer (some ⟨p, 0, none⟩), .int .u64 pa, .int .u8 v] W fun e W' => e = .returned (.int .i64 (errV N pa 1)) ∧ PM W' (gr S W W') p N (setV N m pa 1 v) ∧ Turn S W W' := by
  have hv : Calls Try.prog 48 #[.pointer (some ⟨p, 0, none⟩), .int .u64 pa, .int .i64 1, .int .u32 v] W fun e W' => e = .returned (.int .i64 (errV N pa 1)) ∧ PM W' (gr S W W') p N (setV N m pa 1 v) ∧ Turn S W W' := setValue_any W S p N m pa 1 v h (by omega) hp (by omega) (by omega)
  generalize setV N m pa 1 v = x at *
  generalize errV N pa 1 = er at *
  clear h
  go_enter Try.func37, Try.ntmps37
  go_wp2_with (first
    | (go_at_call 48; refine hv.mono ?_; rintro e w1 ⟨rfl, h1, h2⟩)
    | go_in)
  go_ret
  exact ⟨rfl, h1, h2⟩
set_option maxHeartbeats 4000000 in
theorem setHalf_any (W : World) (S : Nat → Prop) (p N : Nat) (m : Nat → Int) (pa : Nat) (v : Int) (h : PM W S p N m) (hp : pa < 18446744073709551616) (hv0 : 0 ≤ v) (hv1 : v < 65536) :
    Calls Try.prog 39 #[.pointer (some ⟨p, 0, none⟩), .int .u64 pa, .int .u16 v] W fun e W' => e = .returned (.int .i64 (errV N pa 2)) ∧ PM W' (gr S W W') p N (setV N m pa 2 v) ∧ Turn S W W' := by
  have hv : Calls Try.prog 48 #[.pointer (some ⟨p, 0, none⟩), .int .u64 pa, .int .i64 2, .int .u32 v] W fun e W' => e = .returned (.int .i64 (errV N pa 2)) ∧ PM W' (gr S W W') p N (setV N m pa 2 v) ∧ Turn S W W' := setValue_any W S p N m pa 2 v h (by omega) hp (by omega) (by omega)
  generalize setV N m pa 2 v = x at *
  generalize errV N pa 2 = er at *
  clear h
  go_enter Try.func39, Try.ntmps39
  go_wp2_with (first
    | (go_at_call 48; refine hv.mono ?_; rintro e w1 ⟨rfl, h1, h2⟩)
    | go_in)
  go_ret
  exact ⟨rfl, h1, h2⟩
set_option maxHeartbeats 4000000 in
theorem setWord_any (W : World) (S : Nat → Prop) (p N : Nat) (m : Nat → Int) (pa : Nat) (v : Int) (h : PM W S p N m) (hp : pa < 18446744073709551616) (hv0 : 0 ≤ v) (hv1 : v < 4294967296) :
    Calls Try.prog 40 #[.pointer (some ⟨p, 0, none⟩), .int .u64 pa, .int .u32 v] W fun e W' => e = .returned (.int .i64 (errV N pa 4)) ∧ PM W' (gr S W W') p N (setV N m pa 4 v) ∧ Turn S W W' := by
  have hv : Calls Try.prog 48 #[.pointer (some ⟨p, 0, none⟩), .int .u64 pa, .int .i64 4, .int .u32 v] W fun e W' => e = .returned (.int .i64 (errV N pa 4)) ∧ PM W' (gr S W W') p N (setV N m pa 4 v) ∧ Turn S W W' := setValue_any W S p N m pa 4 v h (by omega) hp (by omega) (by omega)
  generalize setV N m pa 4 v = x at *
  generalize errV N pa 4 = er at *
  clear h
  go_enter Try.func40, Try.ntmps40
  go_wp2_with (first
    | (go_at_call 48; refine hv.mono ?_; rintro e w1 ⟨rfl, h1, h2⟩)
    | go_in)
  go_ret
  exact ⟨rfl, h1, h2⟩

/-! ### Wipe, Frames, New -/
def errW (N : Nat) (f : Int) : Int := if f < 0 ∨ (N : Int) ≤ f then 30 else 0
def wipV (N : Nat) (m : Nat → Int) (f : Int) : Nat → Int := if f < 0 ∨ (N : Int) ≤ f then m else wipe m f.toNat
theorem pwipe_any (W : World) (S : Nat → Prop) (p N : Nat) (m : Nat → Int) (f : Int) (h : PM W S p N m) :
    Calls Try.prog 21 #[.pointer (some ⟨p, 0, none⟩), .int .i64 f] W fun e W' => e = .returned (.int .i64 (errW N f)) ∧ PM W' (gr S W W') p N (wipV N m f) ∧ Turn S W W' := by
  unfold errW wipV
  by_cases hf : f < 0 ∨ (N : Int) ≤ f
  · rw [if_pos hf, if_pos hf]
    have hc0 := h.cell0
    rcases hf with hf | hf
    · go_enter Try.func21, Try.ntmps21
      go_wp2
      go_ret
      exact ⟨rfl, h.gr h.low (Nat.le_refl _), Turn.refl _ _⟩
    · have hf0 : 0 ≤ f := by omega
      go_enter Try.func21, Try.ntmps21
      go_wp2
      go_ret
      exact ⟨rfl, h.gr h.low (Nat.le_refl _), Turn.refl _ _⟩
  · rw [if_neg hf, if_neg hf]
    obtain ⟨n, rfl⟩ := Int.eq_ofNat_of_zero_le (show 0 ≤ f by omega)
    rw [Int.toNat_natCast]
    have hn : n < N := by omega
    have hnz : (n : Int) < (N : Int) := by omega
    have hN := h.n2
    obtain ⟨mb, D, g, h⟩ := h
    have hc0 := h.cell0
    have hc1 := h.cell1
    clear hf
    have hnk : n ≤ 9223372036854775807 := by omega
    go_enter Try.func21, Try.ntmps21
    go_wp2_with (first
      | (at_delete; refine wpList_delete_own _ rfl _ _ 69 3 rfl 67 law_int Try.underlying69 Rf mb N D rfl h.own _ _ rfl (key_lk n hnk) ?_; intro w2 hown2 hturn2)
      | go_in)
    go_ret
    have T2 : Turn (fun b => b = mb ∨ g n = some b) W w2 := (Turn.map hturn2).mono (fun x _ hx => .inl hx)
    have hz : cnt (fr (wipe m n) n) = 0 := by
      rw [fr_wipe, cnt_zero]
      intro v hv
      exact (List.mem_replicate.1 hv).2
    exact ⟨rfl, PM.gr ⟨_, _, _, h.gone hn (fun k hk => fr_wipe_other m n k hk) (wipe_byts h.byts n) T2 hown2 hz⟩ h.low T2.size, (Turn.map hturn2).mono (fun x _ hx => by rw [hx]; exact h.Sm)⟩
theorem pframes_any (W : World) (S : Nat → Prop) (p N : Nat) (m : Nat → Int) (h : PM W S p N m) :
    Calls Try.prog 25 #[.pointer (some ⟨p, 0, none⟩)] W fun e W' => e = .returned (.int .i64 N) ∧ W = W' := by
  have hc0 := h.cell0
  go_enter Try.func25, Try.ntmps25
  go_wp2
  go_ret
  exact ⟨rfl, rfl⟩
theorem pnew_bad (W : World) (f : Int) (h : f < 1 ∨ 65536 < f) :
    Calls Try.prog 14 #[.int .i64 f] W fun e W' => e = .returned (.tuple #[.pointer none, .int .i64 1]) ∧ W = W' := by
  rcases h with h | h
  · go_enter Try.func14, Try.ntmps14
    go_wp2
    go_ret2
    exact ⟨rfl, rfl⟩
  · have h1 : 1 ≤ f := by omega
    go_enter Try.func14, Try.ntmps14
    go_wp2
    go_ret2
    exact ⟨rfl, rfl⟩
theorem heap_old (w : World) (o : Obj) {k : Nat} (h : k < w.heap.size) : (w.alloc o).heap[k]? = w.heap[k]? := Below.heap_alloc _ _ _ h
theorem cnt_none (n : Nat) : cnt (fr (fun _ => 0) n) = 0 := cnt_fr_zero.2 (fun _ _ => rfl)
set_option maxHeartbeats 4000000 in
theorem pnew_any (W : World) (N : Nat) (h1 : 1 ≤ N) (h2 : N ≤ 65536) :
    Calls Try.prog 14 #[.int .i64 N] W fun e W' => e = .returned (.tuple #[.pointer (some ⟨W.heap.size + 1, 0, none⟩), .int .i64 0]) ∧ PM W' (gr (fun _ => False) W W') (W.heap.size + 1) N (fun _ => 0) ∧ Turn (fun _ => False) W W' := by
  have hmm := @run_makeMap Try.prog
  have a1 : 1 ≤ (N : Int) := by omega
  have a2 : (N : Int) ≤ 65536 := by omega
  go_enter Try.func14, Try.ntmps14
  go_wp2
  go_ret2
  refine ⟨rfl, ?_, ((Turn.refl _ _).alloc _).alloc _⟩
  refine ⟨W.heap.size, .map [], fun _ => none, ⟨?_, ?_, View.empty N, ?_, fun n _ _ => cnt_none n, ?_, ?_, ?_, ?_, h1, h2, ?_⟩⟩
  · have := (MapKept.heap_alloc (W.alloc (.map #[] 0)) (.cells #[.int .i64 (N : Int), .map (some W.heap.size)] 71)).1
    simpa using this
  · exact ((World.ownsMap_made W Try.prog 3 Rf).alloc _).mono (Nat.zero_le _)
  · intro n fb h
    cases h
  · intro n k fb h
    cases h
  · exact .inr ⟨by omega, by simp⟩
  · exact .inr ⟨by omega, by simp; omega⟩
  · intro x
    exact ⟨Int.le_refl 0, (by decide : (0 : Int) < 256)⟩
  · exact gr_low (fun _ h => h.elim) (by simp; omega)
end Go.Proofs.Ytlfgnbjioofplab

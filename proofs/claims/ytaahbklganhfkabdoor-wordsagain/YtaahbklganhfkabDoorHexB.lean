import Derived.Test.YtaahbklganhfkabDoorHexA
namespace Go.Proofs.YtaahbklganhfkabDoor
open Go.RowKit
set_option linter.unusedVariables false

def z65 : Array Value := Array.replicate 65 (.int .u8 0)

/-- The array of digits, from place i on the digits out. -/
structure Digs (w : World) (B i : Nat) (out : List UInt8) : Prop where
  len : i + out.length = 65
  row : ∃ cur : Array Value, w.heap[B]? = some (.cells cur 55 (0, 0)) ∧ cur.size = 65 ∧ ∀ j (h : j < out.length), cur[i + j]? = some (.int .u8 (out[j].toNat : Int))

theorem digs_new (w : World) : Digs (w.alloc (.cells z65 55)) w.heap.size 65 [] :=
  ⟨rfl, z65, by show (w.heap.push _)[w.heap.size]? = _; simp, by simp [z65], fun j h => by simp at h⟩

theorem Digs.cell {w : World} {B k : Nat} {out : List UInt8} (h : Digs w B (k + 1) out) : (∃ x, w.cell? ⟨B, k, none⟩ = some x) ∧ w.frozen? ⟨B, k, none⟩ = false := by
  obtain ⟨cur, hb, hs, _⟩ := h.row
  have hl := h.len
  constructor
  · refine ⟨cur[k]'(by omega), ?_⟩
    simp [World.cell?, hb]
  · simp [World.frozen?, hb]

theorem Digs.set {w : World} {B k : Nat} {out : List UInt8} (h : Digs w B (k + 1) out) (c : UInt8) : Digs (w.setCell ⟨B, k, none⟩ (.int .u8 (c.toNat : Int))) B k (c :: out) := by
  obtain ⟨cur, hb, hs, hr⟩ := h.row
  have hl := h.len
  refine ⟨by simp; omega, cur.setIfInBounds k (.int .u8 (c.toNat : Int)), ?_, by simpa using hs, fun j hj => ?_⟩
  · simp [World.setCell, hb, Array.getElem?_modify]
  · cases j with
    | zero =>
      rw [Nat.add_zero, Array.getElem?_setIfInBounds_self_of_lt (by omega)]
      rfl
    | succ j =>
      have := hr j (by simpa using hj)
      rw [Array.getElem?_setIfInBounds_ne (by omega), show k + (j + 1) = k + 1 + j by omega, this]
      simp

theorem Digs.text {w : World} {B k : Nat} {out : List UInt8} (h : Digs w B k out) : (convert 26 9 (.slice (some ⟨B, k, none⟩) out.length (65 - k))).run Tryd.prog w = .ok (.string ⟨out.toArray⟩) w := by
  obtain ⟨cur, hb, hs, hr⟩ := h.row
  refine run_convert_bytes_back (P := Tryd.prog) w 26 9 5 ⟨B, k, none⟩ (65 - k) out Tryd.underlying26 Tryd.underlying5 Tryd.underlying9 (fun j hj => ?_)
  have e : (⟨B, k, none⟩ : Addr).add j = ⟨B, k + j, none⟩ := by
    unfold Addr.add
    split <;> simp_all
  rw [e]
  simp only [World.cell?, hb]
  exact hr j hj

set_option maxRecDepth 100000 in
set_option maxHeartbeats 1600000 in
/-- internal/strconv.formatBits at base 16. -/
theorem formatBits_16 (v : Nat) (w : World) (hv : v < 18446744073709551616) (hc : w.cell? ⟨3, 15, none⟩ = some (.int .u8 4)) :
    Calls Tryd.prog 24 #[.slice none 0 0, .int .u64 v, .int .i64 16, .bool false, .bool false] w fun e w' => e = .returned (.tuple #[.slice none 0 0, .string ⟨(hexL v).toArray⟩]) ∧ Below w.heap.size w w' := by
  have h3 : 3 < w.heap.size := by
    cases hb : w.heap[3]? with
    | none => simp [World.cell?, hb] at hc
    | some o => exact (Array.getElem?_eq_some_iff.1 hb).1
  have hpow : (bits BinOp.and IntKind.i64 16 15 == 0) = true := by decide +kernel
  have HC4 : Hid ((w.alloc (.cells z65 55)).cell? ⟨3, 15, none⟩ = some (.int .u8 4)) := (((Below.refl w.heap.size w).alloc (Nat.le_refl _) _).cell (p := ⟨3, 15, none⟩) h3).trans hc
  have hz55 : ∀ u : World, (zeroValue 55).run Tryd.prog u = .ok (.agg z65) u := fun u => by kernel_rfl
  go_enter Tryd.func24, Tryd.ntmps24
  go_wp2_with (first | (go_at_call 32; refine (tz_16 _ HC4.out).mono ?_; rintro e w2 ⟨rfl, rfl⟩) | go_in)
  go_loopw [1, 13] (fun x y wr => ∃ (n f i : Nat) (out : List UInt8), x = .int .u64 n ∧ y = .int .i64 i ∧ Below w.heap.size w wr ∧ Digs wr w.heap.size i out ∧ hexAcc (f + 1) n out = hexL v ∧ n < 16 ^ (f + 1) ∧ n < 18446744073709551616 ∧ out.length + f ≤ 16) (fun x _ _ => (intOf x).toNat)
  case atStart => exact ⟨v, 16, 65, [], rfl, rfl, (Below.refl _ _).alloc (Nat.le_refl _) _, digs_new w, rfl, by omega, hv, by simp⟩
  case round =>
    obtain ⟨n, f, i, out, rfl, rfl, hB, hD, hh, hn, hv, hl⟩ := hrel
    have HH : Hid (_ = _) := hh
    have hlen := hD.len
    obtain ⟨k, rfl⟩ : ∃ k, i = k + 1 := ⟨i - 1, by omega⟩
    obtain ⟨⟨x, hcx⟩, hfx⟩ := hD.cell
    have j0 : (0 : Int) ≤ (k : Int) + 1 - 1 := by omega
    have j1 : (k : Int) + 1 - 1 < 65 := by omega
    have j2 : (k : Int) < 65 := by omega
    clear hh
    by_cases h16 : n < 16
    · have hdg0 := d36_at n h16
      unfold d36 at hdg0
      obtain ⟨c, hc2⟩ : ∃ c, hxd n = c := ⟨_, rfl⟩
      rw [hc2] at hdg0
      have HC : Hid (_ = _) := hc2
      have hD2 := hD.set c
      have htx : (convert 26 9 (.slice (some ⟨w.heap.size, k, none⟩) (out.length + 1) (65 - k))).run Tryd.prog (wr.setCell ⟨w.heap.size, k, none⟩ (.int .u8 (c.toNat : Int))) = .ok (.string ⟨(c :: out).toArray⟩) (wr.setCell ⟨w.heap.size, k, none⟩ (.int .u8 (c.toNat : Int))) := hD2.text
      have hsl : ∀ W, (Instr.sliceAt 55 (.pointer (some ⟨w.heap.size, 0, none⟩)) (some (.int .i64 (k : Int))) none none).run Tryd.prog W = .ok (.slice (some ⟨w.heap.size, k, none⟩) (out.length + 1) (65 - k)) W := fun W => by
        have hal : Tryd.prog.arrayLen 55 = 65 := by kernel_rfl
        rw [run_sliceAt_array_l W 55 ⟨w.heap.size, 0, none⟩ (by simp [Program.arrayLen, Program.elem, Tryd.underlying55]) .i64 (k : Int) (by omega) (by rw [hal]; omega)]
        go_simp
        omega
      clear hc2 hD
      go_wp2
      go_ret2
      refine ⟨?_, hB.setCell (Nat.le_refl _) _⟩
      rw [← HH.out, hexAcc_last h16, HC.out]
      rfl
    · have hand : bits BinOp.and IntKind.u64 (n : Int) 15 = ((n % 16 : Nat) : Int) := by
        have h := bits_and_u64_nat n 15 (by omega) (by omega)
        rw [show n &&& 15 = n % 16 from Nat.and_two_pow_sub_one_eq_mod n 4] at h
        exact h
      have hlt : n % 16 < 16 := Nat.mod_lt _ (by omega)
      have hdg0 := d36_at (n % 16) hlt
      unfold d36 at hdg0
      obtain ⟨c, hc2⟩ : ∃ c, hxd (n % 16) = c := ⟨_, rfl⟩
      rw [hc2] at hdg0
      have HC : Hid (_ = _) := hc2
      clear hc2
      cases f with
      | zero => exact absurd hn (by omega)
      | succ f =>
        go_wp2
        go_roundw
        case rel =>
          refine ⟨n / 16, f, k, c :: out, by go_num, by go_num, hB.setCell (Nat.le_refl _) _, hD.set c, ?_, ?_, by omega, by simp; omega⟩
          · rw [← HH.out, hexAcc_step h16, HC.out]
          · rw [Nat.div_lt_iff_lt_mul (by omega), ← Nat.pow_succ]
            exact hn
        case measure =>
          simp [intOf]
          omega

set_option maxRecDepth 100000 in
set_option maxHeartbeats 800000 in
/-- internal/strconv.FormatUint at base 16. -/
theorem formatIn_16 (v : Nat) (w : World) (hv : v < 18446744073709551616) (hc : w.cell? ⟨3, 15, none⟩ = some (.int .u8 4)) : Calls Tryd.prog 15 #[.int .u64 v, .int .i64 16] w fun e w' => e = .returned (.string ⟨(hexL v).toArray⟩) ∧ Below w.heap.size w w' := by
  go_enter Tryd.func15, Tryd.ntmps15
  go_wp2_with fail
  refine (formatBits_16 _ _ hv hc).mono ?_
  rintro e w2 ⟨rfl, hB⟩
  go_wp2
  go_ret
  exact ⟨rfl, hB⟩

set_option maxRecDepth 100000 in
set_option maxHeartbeats 800000 in
/-- strconv.FormatUint at base 16. -/
theorem format_16 (v : Nat) (w : World) (hv : v < 18446744073709551616) (hc : w.cell? ⟨3, 15, none⟩ = some (.int .u8 4)) : Calls Tryd.prog 9 #[.int .u64 v, .int .i64 16] w fun e w' => e = .returned (.string ⟨(hexL v).toArray⟩) ∧ Below w.heap.size w w' := by
  go_enter Tryd.func9, Tryd.ntmps9
  go_wp2_with fail
  refine (formatIn_16 _ _ hv hc).mono ?_
  rintro e w2 ⟨rfl, hB⟩
  go_wp2
  go_ret
  exact ⟨rfl, hB⟩

set_option maxRecDepth 100000 in
set_option maxHeartbeats 800000 in
/-- words.Hex. -/
theorem hex_any (v : Nat) (w : World) (hv : v < 18446744073709551616) (hc : w.cell? ⟨3, 15, none⟩ = some (.int .u8 4)) : Calls Tryd.prog 5 #[.int .u64 v] w fun e w' => e = .returned (.string ⟨([48, 120] ++ hexL v).toArray⟩) ∧ Below w.heap.size w w' := by
  have hlen : (⟨(hexL v).toArray⟩ : ByteArray).size ≤ 17 := by
    show (hexL v).toArray.size ≤ 17
    simpa using hexL_len v
  go_enter Tryd.func5, Tryd.ntmps5
  go_wp2_with fail
  refine (format_16 _ _ hv hc).mono ?_
  rintro e w2 ⟨rfl, hB⟩
  generalize hs : (⟨(hexL v).toArray⟩ : ByteArray) = s at hlen ⊢
  have HS : Hid (_ = _) := hs
  clear hs
  go_wp2
  go_ret
  refine ⟨ret_str ?_, hB⟩
  rw [← HS.out]
  apply ByteArray.ext
  rw [ByteArray.data_append]
  simp

set_option maxRecDepth 100000 in
set_option maxHeartbeats 400000 in
/-- atlaslaw01.WordsHex. -/
theorem law_hex (v : Nat) (w : World) (hv : v < 18446744073709551616) (hc : w.cell? ⟨3, 15, none⟩ = some (.int .u8 4)) : Calls Tryd.prog 3 #[.int .u64 v] w fun e w' => e = .returned (.bool true) ∧ Below w.heap.size w w' := by
  go_enter Tryd.func3, Tryd.ntmps3
  go_wp2_with fail
  refine (hex_any _ _ hv hc).mono ?_
  rintro e w1 ⟨rfl, b1⟩
  go_wp2_with fail
  refine (refHex_any _ _ hv).mono ?_
  rintro e w2 ⟨rfl, b2⟩
  go_wp2
  go_ret
  exact ⟨ret_bool (by simp), b1.trans (b2.mono b1.size)⟩
end Go.Proofs.YtaahbklganhfkabDoor

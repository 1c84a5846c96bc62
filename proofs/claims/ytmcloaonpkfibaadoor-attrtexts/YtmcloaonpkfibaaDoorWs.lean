import Derived.Test.YtmcloaonpkfibaaDoorFd
import Derived.Lib.Strings
import Derived.Lib.Split
import Derived.Lib.Join
namespace Go.Proofs.YtmcloaonpkfibaaDoor
open Go.RowKit
set_option linter.unusedVariables false
set_option linter.unusedSimpArgs false
def wStrong : ByteArray := ⟨#[115, 116, 114, 111, 110, 103]⟩
def wDevice : ByteArray := ⟨#[100, 101, 118, 105, 99, 101]⟩
def wNormal : ByteArray := ⟨#[110, 111, 114, 109, 97, 108]⟩
def wNone : ByteArray := ⟨#[110, 111, 110, 101]⟩
def wAlloc : ByteArray := ⟨#[97, 108, 108, 111, 99]⟩
def wThrough : ByteArray := ⟨#[116, 104, 114, 111, 117, 103, 104]⟩
def wBack : ByteArray := ⟨#[98, 97, 99, 107]⟩
def wPrivate : ByteArray := ⟨#[112, 114, 105, 118, 97, 116, 101]⟩
def wInner : ByteArray := ⟨#[105, 110, 110, 101, 114]⟩
def wOuter : ByteArray := ⟨#[111, 117, 116, 101, 114]⟩
def lTypes : List ByteArray := [wStrong, wDevice, wNormal]
def lCaches : List ByteArray := [wNone, wAlloc, wThrough, wBack]
def lShares : List ByteArray := [wPrivate, wInner, wOuter]
/-- A table of words in a block. -/
def Ts (w : World) (g : Nat) (l : List ByteArray) : Prop := ∀ i v, l[i]? = some v → w.cell? ⟨g, i, none⟩ = some (.string v)
theorem Ts.below {w w' : World} {g : Nat} {l : List ByteArray} (h : Ts w g l) (hb : Below w.heap.size w w') : Ts w' g l := fun i v hv => (hb.cell (cell_lt (h i v hv))).trans (h i v hv)
/-- What the package reads. -/
structure TA (w : World) : Prop where
  plain : TP w
  types : Ts w 0 lTypes
  caches : Ts w 1 lCaches
  shares : Ts w 2 lShares
  max : ∃ m, w.cell? ⟨4, 0, none⟩ = some (.int .i64 m)
theorem TA.below {w w' : World} (h : TA w) (hb : Below w.heap.size w w') : TA w' := ⟨h.plain.below hb, h.types.below hb, h.caches.below hb, h.shares.below hb, let ⟨m, hm⟩ := h.max; ⟨m, (hb.cell (cell_lt hm)).trans hm⟩⟩
theorem eq_of_list {a b : ByteArray} (h : a.toList = b.toList) : a = b := by
  rw [Lib.toList_data, Lib.toList_data] at h
  exact ByteArray.ext (Array.ext' h)
theorem sNe {a b : ByteArray} (h : ¬ a = b) : (a.toList == b.toList) = false := by
  rw [beq_eq_false_iff_ne]
  exact fun e => h (eq_of_list e)
/-- The place of a word in a table, or -1. -/
def nO : List ByteArray → Int → ByteArray → Int
  | [], _, _ => -1
  | a :: r, k, x => if a = x then k else nO r (k + 1) x
theorem nO_hit {l : List ByteArray} {k : Nat} {a x : ByteArray} (hl : l[k]? = some a) (h : (a = x)) : nO (l.drop k) k x = k := by
  obtain ⟨h1, h2⟩ := List.getElem?_eq_some_iff.1 hl
  rw [List.drop_eq_getElem_cons h1, h2, nO, if_pos h]
theorem nO_miss {l : List ByteArray} {k : Nat} {a x : ByteArray} (hl : l[k]? = some a) (h : ¬ (a = x)) : nO (l.drop k) k x = nO (l.drop (k + 1)) ((k + 1 : Nat) : Int) x := by
  obtain ⟨h1, h2⟩ := List.getElem?_eq_some_iff.1 hl
  rw [List.drop_eq_getElem_cons h1, h2, nO, if_neg h]
  rfl
theorem cacheOf_ix0 (a b c d : ByteArray) (w : World) : (Instr.index 48 (.agg #[.string a, .string b, .string c, .string d]) (.int .i64 0)).run Tryd.prog w = .ok (.string a) w := by
  simp [Instr.index, run_underlying Tryd.underlying48, asIntOf, go_sem]
theorem cacheOf_ix1 (a b c d : ByteArray) (w : World) : (Instr.index 48 (.agg #[.string a, .string b, .string c, .string d]) (.int .i64 1)).run Tryd.prog w = .ok (.string b) w := by
  simp [Instr.index, run_underlying Tryd.underlying48, asIntOf, go_sem]
theorem cacheOf_ix2 (a b c d : ByteArray) (w : World) : (Instr.index 48 (.agg #[.string a, .string b, .string c, .string d]) (.int .i64 2)).run Tryd.prog w = .ok (.string c) w := by
  simp [Instr.index, run_underlying Tryd.underlying48, asIntOf, go_sem]
theorem cacheOf_ix3 (a b c d : ByteArray) (w : World) : (Instr.index 48 (.agg #[.string a, .string b, .string c, .string d]) (.int .i64 3)).run Tryd.prog w = .ok (.string d) w := by
  simp [Instr.index, run_underlying Tryd.underlying48, asIntOf, go_sem]
set_option maxRecDepth 100000 in
set_option maxHeartbeats 4000000 in
theorem cacheOf_core (a b c d x : ByteArray) (w : World) (c0 : w.cell? ⟨1, 0, none⟩ = some (.string a)) (c1 : w.cell? ⟨1, 1, none⟩ = some (.string b)) (c2 : w.cell? ⟨1, 2, none⟩ = some (.string c)) (c3 : w.cell? ⟨1, 3, none⟩ = some (.string d)) :
    Calls Tryd.prog 32 #[.string x] w fun e w' => e = .returned (.int .i64 (nO [a, b, c, d] 0 x)) ∧ w = w' := by
  have i0 := cacheOf_ix0 a b c d
  have i1 := cacheOf_ix1 a b c d
  have i2 := cacheOf_ix2 a b c d
  have i3 := cacheOf_ix3 a b c d
  go_enter Tryd.func32, Tryd.ntmps32
  go_wp2
  go_loopw [6] (fun i wr => ∃ (k : Nat) (n : Int), k ≤ 4 ∧ n = k ∧ i = .int .i64 n ∧ nO [a, b, c, d] 0 x = nO ([a, b, c, d].drop k) k x ∧ w = wr) (fun i _ => 4 - (intOf i).toNat)
  case atStart => exact ⟨0, 0, by omega, rfl, rfl, rfl, rfl⟩
  case round =>
    obtain ⟨k, n, hk, hn, rfl, hS, rfl⟩ := hrel
    clear c0 c1 c2 c3
    have HS : Hid (nO [a, b, c, d] 0 x = nO ([a, b, c, d].drop k) k x) := hS
    clear hS
    rcases (show k = 0 ∨ k = 1 ∨ k = 2 ∨ k = 3 ∨ k = 4 by omega) with rfl | rfl | rfl | rfl | rfl
    · obtain rfl : n = 0 := by omega
      by_cases h : a = x
      · have HR := HS.out.trans (nO_hit (l := [a, b, c, d]) (k := 0) rfl h)
        have q : (a.toList == x.toList) = true := by simp [h]
        clear h hk hn
        go_wp2
        go_ret
        exact ⟨by rw [HR]; rfl, rfl⟩
      · have HR : Hid _ := HS.out.trans (nO_miss (l := [a, b, c, d]) (k := 0) rfl h)
        have q : (a.toList == x.toList) = false := sNe h
        clear h hk hn
        go_wp2
        go_roundw
        case rel => exact ⟨1, _, by omega, rfl, rfl, HR.out, trivial⟩
        case measure => simp [intOf]
    · obtain rfl : n = 1 := by omega
      by_cases h : b = x
      · have HR := HS.out.trans (nO_hit (l := [a, b, c, d]) (k := 1) rfl h)
        have q : (b.toList == x.toList) = true := by simp [h]
        clear h hk hn
        go_wp2
        go_ret
        exact ⟨by rw [HR]; rfl, rfl⟩
      · have HR : Hid _ := HS.out.trans (nO_miss (l := [a, b, c, d]) (k := 1) rfl h)
        have q : (b.toList == x.toList) = false := sNe h
        clear h hk hn
        go_wp2
        go_roundw
        case rel => exact ⟨2, _, by omega, rfl, rfl, HR.out, trivial⟩
        case measure => simp [intOf]
    · obtain rfl : n = 2 := by omega
      by_cases h : c = x
      · have HR := HS.out.trans (nO_hit (l := [a, b, c, d]) (k := 2) rfl h)
        have q : (c.toList == x.toList) = true := by simp [h]
        clear h hk hn
        go_wp2
        go_ret
        exact ⟨by rw [HR]; rfl, rfl⟩
      · have HR : Hid _ := HS.out.trans (nO_miss (l := [a, b, c, d]) (k := 2) rfl h)
        have q : (c.toList == x.toList) = false := sNe h
        clear h hk hn
        go_wp2
        go_roundw
        case rel => exact ⟨3, _, by omega, rfl, rfl, HR.out, trivial⟩
        case measure => simp [intOf]
    · obtain rfl : n = 3 := by omega
      by_cases h : d = x
      · have HR := HS.out.trans (nO_hit (l := [a, b, c, d]) (k := 3) rfl h)
        have q : (d.toList == x.toList) = true := by simp [h]
        clear h hk hn
        go_wp2
        go_ret
        exact ⟨by rw [HR]; rfl, rfl⟩
      · have HR : Hid _ := HS.out.trans (nO_miss (l := [a, b, c, d]) (k := 3) rfl h)
        have q : (d.toList == x.toList) = false := sNe h
        clear h hk hn
        go_wp2
        go_roundw
        case rel => exact ⟨4, _, by omega, rfl, rfl, HR.out, trivial⟩
        case measure => simp [intOf]
    · obtain rfl : n = 4 := by omega
      clear hk hn
      go_wp2
      go_ret
      exact ⟨by rw [HS.out]; rfl, rfl⟩
theorem shareOf_ix0 (a b c : ByteArray) (w : World) : (Instr.index 46 (.agg #[.string a, .string b, .string c]) (.int .i64 0)).run Tryd.prog w = .ok (.string a) w := by
  simp [Instr.index, run_underlying Tryd.underlying46, asIntOf, go_sem]
theorem shareOf_ix1 (a b c : ByteArray) (w : World) : (Instr.index 46 (.agg #[.string a, .string b, .string c]) (.int .i64 1)).run Tryd.prog w = .ok (.string b) w := by
  simp [Instr.index, run_underlying Tryd.underlying46, asIntOf, go_sem]
theorem shareOf_ix2 (a b c : ByteArray) (w : World) : (Instr.index 46 (.agg #[.string a, .string b, .string c]) (.int .i64 2)).run Tryd.prog w = .ok (.string c) w := by
  simp [Instr.index, run_underlying Tryd.underlying46, asIntOf, go_sem]
set_option maxRecDepth 100000 in
set_option maxHeartbeats 4000000 in
theorem shareOf_core (a b c x : ByteArray) (w : World) (c0 : w.cell? ⟨2, 0, none⟩ = some (.string a)) (c1 : w.cell? ⟨2, 1, none⟩ = some (.string b)) (c2 : w.cell? ⟨2, 2, none⟩ = some (.string c)) :
    Calls Tryd.prog 31 #[.string x] w fun e w' => e = .returned (.int .i64 (nO [a, b, c] 0 x)) ∧ w = w' := by
  have i0 := shareOf_ix0 a b c
  have i1 := shareOf_ix1 a b c
  have i2 := shareOf_ix2 a b c
  go_enter Tryd.func31, Tryd.ntmps31
  go_wp2
  go_loopw [6] (fun i wr => ∃ (k : Nat) (n : Int), k ≤ 3 ∧ n = k ∧ i = .int .i64 n ∧ nO [a, b, c] 0 x = nO ([a, b, c].drop k) k x ∧ w = wr) (fun i _ => 3 - (intOf i).toNat)
  case atStart => exact ⟨0, 0, by omega, rfl, rfl, rfl, rfl⟩
  case round =>
    obtain ⟨k, n, hk, hn, rfl, hS, rfl⟩ := hrel
    clear c0 c1 c2
    have HS : Hid (nO [a, b, c] 0 x = nO ([a, b, c].drop k) k x) := hS
    clear hS
    rcases (show k = 0 ∨ k = 1 ∨ k = 2 ∨ k = 3 by omega) with rfl | rfl | rfl | rfl
    · obtain rfl : n = 0 := by omega
      by_cases h : a = x
      · have HR := HS.out.trans (nO_hit (l := [a, b, c]) (k := 0) rfl h)
        have q : (a.toList == x.toList) = true := by simp [h]
        clear h hk hn
        go_wp2
        go_ret
        exact ⟨by rw [HR]; rfl, rfl⟩
      · have HR : Hid _ := HS.out.trans (nO_miss (l := [a, b, c]) (k := 0) rfl h)
        have q : (a.toList == x.toList) = false := sNe h
        clear h hk hn
        go_wp2
        go_roundw
        case rel => exact ⟨1, _, by omega, rfl, rfl, HR.out, trivial⟩
        case measure => simp [intOf]
    · obtain rfl : n = 1 := by omega
      by_cases h : b = x
      · have HR := HS.out.trans (nO_hit (l := [a, b, c]) (k := 1) rfl h)
        have q : (b.toList == x.toList) = true := by simp [h]
        clear h hk hn
        go_wp2
        go_ret
        exact ⟨by rw [HR]; rfl, rfl⟩
      · have HR : Hid _ := HS.out.trans (nO_miss (l := [a, b, c]) (k := 1) rfl h)
        have q : (b.toList == x.toList) = false := sNe h
        clear h hk hn
        go_wp2
        go_roundw
        case rel => exact ⟨2, _, by omega, rfl, rfl, HR.out, trivial⟩
        case measure => simp [intOf]
    · obtain rfl : n = 2 := by omega
      by_cases h : c = x
      · have HR := HS.out.trans (nO_hit (l := [a, b, c]) (k := 2) rfl h)
        have q : (c.toList == x.toList) = true := by simp [h]
        clear h hk hn
        go_wp2
        go_ret
        exact ⟨by rw [HR]; rfl, rfl⟩
      · have HR : Hid _ := HS.out.trans (nO_miss (l := [a, b, c]) (k := 2) rfl h)
        have q : (c.toList == x.toList) = false := sNe h
        clear h hk hn
        go_wp2
        go_roundw
        case rel => exact ⟨3, _, by omega, rfl, rfl, HR.out, trivial⟩
        case measure => simp [intOf]
    · obtain rfl : n = 3 := by omega
      clear hk hn
      go_wp2
      go_ret
      exact ⟨by rw [HS.out]; rfl, rfl⟩
theorem cacheOf_any (x : ByteArray) (w : World) (hT : TA w) : Calls Tryd.prog 32 #[.string x] w fun e w' => e = .returned (.int .i64 (nO lCaches 0 x)) ∧ w = w' :=
  cacheOf_core _ _ _ _ x w (hT.caches 0 _ rfl) (hT.caches 1 _ rfl) (hT.caches 2 _ rfl) (hT.caches 3 _ rfl)
theorem shareOf_any (x : ByteArray) (w : World) (hT : TA w) : Calls Tryd.prog 31 #[.string x] w fun e w' => e = .returned (.int .i64 (nO lShares 0 x)) ∧ w = w' :=
  shareOf_core _ _ _ x w (hT.shares 0 _ rfl) (hT.shares 1 _ rfl) (hT.shares 2 _ rfl)
end Go.Proofs.YtmcloaonpkfibaaDoor

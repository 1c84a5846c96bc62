import Derived.Test.YtbbnodhpafiplaaDoorOa
namespace Go.Proofs.YtbbnodhpafiplaaDoor
open Go.ChangeShapes Go.WideShapes Go.ChangeAt Go.RowKit Go.Deep
set_option linter.unusedVariables false
set_option linter.unusedSimpArgs false
theorem bytes_op : Tryd.prog.bytesOf 44 = 120 := by kernel_rfl
theorem bytes_blo : Tryd.prog.bytesOf 38 = 56 := by kernel_rfl
set_option maxRecDepth 1000000 in
theorem weigh {H : Type} {enc : TypeId × Value → H} {W : World} {t e : TypeId} {fuel : Nat} {a : Option Addr} {len cap : Nat} {d : DataW H} {ps : List MemPlace} (R : Nat) (ht : Tryd.prog.underlying t = some (.slice e))
    (h : DataW.trod enc Tryd.prog W 0 (fun _ => true) true fuel t (Value.slice a len cap).cells.toList = some (d, ps)) (hw : (d.weights Tryd.prog t).all (· ≤ R) = true) : len * Tryd.prog.bytesOf e ≤ R := by
  rcases open_slice (x := (d, ps)) ht h with ⟨hcs, _⟩ | ⟨a', len', cap', m, n, D, Pl, hcs, _, hl, _, _, hx, _⟩
  · have hcs2 : Value.slice a len cap = .slice none 0 0 := by
      have h1 : (Value.slice a len cap).cells.toList = [Value.slice a len cap] := rfl
      rw [h1] at hcs
      injection hcs
    injection hcs2 with _ e2 _
    have h0 : len * Tryd.prog.bytesOf e = 0 := by rw [e2, Nat.zero_mul]
    exact Nat.le_trans (Nat.le_of_eq h0) (Nat.zero_le _)
  · have hcs2 : Value.slice a len cap = .slice (some a') len' cap' := by
      have h1 : (Value.slice a len cap).cells.toList = [Value.slice a len cap] := rfl
      rw [h1] at hcs
      injection hcs
    injection hcs2 with e1 e2 e3
    subst e1 e2 e3
    obtain ⟨rfl, rfl⟩ := Prod.mk.inj hx
    simp only [DataW.weights, ht, List.all_cons, Bool.and_eq_true, decide_eq_true_eq, List.length_map, List.length_range] at hw
    exact Nat.le_trans (Nat.mul_le_mul_right _ (Nat.le_add_right _ _)) hw.1
/-- A list of numbers, a list of blocks, in memory. -/
def IsI (W : World) (a : Option Addr) (zs : List Int) : Prop := (∀ i z, zs[i]? = some z → ∃ b off, a = some ⟨b, off, none⟩ ∧ b < W.heap.size ∧ W.cell? ⟨b, off + i, none⟩ = some (.int .i64 z)) ∧ ∀ z ∈ zs, -9223372036854775808 ≤ z ∧ z ≤ 9223372036854775807
def IsK (W : World) (a : Option Addr) (ks : List Blo) : Prop := (∀ i x, ks[i]? = some x → ∃ b off, a = some ⟨b, off, none⟩ ∧ b < W.heap.size ∧ ∀ j v, ([.int .i64 x.asid, .int .i64 x.t.size, .int .u32 x.t.va, .int .u64 x.t.pa, .int .i64 x.t.dom, .int .i64 x.t.ap, .int .u32 x.t.bits, .bool x.t.ng, .bool x.t.xn])[j]? = some v → W.cell? ⟨b, off + i * 9 + j, none⟩ = some v) ∧ ∀ x ∈ ks, BOk x
theorem open_ints {H : Type} {enc : TypeId × Value → H} {W : World} {fuel : Nat} {a : Option Addr} {len cap : Nat} {x : DataW H × List MemPlace} (h : DataW.trod enc Tryd.prog W 0 (fun _ => true) true fuel 22 (Value.slice a len cap).cells.toList = some x) :
    ∃ zs : List Int, zs.length = len ∧ IsI W a zs ∧ zs.length ≤ maxLen := by
  obtain ⟨zs, h1, h2, h3, h4⟩ := open_rows 3 1 (by omega) cells_i (fun z : Int => [Value.int .i64 z]) (fun z => -9223372036854775808 ≤ z ∧ z ≤ 9223372036854775807) 0 (fun h => by
    obtain ⟨i0, e0, _, w0⟩ := DataW.trod_int Tryd.underlying3 h
    have b0 := bounds_i64 w0
    exact ⟨i0, e0, by omega, by omega⟩) (fun _ => rfl) Tryd.underlying22 h
  refine ⟨zs, h1, ⟨fun i z hz => ?_, h3⟩, h4⟩
  obtain ⟨b, off, ha, hb, hc⟩ := h2 i z hz
  refine ⟨b, off, ha, hb, ?_⟩
  have := hc 0 _ rfl
  rw [Nat.mul_one, Nat.add_zero] at this
  exact this
theorem open_blos {H : Type} {enc : TypeId × Value → H} {W : World} {fuel : Nat} {a : Option Addr} {len cap : Nat} {x : DataW H × List MemPlace} (h : DataW.trod enc Tryd.prog W 0 (fun _ => true) true fuel 24 (Value.slice a len cap).cells.toList = some x) :
    ∃ ks : List Blo, ks.length = len ∧ IsK W a ks ∧ ks.length ≤ maxLen := by
  obtain ⟨ks, h1, h2, h3, h4⟩ := open_rows 38 9 (by omega) cells_blo (fun b : Blo => [.int .i64 b.asid, .int .i64 b.t.size, .int .u32 b.t.va, .int .u64 b.t.pa, .int .i64 b.t.dom, .int .i64 b.t.ap, .int .u32 b.t.bits, .bool b.t.ng, .bool b.t.xn]) BOk bZ (fun h => by obtain ⟨b, e, _, wf⟩ := blo_read h; exact ⟨b, e, wf.ok⟩) (fun _ => rfl) Tryd.underlying24 h
  exact ⟨ks, h1, ⟨h2, h3⟩, h4⟩
end Go.Proofs.YtbbnodhpafiplaaDoor

import Derived.Test.YtmcloaonpkfibaaDoorRx
import Derived.Test.YtmcloaonpkfibaaDoorWs
namespace Go.Proofs.YtmcloaonpkfibaaDoor
open Go.RowKit
set_option linter.unusedVariables false
set_option linter.unusedSimpArgs false
theorem infoS : (Tryd.prog.info? 9).map (fun i => (i.zero, i.size, i.bytes)) = some (some (.string ⟨#[]⟩), 1, 16) := by kernel_rfl
theorem info_parts {P : Program} {t : TypeId} {z : Value} {n b : Nat} (h : (P.info? t).map (fun i => (i.zero, i.size, i.bytes)) = some (some z, n, b)) : ∃ i, P.info? t = some i ∧ i.zero = some z ∧ i.size = n ∧ i.bytes = b := by
  obtain ⟨i, h1, h2⟩ := Option.map_eq_some_iff.1 h
  simp only [Prod.mk.injEq] at h2
  exact ⟨i, h1, h2.1, h2.2.1, h2.2.2⟩
theorem app_s {W : World} {lo : Nat} {v : Value} {A : List ByteArray} (h : W.ownsRow lo 9 1 v A.length (A.map .string)) (B : List ByteArray) (k : Nat) (cs : Array Value) (hk : B.length = k) (hc : cs = (B.map Value.string).toArray) (hlo : lo ≤ W.heap.size) (hl : A.length + B.length ≤ 1000) :
    ∃ v' w', (∀ ty, (Builtin.append_ #[47, 47] ty #[v, .slice (some ⟨W.heap.size, 0, none⟩) k k]).run Tryd.prog (W.alloc (.cells cs 9)) = .ok v' w') ∧ w'.ownsRow lo 9 1 v' (A ++ B).length ((A ++ B).map .string) ∧ Below lo W w' := by
  subst hk hc
  obtain ⟨i0, hi, hz0, hz1, hz2⟩ := info_parts infoS
  have hrow := Bl.new W 9 (B.map Value.string)
  have hown := h.alloc (.cells (B.map Value.string).toArray 9)
  have hsrc : Src Tryd.prog 1 47 (.slice (some ⟨W.heap.size, 0, none⟩) B.length B.length) B.length (B.map Value.string) (W.alloc (.cells (B.map Value.string).toArray 9)) :=
    Src.ofSlice _ Tryd.underlying47 ⟨W.heap.size, 0, none⟩ _ _ _ (by simp) (fun j u hj => by rw [Addr.add_lit, Nat.zero_add]; exact (hrow.cell j).trans hj) (fun u hu => by obtain ⟨x, _, rfl⟩ := List.mem_map.1 hu; rfl)
  have hsz : (W.alloc (.cells (B.map Value.string).toArray 9)).heap.size = W.heap.size + 1 := by simp
  obtain ⟨v', w', hr, ho, hg, hb⟩ := append_any (P := Tryd.prog) (W.alloc (.cells (B.map Value.string).toArray 9)) 47 9 i0 _ Tryd.underlying47 hi hz0 (by rw [hz1]; rfl) lo A.length B.length v (.slice (some ⟨W.heap.size, 0, none⟩) B.length B.length) (A.map .string) (B.map .string) (by rw [hz1]; exact hown) (by rw [hz1]; exact hsrc) (by omega) (by unfold maxLen; omega) (by rw [hz2]; omega)
  rw [hz1] at ho
  refine ⟨v', w', hr, by rw [List.length_append, List.map_append]; exact ho, ?_⟩
  refine ⟨hg.os, hg.tape, hg.output, Nat.le_trans (by omega) hg.size, fun i hi => ?_⟩
  rw [hg.block i (by omega) (fun e => by have := (own_block_new hown e.symm).1; omega)]
  exact Below.heap_alloc _ _ _ (by omega)
/-- The row in its block. -/
theorem own_lies {W : World} {lo n : Nat} {v : Value} {A : List ByteArray} (h : W.ownsRow lo 9 1 v n (A.map .string)) (hn : 0 < n) : ∃ g c, v = .slice (some ⟨g, 0, none⟩) n c ∧ lo ≤ g ∧ g < W.heap.size ∧ n ≤ c ∧ ∀ (j : Nat) x, A[j]? = some x → W.cell? ⟨g, 0 + j, none⟩ = some (.string x) := by
  rcases row_of_own h with ⟨rfl, rfl, _⟩ | ⟨g, cap, cur, rfl, a, b, c, d, e, f⟩
  · omega
  · refine ⟨g, cap, rfl, a, b.lt, c, fun j x hx => ?_⟩
    have := h.cells rfl j (.string x) (by simp [hx])
    rw [Addr.add_lit] at this
    exact this
/-- The texts. -/
def cw (i : Int) : ByteArray := if i = 0 then wNone else if i = 1 then wAlloc else if i = 2 then wThrough else wBack
def sw (s : Int) : ByteArray := if s = 0 then wPrivate else if s = 1 then wInner else wOuter
def wd (m : Mem) : List ByteArray := if m.t = 0 then [wStrong] else if m.t = 1 then [wDevice, sw m.s] else [wNormal, cw m.i, cw m.o, sw m.s]
def jn (xs : List ByteArray) : ByteArray := ⟨(Lib.join (xs.map (·.data.toList)) [32]).toArray⟩
def tx (m : Mem) : ByteArray := jn (wd m)
theorem cw_at {w : World} (h : TA w) {i : Int} (h0 : 0 ≤ i) (h3 : i ≤ 3) : w.cell? ⟨1, i.toNat, none⟩ = some (.string (cw i)) := by
  rcases (show i = 0 ∨ i = 1 ∨ i = 2 ∨ i = 3 by omega) with rfl | rfl | rfl | rfl
  · exact h.caches 0 _ rfl
  · exact h.caches 1 _ rfl
  · exact h.caches 2 _ rfl
  · exact h.caches 3 _ rfl
theorem sw_at {w : World} (h : TA w) {i : Int} (h0 : 0 ≤ i) (h3 : i ≤ 2) : w.cell? ⟨2, i.toNat, none⟩ = some (.string (sw i)) := by
  rcases (show i = 0 ∨ i = 1 ∨ i = 2 by omega) with rfl | rfl | rfl
  · exact h.shares 0 _ rfl
  · exact h.shares 1 _ rfl
  · exact h.shares 2 _ rfl
theorem cw_len (i : Int) : (cw i).data.toList.length ≤ 7 := by
  unfold cw
  repeat' split
  all_goals decide
theorem sw_len (i : Int) : (sw i).data.toList.length ≤ 7 := by
  unfold sw
  repeat' split
  all_goals decide
theorem wd_len (m : Mem) : (Lib.join ((wd m).map (·.data.toList)) [32]).length ≤ 31 := by
  have h1 := cw_len m.i
  have h2 := cw_len m.o
  have h3 := sw_len m.s
  have a1 : wStrong.data.toList.length = 6 := rfl
  have a2 : wDevice.data.toList.length = 6 := rfl
  have a3 : wNormal.data.toList.length = 6 := rfl
  unfold wd
  repeat' split
  · rw [List.map_cons, List.map_nil, Lib.join_one]; omega
  · rw [List.map_cons, Lib.join_cons, List.length_append, Lib.joinTail_length]; simp only [Lib.lens, List.map_cons, List.map_nil, List.sum_cons, List.sum_nil, List.length_cons, List.length_nil]; omega
  · rw [List.map_cons, Lib.join_cons, List.length_append, Lib.joinTail_length]; simp only [Lib.lens, List.map_cons, List.map_nil, List.sum_cons, List.sum_nil, List.length_cons, List.length_nil]; omega
end Go.Proofs.YtmcloaonpkfibaaDoor

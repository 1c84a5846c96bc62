import Derived.Test.YtplobjdghaokoaaSf
namespace Go.Proofs.Ytplobjdghaokoaa
open Go.RowKit
set_option linter.unusedVariables false

theorem framesL_take (cs : List Cut) {k : Nat} {c : Cut} (h : cs[k]? = some c) : framesL (cs.take (k + 1)) = framesL (cs.take k) ++ [(c.f : Int)] := by
  unfold framesL
  rw [take_snoc cs h, List.map_append]
  rfl
theorem framesL_len (cs : List Cut) : (framesL cs).length = cs.length := by simp [framesL]
theorem makeIc (W : World) (n : Nat) (hn : n ≤ 268435456) : (Instr.makeSlice 32 (.int .i64 0) (.int .i64 (n : Int))).run Try.prog W = .ok (.slice (some ⟨W.heap.size, 0, none⟩) 0 n) (W.alloc (.cells (zr n (Value.int .i64 0)) 3)) := by
  obtain ⟨i0, hi, hz0, hz1, hz2⟩ := info_parts infoI
  have := run_make (P := Try.prog) W 32 3 i0 _ Try.underlying32 hi hz0 .i64 .i64 0 n (by omega) (by omega) (by rw [hz2]; omega) (by omega)
  rw [this, hz1, Nat.mul_one, Int.toNat_natCast, show (Value.int .i64 0).cells = #[Value.int .i64 0] from rfl, madeCells_one]
  rfl

set_option maxHeartbeats 8000000 in
set_option maxRecDepth 100000 in
theorem framesS_any (W : World) (S : Nat → Prop) (s p : Nat) (cs : List Cut) (hS : PS W S s p cs) :
    Calls Try.prog 27 #[.pointer (some ⟨s, 0, none⟩)] W fun e W' => ∃ v, e = .returned v ∧ W'.ownsRow W.heap.size 3 1 v (framesL cs).length (encI (framesL cs)) ∧ Turn (fun _ => False) W W' := by
  obtain ⟨⟨low, v, h⟩, _⟩ := hS
  obtain ⟨a, cap, rfl, hcu, _⟩ := h.view
  have hlen := h.len
  have c1 := h.c1
  have hmk := makeIc W cs.length hlen
  have hsl := h.lowb s h.Ss
  have c1' : (W.alloc (.cells (zr cs.length (Value.int .i64 0)) 3)).cell? ⟨s, 1, none⟩ = some (.slice a cs.length cap) := by
    have T : Turn (fun _ => False) W (W.alloc (.cells (zr cs.length (Value.int .i64 0)) 3)) := (Turn.refl _ W).alloc _
    rw [T.cell hsl (fun h => h)]
    exact c1
  have HCU : Hid (CutsAt W a cs ∧ ∀ c ∈ cs, c.f < 268435456) := ⟨hcu, h.fb⟩
  clear h hcu
  generalize hn : cs.length = n at *
  have HN : Hid (cs.length = n) := hn
  have HM : Hid ((W.alloc (.cells (zr n (Value.int .i64 0)) 3)).ownsRow W.heap.size 3 1 (.slice (some ⟨W.heap.size, 0, none⟩) 0 n) (framesL (cs.take 0)).length (encI (framesL (cs.take 0))) ∧ Turn (fun _ => False) W (W.alloc (.cells (zr n (Value.int .i64 0)) 3))) := by
    refine ⟨own_of_row (zr_row W n (.int .i64 0) 3) (Nat.le_refl _) (Nat.zero_le _) (by unfold maxLen; omega) (by simp) (by simp [framesL, encI]), (Turn.refl _ _).alloc _⟩
  clear hn
  go_enter Try.func27, Try.ntmps27
  go_wp2
  generalize W.alloc (.cells (zr n (Value.int .i64 0)) 3) = wa at *
  go_loopw [3, 17] (fun s3 s17 wr => ∃ k : Nat, k ≤ n ∧ s17 = .int .i64 k ∧ Hid (wr.ownsRow W.heap.size 3 1 s3 (framesL (cs.take k)).length (encI (framesL (cs.take k))) ∧ Turn (fun _ => False) W wr)) (fun _ s17 _ => n - (intOf s17).toNat)
  case atStart => exact ⟨0, Nat.zero_le _, rfl, HM⟩
  case round =>
    obtain ⟨k, hk, rfl, HO⟩ := hrel
    clear HM hmk c1'
    by_cases hlt : k < n
    · obtain ⟨c, hc⟩ : ∃ c, cs[k]? = some c := ⟨_, List.getElem?_eq_getElem (by rw [HN.out]; exact hlt)⟩
      obtain ⟨g, rfl, hg, hcut⟩ := (HCU.out.1.turn HO.out.2 (fun _ _ h => h)) k c hc
      obtain ⟨k0, k1, k2, k3, k4⟩ := cut_cells hcut
      have hcf := HCU.out.2 c (List.mem_of_getElem? hc)
      have hfs := framesL_take cs hc
      have hfl := framesL_len (cs.take k)
      rw [List.length_take, HN.out] at hfl
      have T0 : Turn (fun _ => False) wr (wr.alloc (.cells #[.int .i64 c.f, .bool (c.b 0), .bool (c.b 1), .bool (c.b 2), .bool (c.b 3)] 85)) := (Turn.refl _ _).alloc _
      have hsz : (wr.alloc (.cells #[.int .i64 c.f, .bool (c.b 0), .bool (c.b 1), .bool (c.b 2), .bool (c.b 3)] 85)).heap.size = wr.heap.size + 1 := by simp
      obtain ⟨v', w', hr, ho', ht', hb'⟩ := app_int2 (own_turn HO.out.1 T0 (fun _ _ h => h)) (c.f : Int) (by have := HO.out.2.size; omega) (by omega)
      rw [← hfs] at ho'
      have HS : Hid (w'.ownsRow W.heap.size 3 1 v' (framesL (cs.take (k + 1))).length (encI (framesL (cs.take (k + 1)))) ∧ Turn (fun _ => False) W w') := by
        refine ⟨ho', (HO.out.2.trans T0 (fun _ h => h.elim)).trans ht' (fun b hb => .inr ?_)⟩
        exact (own_row HO.out.1 hb).choose_spec.2
      obtain ⟨va, vc, hv⟩ := slice_form HO.out.1
      subst hv
      rw [hsz] at hr
      clear ho' ht' hb' hfs hc hcut T0 hsz
      generalize (framesL (cs.take k)).length = ml at *
      go_wp2_with (first
        | (at_builtin; refine Lib.wpList_append_run _ rfl _ _ 32 32 rfl _ _ rfl rfl _ _ (hr _) ?_; clear hr)
        | go_in)
      go_roundw
      case rel => exact ⟨k + 1, by omega, by go_num, HS⟩
      case measure => simp [intOf]; omega
    · obtain rfl : k = n := by omega
      have HO2 : Hid (wr.ownsRow W.heap.size 3 1 u3 (framesL cs).length (encI (framesL cs)) ∧ Turn (fun _ => False) W wr) := by
        have := HO.out
        rw [List.take_of_length_le (by rw [HN.out]; omega)] at this
        exact this
      go_wp2
      go_ret
      exact ⟨_, rfl, HO2.out⟩
end Go.Proofs.Ytplobjdghaokoaa

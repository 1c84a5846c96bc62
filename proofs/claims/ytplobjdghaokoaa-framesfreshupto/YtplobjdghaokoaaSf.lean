import Derived.Test.YtplobjdghaokoaaLx
namespace Go.Proofs.Ytplobjdghaokoaa
open Go.RowKit
set_option linter.unusedVariables false

/-! ### the tables of a slab -/
def Cut.tabsTo (c : Cut) (k : Nat) : List Int := ((List.range k).filter c.b).map fun (i : Nat) => 4 * (c.f : Int) + i
def Cut.tabs (c : Cut) : List Int := c.tabsTo 4
def tabsL (cs : List Cut) : List Int := cs.flatMap Cut.tabs
def framesL (cs : List Cut) : List Int := cs.map fun c => (c.f : Int)
theorem tabsTo_succ (c : Cut) (k : Nat) : c.tabsTo (k + 1) = c.tabsTo k ++ if c.b k = true then [4 * (c.f : Int) + k] else [] := by
  unfold Cut.tabsTo
  rw [List.range_succ, List.filter_append, List.map_append]
  congr 1
  cases h : c.b k <;> simp [h]
theorem tabsTo_len (c : Cut) (k : Nat) : (c.tabsTo k).length ≤ k := by
  unfold Cut.tabsTo
  rw [List.length_map]
  exact Nat.le_trans (List.length_filter_le _ _) (by simp)
theorem tabsL_len (cs : List Cut) : (tabsL cs).length ≤ 4 * cs.length := by
  unfold tabsL
  induction cs with
  | nil => simp
  | cons c r ih =>
    have := tabsTo_len c 4
    rw [List.flatMap_cons, List.length_append, List.length_cons]
    show (c.tabsTo 4).length + _ ≤ _
    omega
theorem tabsL_take (cs : List Cut) {k : Nat} {c : Cut} (h : cs[k]? = some c) : tabsL (cs.take (k + 1)) = tabsL (cs.take k) ++ c.tabs := by
  unfold tabsL
  rw [take_snoc cs h, List.flatMap_append]
  simp

/-- append of one number, with what it turns. -/
theorem app_int2 {W : World} {lo : Nat} {v : Value} {A : List Int} (h : W.ownsRow lo 3 1 v A.length (encI A)) (x : Int) (hlo : lo ≤ W.heap.size) (hl : A.length ≤ 8796093022208) :
    ∃ v' w', (∀ ty, (Builtin.append_ #[32, 32] ty #[v, .slice (some ⟨W.heap.size, 0, none⟩) 1 1]).run Try.prog (W.alloc (.cells #[.int .i64 x] 3)) = .ok v' w') ∧ w'.ownsRow lo 3 1 v' (A ++ [x]).length (encI (A ++ [x])) ∧ Turn (fun b => v.ownBlock = some b) W w' ∧ ∀ g, v'.ownBlock = some g → v.ownBlock = some g ∨ W.heap.size ≤ g := by
  obtain ⟨i0, hi, hz0, hz1, hz2⟩ := info_parts infoI
  have T0 : Turn (fun _ => False) W (W.alloc (.cells #[.int .i64 x] 3)) := (Turn.refl _ W).alloc _
  have hrow := row_new W [.int .i64 x] 3
  have hown := own_turn h T0 (fun _ _ h => h)
  have hsz : (W.alloc (.cells #[.int .i64 x] 3)).heap.size = W.heap.size + 1 := by simp
  have hsrc : Src Try.prog 1 32 (.slice (some ⟨W.heap.size, 0, none⟩) 1 1) 1 [.int .i64 x] (W.alloc (.cells #[.int .i64 x] 3)) :=
    Src.ofSlice _ Try.underlying32 ⟨W.heap.size, 0, none⟩ 1 1 _ rfl (fun j u hj => by rw [Addr.add_lit, Nat.zero_add]; exact (hrow.cell j).trans hj) (fun u hu => by simp at hu; subst hu; rfl)
  obtain ⟨v', w', hr, ho, hg, hb⟩ := append_any (P := Try.prog) (W.alloc (.cells #[.int .i64 x] 3)) 32 3 i0 _ Try.underlying32 hi hz0 (by rw [hz1]; rfl) lo A.length 1 v (.slice (some ⟨W.heap.size, 0, none⟩) 1 1) (encI A) [.int .i64 x] (by rw [hz1]; exact hown) (by rw [hz1]; exact hsrc) (by omega) (by unfold maxLen; omega) (by rw [hz2]; omega)
  rw [hz1] at ho
  refine ⟨v', w', hr, ?_, (T0.mono (S' := fun b => v.ownBlock = some b) (fun _ _ h => h.elim)).trans (Turn.grown (S := fun b => v.ownBlock = some b) hg (fun k hk => .inl hk)) (fun b hb => .inl hb), fun g hg => ?_⟩
  · rw [List.length_append, encI, List.map_append]
    exact ho
  · rcases hb g hg with h1 | h1
    · exact .inl h1
    · exact .inr (by omega)
theorem own_row {W : World} {lo n size b : Nat} {e : TypeId} {v : Value} {xs : List Value} (h : W.ownsRow lo e size v n xs) (hb : v.ownBlock = some b) : ∃ cur, RowAt W b e cur ∧ lo ≤ b := by
  rcases row_of_own h with ⟨rfl, _, _⟩ | ⟨g, cap, cur, rfl, h2, h3, _⟩
  · cases hb
  · cases hb; exact ⟨cur, h3, h2⟩

theorem idx4 (w : World) (b : Nat → Bool) (j : Nat) (hj : j < 4) : (Instr.index 83 (.agg #[.bool (b 0), .bool (b 1), .bool (b 2), .bool (b 3)]) (.int .i64 (j : Int))).run Try.prog w = .ok (.bool (b j)) w := by
  rcases (show j = 0 ∨ j = 1 ∨ j = 2 ∨ j = 3 by omega) with rfl | rfl | rfl | rfl <;> kernel_rfl
set_option maxHeartbeats 8000000 in
set_option maxRecDepth 100000 in
theorem tables_any (W : World) (S : Nat → Prop) (s p : Nat) (cs : List Cut) (hS : PS W S s p cs) :
    Calls Try.prog 26 #[.pointer (some ⟨s, 0, none⟩)] W fun e W' => ∃ v, e = .returned v ∧ W'.ownsRow W.heap.size 3 1 v (tabsL cs).length (encI (tabsL cs)) ∧ Turn (fun _ => False) W W' := by
  obtain ⟨⟨low, v, h⟩, _⟩ := hS
  obtain ⟨a, cap, rfl, hcu, _⟩ := h.view
  have hlen := h.len
  have c1 := h.c1
  have HCU : Hid (CutsAt W a cs ∧ ∀ c ∈ cs, c.f < 268435456) := ⟨hcu, h.fb⟩
  clear h hcu
  generalize hn : cs.length = n at *
  have HN : Hid (cs.length = n) := hn
  clear hn
  go_enter Try.func26, Try.ntmps26
  go_wp2
  go_loopw [3, 13] (fun s3 s13 wr => ∃ k : Nat, k ≤ n ∧ s13 = .int .i64 k ∧ Hid (wr.ownsRow W.heap.size 3 1 s3 (tabsL (cs.take k)).length (encI (tabsL (cs.take k)))) ∧ Hid (Turn (fun _ => False) W wr)) (fun _ s13 _ => n - (intOf s13).toNat)
  case atStart => exact ⟨0, Nat.zero_le _, rfl, World.ownsRow_nil _ _ _ _, Turn.refl _ _⟩
  case round =>
    obtain ⟨k, hk, rfl, HO, HT⟩ := hrel
    by_cases hlt : k < n
    · obtain ⟨c, hc⟩ : ∃ c, cs[k]? = some c := ⟨_, List.getElem?_eq_getElem (by rw [HN.out]; exact hlt)⟩
      obtain ⟨g, rfl, hg, hcut⟩ := (HCU.out.1.turn HT.out (fun _ _ h => h)) k c hc
      obtain ⟨k0, k1, k2, k3, k4⟩ := cut_cells hcut
      have hcf := HCU.out.2 c (List.mem_of_getElem? hc)
      have HTS : Hid (tabsL (cs.take (k + 1)) = tabsL (cs.take k) ++ c.tabs) := tabsL_take cs hc
      have HTL : Hid ((tabsL (cs.take k)).length ≤ 4 * k) := by
        have := tabsL_len (cs.take k)
        rw [List.length_take] at this
        show _ ≤ _
        omega
      clear hc hcut
      have hrow := row_new wr [.int .i64 c.f, .bool (c.b 0), .bool (c.b 1), .bool (c.b 2), .bool (c.b 3)] 85
      have HI : Hid ((wr.alloc (.cells #[.int .i64 c.f, .bool (c.b 0), .bool (c.b 1), .bool (c.b 2), .bool (c.b 3)] 85)).ownsRow W.heap.size 3 1 u3 (tabsL (cs.take k) ++ c.tabsTo 0).length (encI (tabsL (cs.take k) ++ c.tabsTo 0)) ∧ RowAt (wr.alloc (.cells #[.int .i64 c.f, .bool (c.b 0), .bool (c.b 1), .bool (c.b 2), .bool (c.b 3)] 85)) wr.heap.size 85 [.int .i64 c.f, .bool (c.b 0), .bool (c.b 1), .bool (c.b 2), .bool (c.b 3)] ∧ Turn (fun _ => False) W (wr.alloc (.cells #[.int .i64 c.f, .bool (c.b 0), .bool (c.b 1), .bool (c.b 2), .bool (c.b 3)] 85))) := by
        refine ⟨?_, hrow, HT.out.alloc _⟩
        rw [show c.tabsTo 0 = [] from rfl, List.append_nil]
        exact own_turn HO.out ((Turn.refl (fun _ => False) wr).alloc _) (fun _ _ h => h)
      clear hrow
      go_wp2
      have hbxW : Hid (W.heap.size ≤ wr.heap.size) := HT.out.size
      generalize wr.alloc (.cells #[.int .i64 c.f, .bool (c.b 0), .bool (c.b 1), .bool (c.b 2), .bool (c.b 3)] 85) = wa at *
      generalize wr.heap.size = bx at *
      clear HO HT k0 k1 k2 k3 k4
      generalize wr = wz at *
      go_loopw [3, 19] (fun s3 s19 wr => ∃ j : Nat, j ≤ 4 ∧ s19 = .int .i64 j ∧ Hid (wr.ownsRow W.heap.size 3 1 s3 (tabsL (cs.take k) ++ c.tabsTo j).length (encI (tabsL (cs.take k) ++ c.tabsTo j)) ∧ RowAt wr bx 85 [.int .i64 c.f, .bool (c.b 0), .bool (c.b 1), .bool (c.b 2), .bool (c.b 3)] ∧ Turn (fun _ => False) W wr)) (fun _ s19 _ => 4 - (intOf s19).toNat)
      case atStart => exact ⟨0, by omega, rfl, HI⟩
      case round =>
        obtain ⟨j, hj, rfl, HJ⟩ := hrel
        clear HI
        by_cases hj4 : j < 4
        · have e0 : wr.cell? ⟨bx, 0, none⟩ = some (.int .i64 c.f) := by rw [HJ.out.2.1.cell]; rfl
          have hts := tabsTo_succ c j
          have htl := tabsTo_len c j
          cases hb : c.b j with
          | true =>
            rw [hb, if_pos rfl] at hts
            obtain ⟨v', w', hr, ho', ht', hb'⟩ := app_int2 HJ.out.1 (4 * (c.f : Int) + j) HJ.out.2.2.size (by have := HTL.out; rw [List.length_append]; omega)
            rw [List.append_assoc, ← hts] at ho'
            have HS : Hid (w'.ownsRow W.heap.size 3 1 v' (tabsL (cs.take k) ++ c.tabsTo (j + 1)).length (encI (tabsL (cs.take k) ++ c.tabsTo (j + 1))) ∧ RowAt w' bx 85 [.int .i64 c.f, .bool (c.b 0), .bool (c.b 1), .bool (c.b 2), .bool (c.b 3)] ∧ Turn (fun _ => False) W w') := by
              refine ⟨ho', HJ.out.2.1.turn ht' (fun e => ?_), HJ.out.2.2.trans ht' (fun b hb => .inr ?_)⟩
              · obtain ⟨cur, hr1, _⟩ := own_row HJ.out.1 e
                exact absurd (hr1.ty HJ.out.2.1) (by decide)
              · exact (own_row HJ.out.1 hb).choose_spec.2
            obtain ⟨va, vc, hv⟩ := slice_form HJ.out.1
            subst hv
            clear ho' ht' hb' hts htl HJ
            rw [show (4 : Int) * (c.f : Int) + (j : Int) = (c.f : Int) * 4 + (j : Int) by omega] at hr
            generalize (tabsL (cs.take k) ++ c.tabsTo j).length = ml at *
            have hix := idx4 wr c.b j hj4
            rw [hb] at hix
            have hjz : (j : Int) < 4 := by omega
            have HB : Hid (c.b j = true) := hb
            clear hb
            go_wp2_with (first
              | (at_builtin; refine Lib.wpList_append_run _ rfl _ _ 32 32 rfl _ _ rfl rfl _ _ (hr _) ?_; clear hr)
              | go_in)
            go_roundw
            case rel => exact ⟨j + 1, by omega, by go_num, HS⟩
            case measure => simp [intOf]; omega
          | false =>
            rw [hb, if_neg (by simp), List.append_nil] at hts
            have HTS2 : Hid _ := hts
            clear hts htl
            have hix := idx4 wr c.b j hj4
            rw [hb] at hix
            have hjz : (j : Int) < 4 := by omega
            have HB : Hid (c.b j = false) := hb
            clear hb
            go_wp2
            go_roundw
            case rel => exact ⟨j + 1, by omega, by go_num, by show _ ∧ _; rw [HTS2.out]; exact HJ.out⟩
            case measure => simp [intOf]; omega
        · obtain rfl : j = 4 := by omega
          go_wp2
          go_roundw
          case rel => exact ⟨k + 1, by omega, by go_num, by show World.ownsRow _ _ _ _ _ _ _; rw [HTS.out]; exact HJ.out.1, HJ.out.2.2⟩
          case measure => simp [intOf]; omega
    · obtain rfl : k = n := by omega
      have HO2 : Hid (wr.ownsRow W.heap.size 3 1 u3 (tabsL cs).length (encI (tabsL cs))) := by
        have := HO.out
        rw [List.take_of_length_le (by rw [HN.out]; omega)] at this
        exact this
      go_wp2
      go_ret
      exact ⟨_, rfl, HO2.out, HT.out⟩
end Go.Proofs.Ytplobjdghaokoaa

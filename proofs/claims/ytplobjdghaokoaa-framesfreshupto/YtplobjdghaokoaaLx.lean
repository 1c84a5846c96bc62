import Derived.Test.YtplobjdghaokoaaLw
namespace Go.Proofs.Ytplobjdghaokoaa
open Go.RowKit
set_option linter.unusedVariables false

theorem tmod_neg (n k : Int) (hk : 0 < k) : (n.tmod k < 0 → n.tmod k + k = n % k) ∧ (¬ n.tmod k < 0 → n.tmod k = n % k) ∧ - k < n.tmod k ∧ n.tmod k < k := by
  have h1 := Int.emod_nonneg n (show k ≠ 0 by omega)
  have h2 := Int.emod_lt_of_pos n hk
  have h3 : n.tmod k = n % k ∨ (n.tmod k = n % k - k ∧ n % k ≠ 0) := by
    rw [Int.tmod_eq_emod]
    split
    · left; omega
    · rename_i hc
      exact .inr ⟨by omega, fun e => hc (.inr (Int.dvd_of_emod_eq_zero e))⟩
  omega
set_option maxHeartbeats 2000000 in
theorem rest_any (W : World) (n k : Int) (hk : 0 < k) (hk2 : k ≤ 4611686018427387904) : Calls Try.prog 13 #[.int .i64 n, .int .i64 k] W fun e W' => e = .returned (.int .i64 (n % k)) ∧ W = W' := by
  obtain ⟨t1, t2, t3, t4⟩ := tmod_neg n k hk
  by_cases h0 : 0 ≤ n
  · have he : n % k = n.tmod k := by rw [t2]; have := Int.tmod_nonneg k h0; omega
    have hp : 0 ≤ n % k := Int.emod_nonneg n (by omega)
    have hz : ¬ (n % k < 0) := by omega
    clear t1 t2 t3 t4 he
    go_enter Try.func13, Try.ntmps13
    go_wp2
    go_ret
    exact ⟨rfl, rfl⟩
  · by_cases h : n.tmod k < 0
    · have HE : Hid (n.tmod k + k = n % k) := t1 h
      clear t1 t2
      go_enter Try.func13, Try.ntmps13
      go_wp2
      go_ret
      exact ⟨ret_int HE.out, rfl⟩
    · have HE : Hid (n.tmod k = n % k) := t2 h
      clear t1 t2
      go_enter Try.func13, Try.ntmps13
      go_wp2
      go_ret
      exact ⟨ret_int HE.out, rfl⟩
def pf (first : Int) : Nat := (first % 10000).toNat
def pc (count : Int) : Nat := 1 + (count % 200).toNat
theorem pf_lt (first : Int) : pf first < 10000 ∧ (pf first : Int) = first % 10000 := by unfold pf; omega
theorem pc_lt (count : Int) : 1 ≤ pc count ∧ pc count ≤ 200 ∧ (pc count : Int) = 1 + count % 200 := by unfold pc; omega
set_option maxHeartbeats 2000000 in
theorem pressed_any (W : World) (first count : Int) : Calls Try.prog 9 #[.int .i64 first, .int .i64 count] W fun e W' => e = .returned (.tuple #[.pointer (some ⟨W.heap.size + 1, 0, none⟩), .int .i64 (pf first), .int .i64 (pc count)]) ∧ PP W' (W.heap.size + 1) W.heap.size (pf first) (List.replicate (pc count) 0) ∧ Turn (fun _ => False) W W' ∧ W'.heap.size = W.heap.size + 2 := by
  obtain ⟨f1, f2⟩ := pf_lt first
  obtain ⟨c1, c2, c3⟩ := pc_lt count
  have hr1 := rest_any W first 10000 (by omega) (by omega)
  have hr2 := rest_any W count 200 (by omega) (by omega)
  rw [← f2] at hr1
  rw [show count % 200 = (pc count : Int) - 1 by omega] at hr2
  have hn := new_ok W (pf first) (pc count) (by omega) (by omega)
  clear f2 c3
  generalize pf first = f at *
  generalize pc count = c at *
  have e1 : (1 : Int) + ((c : Int) - 1) = c := by omega
  go_enter Try.func9, Try.ntmps9
  go_wp2_with (first
    | (go_at_call 15; refine (no_any _ _).mono ?_; rintro e w' ⟨rfl, rfl⟩)
    | (go_at_call 13; refine hr1.mono ?_; clear hr1; rintro e w' ⟨rfl, rfl⟩)
    | (go_at_call 13; refine hr2.mono ?_; clear hr2; rintro e w' ⟨rfl, rfl⟩)
    | (go_at_call 33; refine hn.mono ?_; clear hn; rintro e w1 ⟨rfl, hp1, ht1, hz1⟩; have HH : Hid (PP w1 (W.heap.size + 1) W.heap.size f (List.replicate c 0) ∧ Turn (fun _ => False) W w1 ∧ w1.heap.size = W.heap.size + 2) := ⟨hp1, ht1, hz1⟩; clear hp1 ht1 hz1)
    | go_in)
  exact bodyPost_ret (v := .tuple #[.pointer (some ⟨W.heap.size + 1, 0, none⟩), .int .i64 f, .int .i64 c]) (by simp [results, Try.results9, go_sem]) rfl ⟨rfl, HH.out⟩

theorem usesR_at {f0 : Nat} {u : List Nat} {k x : Nat} (h : u[k]? = some x) : usesR f0 u ((f0 : Int) + k) = x := by
  have hl : k < u.length := (List.getElem?_eq_some_iff.1 h).1
  unfold usesR
  have hb : hasB f0 u ((f0 : Int) + k) 1 = true := decide_eq_true ⟨by omega, by omega⟩
  rw [if_pos hb, show (((f0 : Int) + k) - f0).toNat = k by omega, h]
  rfl
def intsOf (u : List Nat) : List Int := u.map fun (x : Nat) => (x : Int)
theorem intsOf_len (u : List Nat) : (intsOf u).length = u.length := by simp [intsOf]
theorem intsOf_at {u : List Nat} {k x : Nat} (h : u[k]? = some x) : (intsOf u)[k]? = some (x : Int) := by simp [intsOf, h]
theorem intsOf_inj {u v : List Nat} (h : intsOf u = intsOf v) : u = v := by
  apply List.ext_getElem?
  intro i
  have := congrArg (fun l => l[i]?) h
  simp only [intsOf, List.getElem?_map] at this
  cases hu : u[i]? with
  | none => rw [hu] at this; cases hv : v[i]? with
    | none => rfl
    | some y => rw [hv] at this; simp at this
  | some x => rw [hu] at this; cases hv : v[i]? with
    | none => rw [hv] at this; simp at this
    | some y => rw [hv] at this; simp at this; rw [show x = y by omega]
/-- append of one number onto a list that is owned. -/
theorem app_int {W : World} {lo : Nat} {v : Value} {A : List Int} (h : W.ownsRow lo 3 1 v A.length (encI A)) (x : Int) (hlo : lo ≤ W.heap.size) (hl : A.length ≤ 8796093022208) :
    ∃ v' w', (∀ ty, (Builtin.append_ #[32, 32] ty #[v, .slice (some ⟨W.heap.size, 0, none⟩) 1 1]).run Try.prog (W.alloc (.cells #[.int .i64 x] 3)) = .ok v' w') ∧ w'.ownsRow lo 3 1 v' (A ++ [x]).length (encI (A ++ [x])) ∧ Turn (fun b => lo ≤ b) W w' := by
  obtain ⟨i0, hi, hz0, hz1, hz2⟩ := info_parts infoI
  have T0 : Turn (fun _ => False) W (W.alloc (.cells #[.int .i64 x] 3)) := (Turn.refl _ W).alloc _
  have hrow := row_new W [.int .i64 x] 3
  have hown := own_turn h T0 (fun _ _ h => h)
  have hsz : (W.alloc (.cells #[.int .i64 x] 3)).heap.size = W.heap.size + 1 := by simp
  have hsrc : Src Try.prog 1 32 (.slice (some ⟨W.heap.size, 0, none⟩) 1 1) 1 [.int .i64 x] (W.alloc (.cells #[.int .i64 x] 3)) :=
    Src.ofSlice _ Try.underlying32 ⟨W.heap.size, 0, none⟩ 1 1 _ rfl (fun j u hj => by rw [Addr.add_lit, Nat.zero_add]; exact (hrow.cell j).trans hj) (fun u hu => by simp at hu; subst hu; rfl)
  obtain ⟨v', w', hr, ho, hg, hb⟩ := append_any (P := Try.prog) (W.alloc (.cells #[.int .i64 x] 3)) 32 3 i0 _ Try.underlying32 hi hz0 (by rw [hz1]; rfl) lo A.length 1 v (.slice (some ⟨W.heap.size, 0, none⟩) 1 1) (encI A) [.int .i64 x] (by rw [hz1]; exact hown) (by rw [hz1]; exact hsrc) (by omega) (by unfold maxLen; omega) (by rw [hz2]; omega)
  rw [hz1] at ho
  refine ⟨v', w', hr, ?_, T0.mono (fun _ _ h => h.elim) |>.trans (Turn.grown (S := fun b => lo ≤ b) hg (fun k hk => ?_)) (fun b hb => .inl hb)⟩
  · rw [List.length_append, encI, List.map_append]
    exact ho
  · exact .inl (own_block_new hown hk).1
set_option maxHeartbeats 4000000 in
set_option maxRecDepth 100000 in
theorem usesL_any (W : World) (p ub f0 : Nat) (u : List Nat) (hP : PP W p ub f0 u) :
    Calls Try.prog 12 #[.pointer (some ⟨p, 0, none⟩), .int .i64 f0, .int .i64 u.length] W fun e W' => ∃ v, e = .returned v ∧ W'.ownsRow W.heap.size 3 1 v u.length (encI (intsOf u)) ∧ Turn (fun _ => False) W W' := by
  have n1 := hP.n1
  have n2 := hP.n2
  have HP : Hid (PP W p ub f0 u) := hP
  clear hP
  generalize hn : u.length = n at *
  have HN : Hid (u.length = n) := hn
  clear hn
  go_enter Try.func12, Try.ntmps12
  go_wp2
  go_loopw [7, 8] (fun s7 s8 wr => ∃ k : Nat, k ≤ n ∧ s8 = .int .i64 k ∧ Hid (wr.ownsRow W.heap.size 3 1 s7 k (encI ((intsOf u).take k))) ∧ Hid (Turn (fun _ => False) W wr)) (fun _ s8 _ => n - (intOf s8).toNat)
  case atStart => exact ⟨0, Nat.zero_le _, rfl, World.ownsRow_nil _ _ _ _, Turn.refl _ _⟩
  case round =>
    obtain ⟨k, hk, rfl, HO, HT⟩ := hrel
    by_cases hlt : k < n
    · obtain ⟨x, hx⟩ : ∃ x, u[k]? = some x := ⟨_, List.getElem?_eq_getElem (by rw [HN.out]; omega)⟩
      have hu := uses_any wr p ub f0 u ((f0 : Int) + k) (HP.out.keep HT.out (fun h => h) (fun h => h)) (by omega) (by omega)
      rw [usesR_at hx] at hu
      have hkl : ((intsOf u).take k).length = k := by rw [List.length_take, intsOf_len, HN.out]; omega
      have HS : Hid (∀ q, ∃ v' w', (∀ ty, (Builtin.append_ #[32, 32] ty #[u7, .slice (some ⟨wr.heap.size, 0, none⟩) 1 1]).run Try.prog ((wr.drewN q).alloc (.cells #[.int .i64 (x : Int)] 3)) = .ok v' w') ∧ w'.ownsRow W.heap.size 3 1 v' (k + 1) (encI ((intsOf u).take (k + 1))) ∧ Turn (fun _ => False) W w') := fun q => by
        have ho : (wr.drewN q).ownsRow W.heap.size 3 1 u7 ((intsOf u).take k).length (encI ((intsOf u).take k)) := by
          rw [hkl]; exact own_turn HO.out ((Turn.refl (fun _ => False) wr).drewN q) (fun _ _ h => h)
        obtain ⟨v', w', h1, h2, h3⟩ := app_int ho (x : Int) HT.out.size (by omega)
        rw [← take_snoc _ (intsOf_at hx)] at h2
        have e : ((intsOf u).take (k + 1)).length = k + 1 := by rw [List.length_take, intsOf_len, HN.out]; omega
        rw [e] at h2
        exact ⟨v', w', h1, h2, (HT.out.drewN q).trans h3 (fun b hb => .inr hb)⟩
      obtain ⟨va, vc, hv⟩ := slice_form HO.out
      subst hv
      clear hx
      go_wp2_with (first
        | (go_at_call 25; refine hu.mono ?_; clear hu; rintro e w' ⟨rfl, q, rfl⟩; obtain ⟨v', w', hr, ho', ht'⟩ := HS.out q; have HR : Hid (w'.ownsRow W.heap.size 3 1 v' (k + 1) (encI ((intsOf u).take (k + 1))) ∧ Turn (fun _ => False) W w') := ⟨ho', ht'⟩; clear ho' ht')
        | (at_builtin; refine Lib.wpList_append_run _ rfl _ _ 32 32 rfl _ _ rfl rfl _ _ (hr _) ?_; clear hr)
        | go_in)
      go_roundw
      case rel => exact ⟨k + 1, by omega, by go_num, HR.out.1, HR.out.2⟩
      case measure => simp [intOf]; omega
    · obtain rfl : k = n := by omega
      have HO2 : Hid (wr.ownsRow W.heap.size 3 1 u7 k (encI (intsOf u))) := by
        have := HO.out
        rw [List.take_of_length_le (by rw [intsOf_len, HN.out]; omega)] at this
        exact this
      go_wp2
      go_ret
      exact ⟨_, rfl, HO2.out, HT.out⟩
end Go.Proofs.Ytplobjdghaokoaa

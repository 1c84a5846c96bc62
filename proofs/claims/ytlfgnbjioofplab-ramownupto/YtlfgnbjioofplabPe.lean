import Derived.Test.YtlfgnbjioofplabPd
import Derived.Deep.RegionLaw
namespace Go.Proofs.Ytlfgnbjioofplab
open Go.RowKit
set_option linter.unusedVariables false

theorem madeCells_one (z : Value) (n : Nat) : madeCells #[z] n = (List.replicate n z).toArray := by
  apply Array.ext
  · simp [size_madeCells]
  · intro i h1 h2
    have h3 : i % 1 = 0 := Nat.mod_one i
    simp [madeCells, h3]
theorem info8 : (Try.prog.info? 5).map (fun i => (i.zero, i.size, i.bytes)) = some (some (.int .u8 0), 1, 1) := by kernel_rfl
theorem infoI : (Try.prog.info? 3).map (fun i => (i.zero, i.size, i.bytes)) = some (some (.int .i64 0), 1, 8) := by kernel_rfl
theorem make8 (W : World) (n : Nat) (hn : n ≤ 281474976710656) : (Instr.makeSlice 33 (.int .i64 (n : Int)) (.int .i64 (n : Int))).run Try.prog W = .ok (.slice (some ⟨W.heap.size, 0, none⟩) n n) (W.alloc (.cells (List.replicate n (Value.int .u8 0)).toArray 5)) := by
  obtain ⟨i0, hi, hz0, hz1, hz2⟩ := info_parts info8
  have := run_make (P := Try.prog) W 33 5 i0 _ Try.underlying33 hi hz0 .i64 .i64 n n (by omega) (Int.le_refl _) (by rw [hz2]; omega) (by omega)
  rw [this, hz1, Nat.mul_one, Int.toNat_natCast, show (Value.int .u8 0).cells = #[Value.int .u8 0] from rfl, madeCells_one]
theorem row_new (W : World) (l : List Value) (e : TypeId) : RowAt (W.alloc (.cells l.toArray e)) W.heap.size e l := (MapKept.heap_alloc W _).1

def zr (n : Nat) (z : Value) : Array Value := (List.replicate n z).toArray
theorem zr_row (W : World) (n : Nat) (z : Value) (e : TypeId) : RowAt (W.alloc (.cells (zr n z) e)) W.heap.size e (List.replicate n z) := row_new W _ e
def errR (N : Nat) (pa : Nat) (n : Int) : Int := if n < 0 then 1 else if (N : Int) * 4096 < pa + n then 30 else 0
def encB (l : List Int) : List Value := l.map (Value.int .u8)
theorem encB_len (l : List Int) : (encB l).length = l.length := by simp [encB]
theorem encB_one (l : List Int) : ∀ u ∈ encB l, u.oneCell' = true := by
  intro u hu
  obtain ⟨x, _, rfl⟩ := List.mem_map.1 hu
  rfl
theorem encB_at {l : List Int} {i : Nat} {v : Int} (h : l[i]? = some v) : (encB l)[i]? = some (.int .u8 v) := by rw [encB, List.getElem?_map, h]; rfl

theorem read_neg (W : World) (p : Nat) (pa n : Int) (hn : n < 0) :
    Calls Try.prog 7 #[.pointer (some ⟨p, 0, none⟩), .int .u64 pa, .int .i64 n] W fun e W' => e = .returned (.tuple #[.slice none 0 0, .int .i64 1]) ∧ W = W' := by
  go_enter Try.func7, Try.ntmps7
  go_wp2
  go_ret2
  exact ⟨rfl, rfl⟩
theorem read_bus (W : World) (p N : Nat) (pa : Nat) (n : Int) (hc0 : W.cell? ⟨p, 0, none⟩ = some (.int .i64 N)) (hN : N ≤ 65536) (hn : 0 ≤ n) (hn1 : n ≤ 9223372036854775807) (hp : pa < 18446744073709551616) (hb : (N : Int) * 4096 < pa + n) :
    Calls Try.prog 7 #[.pointer (some ⟨p, 0, none⟩), .int .u64 pa, .int .i64 n] W fun e W' => e = .returned (.tuple #[.slice none 0 0, .int .i64 30]) ∧ W = W' := by
  have hh := has_any W p N n pa hc0 hN hn hn1 hp
  rw [decide_eq_false (by omega)] at hh
  go_enter Try.func7, Try.ntmps7
  go_wp2_with (first
    | (go_at_call 26; refine hh.mono ?_; rintro e w1 ⟨rfl, rfl⟩)
    | go_in)
  go_ret2
  exact ⟨rfl, rfl⟩

theorem rd_zero {m : Nat → Int} {a t : Nat} (h : ∀ o, o < t → m (a + o) = 0) : rd m a t = List.replicate t 0 := by
  apply List.ext_getElem?
  intro j
  by_cases hj : j < t
  · rw [rd_at _ _ _ hj, List.getElem?_replicate, if_pos hj, h j hj]
  · rw [List.getElem?_eq_none (by rw [rd_len]; omega), List.getElem?_eq_none (by rw [List.length_replicate]; omega)]

set_option maxHeartbeats 8000000 in
set_option maxRecDepth 100000 in
theorem read_ok (W : World) (S : Nat → Prop) (p N : Nat) (m : Nat → Int) (pa n : Nat) (h : PM W S p N m) (hp : pa + n ≤ N * 4096) :
    Calls Try.prog 7 #[.pointer (some ⟨p, 0, none⟩), .int .u64 pa, .int .i64 n] W fun e W' => e = .returned (.tuple #[.slice (some ⟨W.heap.size, 0, none⟩) n n, .int .i64 0]) ∧ RowAt W' W.heap.size 5 (encB (rd m pa n)) ∧ Turn (fun _ => False) W W' := by
  obtain ⟨mb, D, g, h⟩ := h
  have hc0 := h.cell0
  have hN := h.n2
  have hh := has_any W p N n pa hc0 hN (by omega) (by omega) (by omega)
  rw [decide_eq_true (by omega)] at hh
  have hpn : (pa : Int) + n ≤ (N : Int) * 4096 := by omega
  have hmk := make8 W n (by omega)
  have hpl := h.lt
  have HH : Hid (PMx W S p N m mb D g) := h
  clear h
  obtain ⟨i0, hi, hz0, hz1, hz2⟩ := info_parts info8
  go_enter Try.func7, Try.ntmps7
  go_wp2_with (first
    | (go_at_call 26; refine hh.mono ?_; rintro e w1 ⟨rfl, rfl⟩)
    | go_in)
  have HI : Hid (Try.prog.info? 5 = some i0 ∧ i0.size = 1) := ⟨hi, hz1⟩
  clear hmk hh hi hz0 hz1 hz2
  go_loopw [9] (fun i wr => ∃ k : Nat, k ≤ n ∧ i = .int .i64 k ∧ Hid (RowAt wr W.heap.size 5 (encB (rd m pa k) ++ List.replicate (n - k) (.int .u8 0))) ∧ Hid (Turn (fun _ => False) W wr)) (fun i _ => n - (intOf i).toNat)
  case atStart => exact ⟨0, Nat.zero_le _, rfl, row_new _ _ _, (Turn.refl _ _).alloc _⟩
  case round =>
    obtain ⟨k, hk, rfl, HR, HT⟩ := hrel
    by_cases hlt : k < n
    · obtain ⟨t, ht1, ht2⟩ : ∃ t : Nat, t = min (n - k) (4096 - (pa + k) % 4096) ∧ 0 < t := ⟨_, rfl, by omega⟩
      have hmx : PMx wr S p N m mb D g := HH.out.keep HT.out (fun _ _ h => h)
      have hc1 := hmx.cell1
      have hsp : Calls Try.prog 27 #[.int .u64 ((pa : Int) + (k : Int))] wr fun e W' => e = .returned (.tuple #[.int .i64 (((pa + k) / 4096 : Nat) : Int), .int .i64 (((pa + k) % 4096 : Nat) : Int)]) ∧ wr = W' := by
        have := split_any wr (pa + k) (by omega)
        rwa [Int.natCast_add] at this
      have hqN : (pa + k) / 4096 < N := by omega
      have hnk : (pa + k) / 4096 ≤ 9223372036854775807 := by omega
      have hrt : (pa + k) % 4096 + t ≤ 4096 := by omega
      have hkt : k + t ≤ n := by omega
      have hr4 : (pa + k) % 4096 < 4096 := by omega
      have hqr : (pa + k) / 4096 * 4096 + (pa + k) % 4096 = pa + k := by omega
      have hmin : (if (4096 : Int) - (((pa + k) % 4096 : Nat) : Int) < (n : Int) - (k : Int) then (4096 : Int) - (((pa + k) % 4096 : Nat) : Int) else (n : Int) - (k : Int)) = (t : Int) := by split <;> omega
      generalize (pa + k) / 4096 = q at *
      generalize (pa + k) % 4096 = r at *
      clear ht1
      cases hg : g q with
      | none =>
        have HZ : Hid (rd m (pa + k) t = List.replicate t 0) := rd_zero (fun o ho => by
          have := cnt_fr_zero.1 (hmx.out q hqN hg) (r + o) (by omega)
          rwa [show q * 4096 + (r + o) = pa + k + o by omega] at this)
        have hown := hmx.own
        have hview := hmx.view
        go_wp2_with (first
          | (at_lookup; refine wpl_look_none _ rfl _ _ rfl mb N D g q rfl hown hview hg hnk rfl ?_)
          | (go_at_call 27; refine hsp.mono ?_; rintro e w1 ⟨rfl, rfl⟩)
          | go_in)
        go_roundw
        case rel =>
          refine ⟨k + t, hkt, by go_num, ?_, HT⟩
          show RowAt _ _ _ _
          have e : encB (rd m pa (k + t)) ++ List.replicate (n - (k + t)) (Value.int .u8 0) = encB (rd m pa k) ++ List.replicate (n - k) (Value.int .u8 0) := by
            rw [rd_append, HZ.out]
            simp only [encB, List.map_append, List.map_replicate, List.append_assoc]
            rw [List.replicate_append_replicate, show t + (n - (k + t)) = n - k by omega]
          rw [e]
          exact HR.out
        case measure => simp [intOf]; omega
      | some fb =>
        obtain ⟨f1, f2, f3⟩ := hmx.frm q fb hg
        have hfbl := hmx.low fb f3
        have hfbW : fb < W.heap.size := HH.out.low fb (HH.out.frm q fb hg).2.2
        have hcl : (encB (rd m (pa + k) t)).length = t := by rw [encB_len, rd_len]
        have hrd : RowAt wr.drew W.heap.size 5 (encB (rd m pa k) ++ List.replicate (n - k) (Value.int .u8 0)) := HR.out
        obtain ⟨w2, hr2, hrow2, hgr2⟩ := copy_row (P := Try.prog) wr.drew 33 33 5 i0 Try.underlying33 HI.out.1 W.heap.size k (n - k) ⟨fb, r, none⟩ t (encB (rd m pa k) ++ List.replicate (n - k) (Value.int .u8 0)) 5 (encB (rd m (pa + k) t)) hrd
          (by rw [hcl, HI.out.2, Nat.mul_one]; exact (Nat.min_eq_left (by omega)).symm)
          (fun j v hj => by
            have hjt : j < t := by have := (List.getElem?_eq_some_iff.1 hj).1; omega
            rw [Addr.add_lit]
            show wr.cell? _ = _
            rw [f1.cell, encF_eq, encC_at (v := m (pa + k + j)) _ _ (by rw [fr_at _ _ (by omega)]; congr 2; omega)]
            rw [encB_at (rd_at m (pa + k) t hjt)] at hj
            exact hj) (by rw [hcl, List.length_append, encB_len, rd_len, List.length_replicate]; omega) (encB_one _)
        rw [show Nat.min t (n - k) = t from Nat.min_eq_left (by omega)] at hr2
        have HR2 : Hid (RowAt w2 W.heap.size 5 (encB (rd m pa (k + t)) ++ List.replicate (n - (k + t)) (.int .u8 0))) := by
          show RowAt _ _ _ _
          have e : encB (rd m pa (k + t)) ++ List.replicate (n - (k + t)) (Value.int .u8 0) = (encB (rd m pa k) ++ List.replicate (n - k) (Value.int .u8 0)).take k ++ encB (rd m (pa + k) t) ++ (encB (rd m pa k) ++ List.replicate (n - k) (Value.int .u8 0)).drop (k + (encB (rd m (pa + k) t)).length) := by
            rw [hcl, rd_append, List.take_append_of_le_length (by rw [encB_len, rd_len]; exact Nat.le_refl _), List.take_of_length_le (by rw [encB_len, rd_len]; exact Nat.le_refl _)]
            rw [List.drop_append, encB_len, rd_len, List.drop_eq_nil_of_le (by rw [encB_len, rd_len]; omega), List.nil_append, List.drop_replicate, show k + t - k = t by omega, show n - k - t = n - (k + t) by omega]
            simp only [encB, List.map_append, List.append_assoc]
          rw [e]
          exact hrow2
        have HT2 : Hid (Turn (fun _ => False) W w2) := (HT.out.drewN 1).trans (S' := fun x => x = W.heap.size) (Turn.grown hgr2 (fun k hk => by cases hk; exact .inl rfl)) (fun x hx => .inr (by omega))
        have hsl : (Instr.sliceAt 72 (Value.pointer (some ⟨fb, 0, none⟩)) (some (Value.int .i64 (r : Int))) (some (Value.int .i64 ((r : Int) + (t : Int)))) none).run Try.prog wr.drew = .ok (.slice (some ⟨fb, r, none⟩) t (4096 - r)) wr.drew := by
          have := sliceF wr.drew fb r ((r : Int) + (t : Int)) (by omega) (by omega) (by omega)
          rwa [show ((r : Int) + (t : Int)).toNat - r = t by omega] at this
        have hnk0 : ¬ n = k := by omega
        have hwr : IntKind.i64.wrap ((r : Int) + (t : Int)) = (r : Int) + (t : Int) := by rw [IntKind.wrap_i64]; omega
        have hown := hmx.own
        have hview := hmx.view
        clear hrow2 hgr2 f1 hmx hrd
        go_wp2_with (first
          | (at_lookup; refine wpl_look_some _ rfl _ _ rfl mb N D g q fb rfl hown hview hg hnk rfl ?_)
          | (go_at_call 27; refine hsp.mono ?_; rintro e w1 ⟨rfl, rfl⟩)
          | go_in)
        go_region_law (refine step_copy rfl _ _ 33 33 rfl _ _ (by simp [Act.eval]) (by simp [Act.eval]) (hr2 _ _ _) ?_)
        go_wp2
        go_roundw
        case rel => exact ⟨k + t, hkt, by go_num, HR2, HT2⟩
        case measure => simp [intOf]; omega
    · go_wp2
      go_ret2
      have hkn : k = n := by omega
      subst hkn
      have hr := HR.out
      rw [Nat.sub_self, List.replicate_zero, List.append_nil] at hr
      exact ⟨rfl, hr, HT.out⟩
end Go.Proofs.Ytlfgnbjioofplab

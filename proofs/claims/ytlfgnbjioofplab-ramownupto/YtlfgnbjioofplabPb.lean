import Derived.Test.YtlfgnbjioofplabPa
namespace Go.Proofs.Ytlfgnbjioofplab
open Go.RowKit
set_option linter.unusedVariables false

theorem law_int : Maps.Keyed Try.prog 3 := Maps.int_keyed Try.underlying3
theorem zeroPf (w : World) : (zeroValue 67).run Try.prog w = .ok (.pointer none) w := by kernel_rfl
theorem key_lk (k : Nat) (h : k ≤ 9223372036854775807) : keyOf Try.prog 3 (Value.int .i64 (k : Int)) = some (lk k) := Maps.keyOf_int_mk Try.underlying3 (WalkArith.wf_i64 (by omega))
def zL : List Value := List.replicate 4096 (Value.int .u8 0) ++ [.int .i64 0]
def zF : Array Value := ⟨zL⟩
theorem zeroF (w : World) : (zeroValue 74).run Try.prog w = .ok (.agg zF) w := by kernel_rfl

theorem wpl_look_some (w : World) {ops : Array Oper} {rest : List Oper} {o : Oper} {a : Act} {Q : Exit → Act → World → Prop} (hg : o.guard = none) (x y : Operand) (hop : o.op = Op.lookup 69 x y true)
    (mb N : Nat) (D : DataW Unit) (g : Nat → Option Nat) (k fb : Nat) (hm : a.eval x = .map (some mb)) (hown : w.ownsMap Try.prog 3 Rf mb N D) (hv : View N D g) (hgk : g k = some fb) (hk : k ≤ 9223372036854775807) (hx : a.eval y = .int .i64 (k : Int))
    (hK : wpList Try.prog ops Q rest (a.put o.dst (.tuple #[.pointer (some ⟨fb, 0, none⟩), .bool true])) w) : wpList Try.prog ops Q (o :: rest) a w := by
  refine wpList_lookup_own_ok w hg x y _ hop _ _ law_int Try.underlying69 Rf (zeroPf w) .nil [] Rf_none mb N D hm hown _ _ hx (key_lk k hk) (fun v ps hv' => ?_)
  rw [(hv.2.1 k fb hgk).2] at hv'
  obtain rfl := Rf_inv hv'
  rw [hv.1 k, hgk]
  exact hK
theorem wpl_look_none (w : World) {ops : Array Oper} {rest : List Oper} {o : Oper} {a : Act} {Q : Exit → Act → World → Prop} (hg : o.guard = none) (x y : Operand) (hop : o.op = Op.lookup 69 x y true)
    (mb N : Nat) (D : DataW Unit) (g : Nat → Option Nat) (k : Nat) (hm : a.eval x = .map (some mb)) (hown : w.ownsMap Try.prog 3 Rf mb N D) (hv : View N D g) (hgk : g k = none) (hk : k ≤ 9223372036854775807) (hx : a.eval y = .int .i64 (k : Int))
    (hK : wpList Try.prog ops Q rest (a.put o.dst (.tuple #[.pointer none, .bool false])) w) : wpList Try.prog ops Q (o :: rest) a w := by
  refine wpList_lookup_own_ok w hg x y _ hop _ _ law_int Try.underlying69 Rf (zeroPf w) .nil [] Rf_none mb N D hm hown _ _ hx (key_lk k hk) (fun v ps hv' => ?_)
  have hh : Maps.has D (lk k) = false := by rw [hv.1 k, hgk]; rfl
  rw [Maps.atKey_of_not_has hh] at hv'
  obtain rfl := Rf_inv_nil hv'
  rw [hh]
  exact hK

theorem Turn.map {a b : World} {mb : Nat} (h : a.mapTurned b mb) : Turn (· = mb) a b := Turn.grown h.grown (fun k hk => by cases hk; exact .inl rfl)
theorem ownsMap_turn {w w' : World} {S : Nat → Prop} {P : Program} {k : TypeId} {R : Value → Option (DataW Unit × List MemPlace)} {b n : Nat} {D : DataW Unit} (h : w.ownsMap P k R b n D) (T : Turn S w w') (hn : ¬ S b) : w'.ownsMap P k R b n D := by
  have hlt := h.lt
  obtain ⟨es, clock, hb, r⟩ := h
  exact ⟨es, clock, by rw [T.block b hlt hn]; exact hb, r⟩
/-- What a call on a memory leaves of it. -/
def gr (S : Nat → Prop) (W W' : World) : Nat → Prop := fun b => S b ∨ (W.heap.size ≤ b ∧ b < W'.heap.size)
theorem gr_low {S : Nat → Prop} {W W' : World} (h : ∀ b, S b → b < W.heap.size) (hs : W.heap.size ≤ W'.heap.size) : ∀ b, gr S W W' b → b < W'.heap.size := fun b hb => by
  rcases hb with h1 | ⟨_, h1⟩
  · exact Nat.lt_of_lt_of_le (h b h1) hs
  · exact h1
theorem PM.gr {W W' : World} {S : Nat → Prop} {p N : Nat} {m : Nat → Int} (h : PM W' S p N m) (hl : ∀ b, S b → b < W.heap.size) (hs : W.heap.size ≤ W'.heap.size) : PM W' (gr S W W') p N m := by
  obtain ⟨mb, D, g, h⟩ := h
  exact ⟨mb, D, g, h.mono (fun b hb => .inl hb) (gr_low hl hs)⟩

/-- A frame that is there has turned. -/
theorem PMx.turned {W W' : World} {S : Nat → Prop} {p N mb : Nat} {m m' : Nat → Int} {D : DataW Unit} {g : Nat → Option Nat} (h : PMx W S p N m mb D g) {n fb : Nat} (hg : g n = some fb) (hm : ∀ k, k ≠ n → fr m' k = fr m k) (hb : Byts m')
    (T : Turn (· = fb) W W') (hr : RowAt W' fb 74 (encF (fr m' n))) (hc : cnt (fr m' n) ≠ 0) : PMx W' S p N m' mb D g := by
  have hn := (h.view.2.1 n fb hg).1
  have hne := h.fne hg
  refine h.build n hn hm hb (fun _ h => h) (fun b hb => Nat.lt_of_lt_of_le (h.low b hb) T.size) (T.block p h.lt (fun e => hne.1 e.symm)) (ownsMap_turn h.own T (fun e => hne.2 e.symm)) h.view (fun _ _ => rfl) ?_ ?_ ?_
  · intro k fb' hk hgk
    exact T.block fb' (h.low _ (h.frm k fb' hgk).2.2) (fun e => hk (h.inj k n fb (e ▸ hgk) hg))
  · intro fb' hg'
    rw [hg] at hg'
    cases hg'
    exact ⟨hr, hc, (h.frm n fb hg).2.2, fun k hk hgk => hk (h.inj k n fb hgk hg)⟩
  · intro e
    rw [hg] at e
    cases e
/-- A frame that was there is gone. -/
theorem PMx.gone {W W' : World} {S : Nat → Prop} {p N mb : Nat} {m m' : Nat → Int} {D : DataW Unit} {g : Nat → Option Nat} (h : PMx W S p N m mb D g) {n : Nat} (hn : n < N) (hm : ∀ k, k ≠ n → fr m' k = fr m k) (hb : Byts m')
    (T : Turn (fun b => b = mb ∨ g n = some b) W W') (ho : W'.ownsMap Try.prog 3 Rf mb N (D.del (lk n))) (hc : cnt (fr m' n) = 0) : PMx W' S p N m' mb (D.del (lk n)) (setG g n none) := by
  refine h.build n hn hm hb (fun _ h => h) (fun b hb => Nat.lt_of_lt_of_le (h.low b hb) T.size) (T.block p h.lt ?_) ho (h.view.del n) (fun k hk => by simp [setG, hk]) ?_ ?_ (fun _ => hc)
  · rintro (e | e)
    · exact h.mne e.symm
    · exact (h.fne e).1 rfl
  · intro k fb' hk hgk
    refine T.block fb' (h.low _ (h.frm k fb' hgk).2.2) ?_
    rintro (e | e)
    · exact (h.fne hgk).2 e
    · exact hk (h.inj k n fb' hgk e)
  · intro fb' hg'
    simp [setG] at hg'
/-- A new frame. -/
theorem PMx.come {W W' : World} {S : Nat → Prop} {p N mb : Nat} {m m' : Nat → Int} {D : DataW Unit} {g : Nat → Option Nat} (h : PMx W S p N m mb D g) {n : Nat} (hn : n < N) (hm : ∀ k, k ≠ n → fr m' k = fr m k) (hb : Byts m') (fb : Nat) (hfb : W.heap.size ≤ fb)
    (T : Turn (fun b => b = mb) W W') (ho : W'.ownsMap Try.prog 3 Rf mb N (D.put (lk n) (.lit (.int .i64 fb)))) (hr : RowAt W' fb 74 (encF (fr m' n))) (hc : cnt (fr m' n) ≠ 0) : PMx W' (gr S W W') p N m' mb (D.put (lk n) (.lit (.int .i64 fb))) (setG g n (some fb)) := by
  refine h.build n hn hm hb (fun _ h => .inl h) (gr_low h.low T.size) (T.block p h.lt (fun e => h.mne e.symm)) ho (h.view.put h.own.isMap n fb hn) (fun k hk => by simp [setG, hk]) ?_ ?_ ?_
  · intro k fb' hk hgk
    exact T.block fb' (h.low _ (h.frm k fb' hgk).2.2) (fun e => (h.fne hgk).2 e)
  · intro fb' hg'
    simp [setG] at hg'
    subst hg'
    refine ⟨hr, hc, .inr ⟨hfb, hr.lt⟩, fun k hk hgk => ?_⟩
    have := h.low _ (h.frm k fb hgk).2.2
    omega
  · intro e
    simp [setG] at e
theorem zF_eq : zF = (encC (List.replicate 4096 0) ((0 : Nat) : Int)).toArray := by
  apply Array.ext'
  rw [List.toList_toArray, encC, List.map_replicate]
  unfold zF zL
  exact Eq.refl _
theorem zF_row (w : World) {m : Nat → Int} {n : Nat} (h : cnt (fr m n) = 0) : RowAt (w.alloc (.cells zF 74)) w.heap.size 74 (encF (fr m n)) := by
  show (w.alloc _).heap[w.heap.size]? = _
  rw [(MapKept.heap_alloc w _).1, encF_eq, h, fr_of_zero h, zF_eq]

set_option maxHeartbeats 4000000 in
set_option maxRecDepth 100000 in
theorem put_some (W : World) (S : Nat → Prop) (p N : Nat) (m : Nat → Int) (n at_ : Nat) (a : Option Addr) (cap : Nat) (bs : List Int) (mb : Nat) (D : DataW Unit) (g : Nat → Option Nat) (h : PMx W S p N m mb D g) (hn : n < N)
    (hb : ∀ i b, bs[i]? = some b → ∃ g o, a = some ⟨g, o, none⟩ ∧ ¬ S g ∧ g < W.heap.size ∧ W.cell? ⟨g, o + i, none⟩ = some (.int .u8 b)) (hl : at_ + bs.length ≤ 4096) (hbb : ∀ v ∈ bs, 0 ≤ v ∧ v < 256) (fb : Nat) (hgn : g n = some fb) :
    Calls Try.prog 42 #[.pointer (some ⟨p, 0, none⟩), .int .i64 n, .int .i64 at_, .slice a bs.length cap] W fun e W' => e = .returned (.tuple #[]) ∧ PM W' (gr S W W') p N (wrs m (n * 4096 + at_) bs) ∧ Turn S W W' := by
  have hc1 := h.cell1
  have hbyt : Byts (wrs m (n * 4096 + at_) bs) := wrs_byts h.byts _ hbb
  have hoth : ∀ k, k ≠ n → fr (wrs m (n * 4096 + at_) bs) k = fr m k := fun k hk => fr_wrs_other m n k (n * 4096 + at_) bs (by omega) (by omega) hk
  have hN := h.n2
  have hnk : n ≤ 9223372036854775807 := by omega
  obtain ⟨f1, f2, f3⟩ := h.frm n fb hgn
  have hne := h.fne hgn
  have hfs := fset_any W fb at_ n m a cap bs f1 (fun i b hi => by
    obtain ⟨gb, o, r1, r2, r3, r4⟩ := hb i b hi
    exact ⟨gb, o, r1, fun e => r2 (e ▸ f3), r3, r4⟩) hl
  generalize hm' : wrs m (n * 4096 + at_) bs = m' at *
  clear hm' hb
  by_cases c0 : cnt (fr m' n) = 0
  · go_enter Try.func42, Try.ntmps42
    go_wp2_with (first
      | (at_lookup; refine wpl_look_some _ rfl _ _ rfl mb N D g n fb rfl h.own h.view hgn hnk rfl ?_)
      | (go_at_call 50; refine hfs.mono ?_; rintro e w1 ⟨rfl, hr1, ht1⟩; have q1 : w1.cell? ⟨fb, 4096, none⟩ = some (.int .i64 0) := (by rw [hr1.cell, encF_eq, c0]; exact encC_last _ _ _ (fr_len _ _)); have q2 : w1.cell? ⟨p, 1, none⟩ = some (.map (some mb)) := (by rw [ht1.cell h.lt (fun e => hne.1 e.symm)]; exact hc1))
      | (at_delete; refine wpList_delete_own _ rfl _ _ 69 3 rfl 67 law_int Try.underlying69 Rf mb N D rfl (ownsMap_turn h.own ht1 (fun e => hne.2 e.symm)) _ _ rfl (key_lk n hnk) ?_; intro w2 hown2 hturn2)
      | go_in)
    have T2 : Turn (fun b => b = mb ∨ g n = some b) W w2 := (ht1.mono (fun x _ hx => by rw [hx]; exact .inr hgn)).trans (Turn.map hturn2) (fun x hx => .inl (.inl hx))
    have T3 : Turn S W w2 := T2.mono (fun x _ hx => by
      rcases hx with rfl | hx
      · exact h.Sm
      · rw [hgn] at hx; cases hx; exact f3)
    exact bodyPost_end (results_none Try.results42 _ _ _) rfl ⟨rfl, PM.gr ⟨_, _, _, h.gone hn hoth hbyt T2 hown2 c0⟩ h.low T2.size, T3⟩
  · go_enter Try.func42, Try.ntmps42
    go_wp2_with (first
      | (at_lookup; refine wpl_look_some _ rfl _ _ rfl mb N D g n fb rfl h.own h.view hgn hnk rfl ?_)
      | (go_at_call 50; refine hfs.mono ?_; rintro e w1 ⟨rfl, hr1, ht1⟩; have q1 : w1.cell? ⟨fb, 4096, none⟩ = some (.int .i64 (cnt (fr m' n))) := (by rw [hr1.cell, encF_eq]; exact encC_last _ _ _ (fr_len _ _)))
      | go_in)
    exact bodyPost_end (results_none Try.results42 _ _ _) rfl ⟨rfl, PM.gr ⟨_, _, _, h.turned hgn hoth hbyt ht1 hr1 c0⟩ h.low ht1.size, ht1.mono (fun x _ hx => by rw [hx]; exact f3)⟩

theorem wrs_zero {m : Nat → Int} {n at_ : Nat} {bs : List Int} (h : cnt (fr m n) = 0) (hz : cnt bs = 0) (hl : at_ + bs.length ≤ 4096) : wrs m (n * 4096 + at_) bs = m := by
  funext x
  unfold wrs
  split
  · rename_i hx
    have h1 := cnt_fr_zero.1 h (x - n * 4096) (by omega)
    rw [show n * 4096 + (x - n * 4096) = x by omega] at h1
    rw [h1]
    have hi : x - (n * 4096 + at_) < bs.length := by omega
    simp only [List.getD, List.getElem?_eq_getElem hi, Option.getD_some]
    exact cnt_zero.1 hz _ (List.getElem_mem hi)
  · rfl

theorem wrs_some {m : Nat → Int} {n at_ : Nat} {bs : List Int} (hz : cnt bs ≠ 0) (hl : at_ + bs.length ≤ 4096) : cnt (fr (wrs m (n * 4096 + at_) bs) n) ≠ 0 := by
  intro e
  apply hz
  rw [cnt_zero]
  intro v hv
  obtain ⟨i, hi⟩ := List.getElem?_of_mem hv
  have hlt := (List.getElem?_eq_some_iff.1 hi).1
  have := cnt_fr_zero.1 e (at_ + i) (by omega)
  unfold wrs at this
  rw [if_pos (by omega), show n * 4096 + (at_ + i) - (n * 4096 + at_) = i by omega, List.getD, hi] at this
  exact this

set_option maxHeartbeats 4000000 in
set_option maxRecDepth 100000 in
theorem put_none (W : World) (S : Nat → Prop) (p N : Nat) (m : Nat → Int) (n at_ : Nat) (a : Option Addr) (cap : Nat) (bs : List Int) (mb : Nat) (D : DataW Unit) (g : Nat → Option Nat) (h : PMx W S p N m mb D g) (hn : n < N)
    (hb : ∀ i b, bs[i]? = some b → ∃ g o, a = some ⟨g, o, none⟩ ∧ ¬ S g ∧ g < W.heap.size ∧ W.cell? ⟨g, o + i, none⟩ = some (.int .u8 b)) (hl : at_ + bs.length ≤ 4096) (hbb : ∀ v ∈ bs, 0 ≤ v ∧ v < 256) (hgn : g n = none) :
    Calls Try.prog 42 #[.pointer (some ⟨p, 0, none⟩), .int .i64 n, .int .i64 at_, .slice a bs.length cap] W fun e W' => e = .returned (.tuple #[]) ∧ PM W' (gr S W W') p N (wrs m (n * 4096 + at_) bs) ∧ Turn S W W' := by
  have hc1 := h.cell1
  have hbyt : Byts (wrs m (n * 4096 + at_) bs) := wrs_byts h.byts _ hbb
  have hoth : ∀ k, k ≠ n → fr (wrs m (n * 4096 + at_) bs) k = fr m k := fun k hk => fr_wrs_other m n k (n * 4096 + at_) bs (by omega) (by omega) hk
  have hN := h.n2
  have hnk : n ≤ 9223372036854775807 := by omega
  have hz := h.out n hn hgn
  have haz := allZero_any W a cap bs (fun i b hi => by
    obtain ⟨gb, o, r1, r2, r3, r4⟩ := hb i b hi
    exact ⟨gb, o, r1, r4⟩) (by omega)
  by_cases c1 : cnt bs = 0
  · rw [decide_eq_true c1] at haz
    rw [wrs_zero hz c1 hl]
    go_enter Try.func42, Try.ntmps42
    go_wp2_with (first
      | (at_lookup; refine wpl_look_none _ rfl _ _ rfl mb N D g n rfl h.own h.view hgn hnk rfl ?_)
      | (go_at_call 49; refine haz.mono ?_; rintro e w1 ⟨rfl, rfl⟩)
      | go_in)
    exact bodyPost_ret (results_none Try.results42 _ _ _) rfl ⟨rfl, PM.gr ⟨_, _, _, h⟩ h.low (Nat.le_refl _), Turn.refl _ _⟩
  · rw [decide_eq_false c1] at haz
    have hzf := zeroF
    have hpl := h.lt
    have hml := h.low mb h.Sm
    have hmx := h.mne
    have hdt := h.own.tidy law_int
    have c2 : cnt (fr (wrs m (n * 4096 + at_) bs) n) ≠ 0 := wrs_some c1 hl
    have HX : Hid (∀ w1, Turn (· = mb) W w1 → ∀ i b, bs[i]? = some b → ∃ g o, a = some ⟨g, o, none⟩ ∧ g ≠ W.heap.size ∧ g < w1.heap.size ∧ w1.cell? ⟨g, o + i, none⟩ = some (.int .u8 b)) := by
      intro w1 T i b hi
      obtain ⟨gb, o, r1, r2, r3, r4⟩ := hb i b hi
      exact ⟨gb, o, r1, by omega, Nat.lt_of_lt_of_le r3 T.size, by rw [T.cell r3 (fun e => r2 (e ▸ h.Sm))]; exact r4⟩
    clear hb
    go_enter Try.func42, Try.ntmps42
    go_wp2_with (first
      | (at_lookup; refine wpl_look_none _ rfl _ _ rfl mb N D g n rfl h.own h.view hgn hnk rfl ?_)
      | (go_at_call 49; refine haz.mono ?_; rintro e w1 ⟨rfl, rfl⟩)
      | (at_mapUpdate; refine wpList_mapUpdate_in _ rfl _ _ _ 69 rfl 3 67 law_int Try.underlying69 Rf mb N D rfl (h.own.alloc _) (by unfold maxLen; omega) _ _ _ rfl rfl (key_lk n hnk) _ [] (Rf_some _) ?_; intro w1 hown1 hturn1;
         have T1 : Turn (· = mb) W w1 := ((Turn.refl _ W).alloc _).trans (Turn.map hturn1) (fun x hx => .inl hx);
         have hr0 : RowAt w1 W.heap.size 74 (encF (fr m n)) := (zF_row W hz).turn (Turn.map hturn1) (by show ¬ (W.heap.size = mb); omega);
         have hfs := fset_any w1 W.heap.size at_ n m a cap bs hr0 (HX.out w1 T1) hl)
      | (go_at_call 50; refine hfs.mono ?_; rintro e w2 ⟨rfl, hr2, ht2⟩; have q1 : w2.cell? ⟨W.heap.size, 4096, none⟩ = some (.int .i64 (cnt (fr (wrs m (n * 4096 + at_) bs) n))) := (by rw [hr2.cell, encF_eq]; exact encC_last _ _ _ (fr_len _ _)))
      | go_in)
    have T2 : Turn (· = mb) W w2 := T1.trans ht2 (fun x hx => .inr (by rw [hx]; exact Nat.le_refl _))
    have ho2 := ownsMap_turn (ownsMap_tight hown1 ((h.view.put h.own.isMap n W.heap.size hn).size (hdt.put (lk_key n) _) (own_keys hown1 Try.underlying3))) ht2 (by show ¬ (mb = W.heap.size); omega)
    exact bodyPost_end (results_none Try.results42 _ _ _) rfl ⟨rfl, ⟨_, _, _, h.come hn hoth hbyt W.heap.size (Nat.le_refl _) T2 ho2 hr2 c2⟩, T2.mono (fun x _ hx => by rw [hx]; exact h.Sm)⟩
theorem put_any (W : World) (S : Nat → Prop) (p N : Nat) (m : Nat → Int) (n at_ : Nat) (a : Option Addr) (cap : Nat) (bs : List Int) (h : PM W S p N m) (hn : n < N)
    (hb : ∀ i b, bs[i]? = some b → ∃ g o, a = some ⟨g, o, none⟩ ∧ ¬ S g ∧ g < W.heap.size ∧ W.cell? ⟨g, o + i, none⟩ = some (.int .u8 b)) (hl : at_ + bs.length ≤ 4096) (hbb : ∀ v ∈ bs, 0 ≤ v ∧ v < 256) :
    Calls Try.prog 42 #[.pointer (some ⟨p, 0, none⟩), .int .i64 n, .int .i64 at_, .slice a bs.length cap] W fun e W' => e = .returned (.tuple #[]) ∧ PM W' (gr S W W') p N (wrs m (n * 4096 + at_) bs) ∧ Turn S W W' := by
  obtain ⟨mb, D, g, h⟩ := h
  cases hgn : g n with
  | some fb => exact put_some W S p N m n at_ a cap bs mb D g h hn hb hl hbb fb hgn
  | none => exact put_none W S p N m n at_ a cap bs mb D g h hn hb hl hbb hgn
end Go.Proofs.Ytlfgnbjioofplab

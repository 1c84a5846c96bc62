import Derived.Test.YtplobjdghaokoaaIns
namespace Go.Proofs.Ytplobjdghaokoaa
open Go.RowKit
set_option linter.unusedVariables false

def Cut.any (c : Cut) : Bool := c.b 0 || c.b 1 || c.b 2 || c.b 3
/-- A slab; each cut may be empty. -/
structure PSx (W : World) (S : Nat → Prop) (s p : Nat) (cs : List Cut) (low : Nat) (v : Value) : Prop where
  box : RowAt W s 81 [.pointer (some ⟨p, 0, none⟩), v, .int .i64 low]
  own : W.ownsRow 0 85 5 v cs.length (cs.flatMap Cut.enc)
  vS : ∀ b, v.ownBlock = some b → S b
  Ss : S s
  lowb : ∀ b, S b → b < W.heap.size
  lows : low ≤ cs.length ∧ ∀ (i : Nat) (c : Cut), i < low → cs[i]? = some c → c.left = -1
  srt : Srt cs
  fb : ∀ c ∈ cs, c.f < 268435456
def PS (W : World) (S : Nat → Prop) (s p : Nat) (cs : List Cut) : Prop := (∃ low v, PSx W S s p cs low v) ∧ ∀ c ∈ cs, c.any = true

theorem srt_ge {cs : List Cut} (h : Srt cs) (i : Nat) : ∀ c, cs[i]? = some c → i ≤ c.f := by
  induction i with
  | zero => intro c _; omega
  | succ i ih =>
    intro c hc
    obtain ⟨d, hd⟩ : ∃ d, cs[i]? = some d := ⟨_, List.getElem?_eq_getElem (by have := (List.getElem?_eq_some_iff.1 hc).1; omega)⟩
    have h1 := ih d hd
    have h2 := srt_at h hd hc (by omega)
    omega
theorem srt_len {cs : List Cut} (h : Srt cs) {N : Nat} (hb : ∀ c ∈ cs, c.f < N) : cs.length ≤ N := by
  rcases Nat.eq_zero_or_pos cs.length with h0 | h0
  · omega
  · obtain ⟨d, hd⟩ : ∃ d, cs[cs.length - 1]? = some d := ⟨_, List.getElem?_eq_getElem (by omega)⟩
    have h1 := srt_ge h _ d hd
    have h2 := hb d (List.mem_of_getElem? hd)
    omega
section
variable {W W' : World} {S S' : Nat → Prop} {s p low : Nat} {cs : List Cut} {v : Value}
theorem PSx.sne (h : PSx W S s p cs low v) (b : Nat) (hb : v.ownBlock = some b) : b ≠ s := by
  rcases row_of_own h.own with ⟨rfl, _, _⟩ | ⟨g, cap, cur, rfl, _, hr, _⟩
  · cases hb
  · cases hb
    exact hr.ne h.box (by decide)
theorem PSx.len (h : PSx W S s p cs low v) : cs.length ≤ 268435456 := srt_len h.srt h.fb
theorem PSx.c0 (h : PSx W S s p cs low v) : W.cell? ⟨s, 0, none⟩ = some (.pointer (some ⟨p, 0, none⟩)) := by rw [h.box.cell]; rfl
theorem PSx.c1 (h : PSx W S s p cs low v) : W.cell? ⟨s, 1, none⟩ = some v := by rw [h.box.cell]; rfl
theorem PSx.c2 (h : PSx W S s p cs low v) : W.cell? ⟨s, 2, none⟩ = some (.int .i64 low) := by rw [h.box.cell]; rfl
theorem PSx.keep (h : PSx W S s p cs low v) (T : Turn S' W W') (hd : ∀ b, S b → ¬ S' b) : PSx W' S s p cs low v :=
  ⟨h.box.turn T (hd s h.Ss), own_turn h.own T (fun b hb => hd b (h.vS b hb)), h.vS, h.Ss, fun b hb => Nat.lt_of_lt_of_le (h.lowb b hb) T.size, h.lows, h.srt, h.fb⟩
theorem PSx.mono (h : PSx W S s p cs low v) (hS : ∀ b, S b → S' b) (hl : ∀ b, S' b → b < W.heap.size) : PSx W S' s p cs low v :=
  ⟨h.box, h.own, fun b hb => hS b (h.vS b hb), hS s h.Ss, hl, h.lows, h.srt, h.fb⟩
theorem PSx.drewN (h : PSx W S s p cs low v) (q : Nat) : PSx (W.drewN q) S s p cs low v := h.keep ((Turn.refl (fun _ => False) W).drewN q) (fun _ _ h => h)
theorem PSx.view (h : PSx W S s p cs low v) : ∃ a cap, v = .slice a cs.length cap ∧ CutsAt W a cs ∧ ∀ g, a = some ⟨g, 0, none⟩ → S g := by
  have ho := h.own
  rcases row_of_own ho with ⟨rfl, h1, h2⟩ | ⟨gb, cap, cur, rfl, a, b, c, d, e, f⟩
  · refine ⟨none, 0, by rw [h1], fun i x hx => ?_, fun g hg => by cases hg⟩
    rw [List.eq_nil_of_length_eq_zero h1] at hx
    simp at hx
  · refine ⟨some ⟨gb, 0, none⟩, cap, rfl, fun i x hx => ⟨gb, rfl, b.lt, fun j hj => ?_⟩, fun g hg => by cases hg; exact h.vS gb rfl⟩
    have hlt : i < cs.length := (List.getElem?_eq_some_iff.1 hx).1
    rw [World.ownsRow.cellAt ho (i * 5 + j) (by omega)]
    exact cat_at Cut.enc 5 Cut.enc_len hx j hj
theorem PS.keep (h : PS W S s p cs) (T : Turn S' W W') (hd : ∀ b, S b → ¬ S' b) : PS W' S s p cs := by
  obtain ⟨⟨low, v, h⟩, ha⟩ := h
  exact ⟨⟨low, v, h.keep T hd⟩, ha⟩
theorem PS.mono (h : PS W S s p cs) (hS : ∀ b, S b → S' b) (hl : ∀ b, S' b → b < W.heap.size) : PS W S' s p cs := by
  obtain ⟨⟨low, v, h⟩, ha⟩ := h
  exact ⟨⟨low, v, h.mono hS hl⟩, ha⟩
theorem PS.lowb (h : PS W S s p cs) : ∀ b, S b → b < W.heap.size := by obtain ⟨⟨low, v, h⟩, ha⟩ := h; exact h.lowb
theorem PS.Ss (h : PS W S s p cs) : S s := by obtain ⟨⟨low, v, h⟩, ha⟩ := h; exact h.Ss
theorem PS.srt (h : PS W S s p cs) : Srt cs := by obtain ⟨⟨low, v, h⟩, ha⟩ := h; exact h.srt
theorem PS.fb (h : PS W S s p cs) : ∀ c ∈ cs, c.f < 268435456 := by obtain ⟨⟨low, v, h⟩, ha⟩ := h; exact h.fb
theorem PS.len (h : PS W S s p cs) : cs.length ≤ 268435456 := by obtain ⟨⟨low, v, h⟩, ha⟩ := h; exact h.len
end

set_option maxHeartbeats 4000000 in
theorem find_any (W : World) (S : Nat → Prop) (s p low : Nat) (cs : List Cut) (v : Value) (f : Nat) (h : PSx W S s p cs low v) :
    Calls Try.prog 47 #[.pointer (some ⟨s, 0, none⟩), .int .i64 f] W fun e W' => ∃ (k : Nat) (b : Bool), e = .returned (.tuple #[.int .i64 k, .bool b]) ∧ PosOf cs f k ∧ (b = true ↔ ∃ c, cs[k]? = some c ∧ c.f = f) ∧ Turn (fun _ => False) W W' := by
  obtain ⟨a, cap, rfl, hc, hS⟩ := h.view
  have c1 := h.c1
  have hb := bin_any W a cap cs f hc h.srt h.len
  clear hc hS h
  go_enter Try.func47, Try.ntmps47
  go_wp2_with (go_at_call 54; refine hb.mono ?_; rintro e w' ⟨k, b, rfl, h1, h2, h3⟩; have HH : Hid (PosOf cs f k ∧ (b = true ↔ ∃ c, cs[k]? = some c ∧ c.f = f) ∧ Turn (fun _ => False) W w') := ⟨h1, h2, h3⟩; clear h1 h2 h3)
  go_ret2
  exact ⟨k, b, rfl, HH.out⟩

/-- The frames of a slab are in use. -/
def Used (f0 : Nat) (u : List Nat) (cs : List Cut) : Prop := ∀ c ∈ cs, f0 ≤ c.f ∧ ∃ x, u[c.f - f0]? = some x ∧ x ≠ 0
theorem tk_free {f0 : Nat} {u : List Nat} {t : Nat} (h : tk f0 u 1 1 = some t) : u[t]? = some 0 ∧ t < u.length := by
  have := (tk_some.1 h).1
  exact ⟨by simpa using this.2.2 0 (by omega), by have := this.2.1; omega⟩
theorem used_new {f0 : Nat} {u : List Nat} {cs : List Cut} {t : Nat} (h : Used f0 u cs) (ht : tk f0 u 1 1 = some t) : ∀ c ∈ cs, c.f ≠ f0 + t := by
  intro c hc e
  obtain ⟨h1, x, h2, h3⟩ := h c hc
  have := (tk_free ht).1
  rw [e, show f0 + t - f0 = t by omega, this] at h2
  cases h2
  exact h3 rfl
theorem takeR_one (f0 : Nat) (u : List Nat) : takeR f0 u 1 1 = match tk f0 u 1 1 with | none => (0, 42, u) | some t => (((f0 + t : Nat) : Int), 0, mdr (fun _ => 1) u t 1) := by
  unfold takeR
  rw [if_neg (by simp; decide)]
  rfl
theorem srt_insert {cs : List Cut} {f k : Nat} (h : Srt cs) (hp : PosOf cs f k) (hne : ∀ c ∈ cs, c.f ≠ f) (b : Nat → Bool) : Srt (cs.take k ++ [⟨f, b⟩] ++ cs.drop k) := by
  unfold Srt at h ⊢
  rw [List.append_assoc, List.pairwise_append]
  refine ⟨h.sublist (List.take_sublist _ _), ?_, ?_⟩
  · rw [List.singleton_append, List.pairwise_cons]
    refine ⟨fun a ha => ?_, h.sublist (List.drop_sublist _ _)⟩
    obtain ⟨i, hi⟩ := List.mem_iff_getElem?.1 ha
    rw [List.getElem?_drop] at hi
    have h1 := hp.2.2 (k + i) a (by omega) hi
    have h2 := hne a (List.mem_of_getElem? hi)
    show f < a.f
    omega
  · intro a ha b' hb
    obtain ⟨i, hi⟩ := List.mem_iff_getElem?.1 ha
    rw [List.getElem?_take] at hi
    split at hi
    · rename_i hik
      have h1 := hp.2.1 i a hik hi
      rw [List.singleton_append] at hb
      rcases List.mem_cons.1 hb with rfl | hb
      · exact h1
      · obtain ⟨j, hj⟩ := List.mem_iff_getElem?.1 hb
        rw [List.getElem?_drop] at hj
        have h2 := hp.2.2 (k + j) b' (by omega) hj
        omega
    · cases hi
end Go.Proofs.Ytplobjdghaokoaa

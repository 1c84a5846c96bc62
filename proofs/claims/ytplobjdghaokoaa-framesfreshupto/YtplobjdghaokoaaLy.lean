import Derived.Test.YtplobjdghaokoaaLx
namespace Go.Proofs.Ytplobjdghaokoaa
open Go.RowKit
set_option linter.unusedVariables false

structure Op4 where
  kind : Int
  first : Int
  n : Int
  align : Int
  which : Int
def i64 (x : Int) : Prop := -9223372036854775808 ≤ x ∧ x ≤ 9223372036854775807
def Op4.ok (o : Op4) : Prop := i64 o.kind ∧ i64 o.first ∧ i64 o.n ∧ i64 o.align ∧ i64 o.which
def Op4.val (o : Op4) : Value := .agg #[.int .i64 o.kind, .int .i64 o.first, .int .i64 o.n, .int .i64 o.align, .int .i64 o.which]
def poolR (f0 : Nat) (u : List Nat) (o : Op4) : Int × Int × List Nat :=
  if o.kind = 1 then takeR f0 u o.n o.align else if o.kind = 2 then (0, (shareR f0 u o.first o.n).1, (shareR f0 u o.first o.n).2) else if o.kind = 3 then dropR f0 u o.first o.n else (0, 0, u)
theorem poolR_len (f0 : Nat) (u : List Nat) (o : Op4) : (poolR f0 u o).2.2.length = u.length := by
  unfold poolR
  split
  · exact takeR_len _ _ _ _
  · split
    · exact shareR_len _ _ _ _
    · split
      · exact dropR_len _ _ _ _
      · rfl
set_option maxHeartbeats 4000000 in
theorem pooled_any (W : World) (p ub f0 : Nat) (u : List Nat) (o : Op4) (hP : PP W p ub f0 u) (ho : o.ok) :
    Calls Try.prog 11 #[.pointer (some ⟨p, 0, none⟩), o.val] W fun e W' => e = .returned (.tuple #[.int .i64 (poolR f0 u o).1, .int .i64 (poolR f0 u o).2.1]) ∧ PP W' p ub f0 (poolR f0 u o).2.2 ∧ Turn (Two p ub) W W' := by
  obtain ⟨kind, first, n, align, which⟩ := o
  obtain ⟨⟨_, _⟩, ⟨o1, o2⟩, ⟨o3, o4⟩, _, _⟩ := ho
  have T0 : ∀ ob : Obj, Turn (Two p ub) W (W.alloc ob) := fun ob => (Turn.refl _ W).alloc ob
  have hP0 : ∀ ob : Obj, PP (W.alloc ob) p ub f0 u := fun ob => hP.keep ((Turn.refl (fun _ => False) W).alloc ob) (fun h => h) (fun h => h)
  unfold poolR
  show Calls Try.prog 11 #[.pointer (some ⟨p, 0, none⟩), .agg #[.int .i64 kind, .int .i64 first, .int .i64 n, .int .i64 align, .int .i64 which]] W _
  simp only at o1 o2 o3 o4 ⊢
  have HP : Hid (PP W p ub f0 u) := hP
  clear hP
  by_cases k1 : kind = 1
  · subst k1
    rw [if_pos rfl]
    have hc := fun ob => take_any (W.alloc ob) p ub f0 u n align (hP0 ob) o4
    generalize takeR f0 u n align = R at *
    obtain ⟨r1, r2, r3⟩ := R
    clear hP0 HP
    go_enter Try.func11, Try.ntmps11
    go_wp2_with (first
      | (go_at_call 14; refine (hc _).mono ?_; clear hc; rintro e w1 ⟨rfl, hp1, ht1⟩; have HH : Hid (PP w1 p ub f0 r3 ∧ Turn (Two p ub) W w1) := ⟨hp1, (T0 _).trans ht1 (fun _ h => .inl h)⟩; clear hp1 ht1)
      | go_in)
    go_ret2
    exact ⟨rfl, HH.out⟩
  · rw [if_neg k1]
    by_cases k2 : kind = 2
    · subst k2
      rw [if_pos rfl]
      have hc := fun ob => share_any (W.alloc ob) p ub f0 u first n (hP0 ob) o1 o2
      generalize shareR f0 u first n = R at *
      obtain ⟨r2, r3⟩ := R
      clear hP0 HP
      go_enter Try.func11, Try.ntmps11
      go_wp2_with (first
        | (go_at_call 34; refine (hc _).mono ?_; clear hc; rintro e w1 ⟨rfl, hp1, ht1⟩; have HH : Hid (PP w1 p ub f0 r3 ∧ Turn (Two p ub) W w1) := ⟨hp1, (T0 _).trans ht1 (fun _ h => .inl h)⟩; clear hp1 ht1)
        | go_in)
      go_ret2
      exact ⟨rfl, HH.out⟩
    · rw [if_neg k2]
      by_cases k3 : kind = 3
      · subst k3
        rw [if_pos rfl]
        have hc := fun ob => drop_any (W.alloc ob) p ub f0 u first n (hP0 ob) o1 o2
        generalize dropR f0 u first n = R at *
        obtain ⟨r1, r2, r3⟩ := R
        clear hP0 HP
        go_enter Try.func11, Try.ntmps11
        go_wp2_with (first
          | (go_at_call 20; refine (hc _).mono ?_; clear hc; rintro e w1 ⟨rfl, hp1, ht1⟩; have HH : Hid (PP w1 p ub f0 r3 ∧ Turn (Two p ub) W w1) := ⟨hp1, (T0 _).trans ht1 (fun _ h => .inl h)⟩; clear hp1 ht1)
          | go_in)
        go_ret2
        exact ⟨rfl, HH.out⟩
      · rw [if_neg k3]
        have HH : Hid (∀ ob, PP (W.alloc ob) p ub f0 u ∧ Turn (Two p ub) W (W.alloc ob)) := fun ob => ⟨hP0 ob, T0 ob⟩
        clear hP0 HP T0
        go_enter Try.func11, Try.ntmps11
        go_wp2
        go_ret2
        exact ⟨rfl, HH.out _⟩
end Go.Proofs.Ytplobjdghaokoaa

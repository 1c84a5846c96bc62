import Derived.Test.YtnjlajjjcmhfgaaGreatDoorQA40
import Derived.Test.YtnjlajjjcmhfgaaGreatDoorQA41
namespace Go.Proofs.YtnjlajjjcmhfgaaGreatDoor
open Go.RowKit
open Mm (Turn gr RM valV errV Byts setV RowAt)
set_option linter.unusedVariables false
set_option linter.unusedSimpArgs false
/-- Lists that fit into memory. -/
def Sml (σ : Pst) : Prop := ∃ s u, Cnt σ s u ∧ s * 1048576 * 56 ≤ 140737488355328 ∧ (256 * u + s * 1048576) * 64 ≤ 140737488355328
theorem Sml.known {σ : Pst} (h : Sml σ) : σ.K.length * 56 ≤ 140737488355328 := by
  obtain ⟨s, u, h1, h2, h3⟩ := h
  have := h1.len
  omega
theorem Sml.dirty {σ : Pst} (h : Sml σ) : (diL σ.mem.mo σ.K σ.J).length * 64 ≤ 140737488355328 := by
  obtain ⟨s, u, h1, h2, h3⟩ := h
  have := h1.dirts
  omega
theorem Sml.drop {σ : Pst} (h : Sml σ) (d : Dro) : Sml ⟨drK d σ.K, σ.J, σ.mem⟩ := by
  obtain ⟨s, u, h1, h2, h3⟩ := h
  exact ⟨s, u, h1.drop d, h2, h3⟩
theorem Sml.ok {σ : Pst} (h : Sml σ) : TrOk σ.K σ.J := by
  obtain ⟨s, u, h1, _⟩ := h
  exact h1.ok
theorem Sml.mok {σ : Pst} (h : Sml σ) : σ.mem.Ok := by
  obtain ⟨s, u, h1, _⟩ := h
  exact h1.mem
theorem Scn.small {W : World} {vp vw vc : Value} {pas ws : List Int} {cs : List Ctx} (h : Scn W vp vw vc pas ws cs) (f : Int) {ops : List Oq} (ho : ∀ o ∈ ops, o.Ok) (hb : pas.length + 11 * ops.length ≤ 1048576) : Sml ((Pst.first f (pas.zip ws)).run cs ops) := by
  refine ⟨_, _, h.cnt f ho, ?_, ?_⟩
  · omega
  · have : (pas.zip ws).length ≤ pas.length := by rw [List.length_zip]; omega
    omega
theorem LtG.kept {α : Type} {enc : α → List Value} {T : TypeId} {w w' : World} {lo : Nat} {v : Value} {L : List α} (h : LtG enc T w lo v L) (hk : ∀ b, lo ≤ b → b < w.heap.size → w'.heap[b]? = w.heap[b]?) : LtG enc T w' lo v L := by
  obtain ⟨a, cap, e, h⟩ := h
  refine ⟨a, cap, e, h.imp (fun h => h) ?_⟩
  rintro ⟨g, rest, e1, e2, e3⟩
  exact ⟨g, rest, e1, e2, (hk g e2 e3.lt).trans e3⟩
theorem LtG.form {α : Type} {enc : α → List Value} {T : TypeId} {w : World} {lo : Nat} {v : Value} {L : List α} (h : LtG enc T w lo v L) : ∃ a cap, v = .slice a L.length cap := by
  obtain ⟨a, cap, e, _⟩ := h
  exact ⟨a, cap, e⟩
/-! ### dropping, plain -/
theorem diL_drop {M : Mo} {K : List Blo} {J : Jud} (hJ : JOk J) {d : Dro} {x : Dir} (h : x ∈ diL M (drK d K) J) : x ∈ diL M K J := by
  rw [mem_diL hJ] at h ⊢
  exact ⟨(List.mem_filter.1 h.1).1, h.2⟩
theorem drK_len (d : Dro) (K : List Blo) : (drK d K).length + K.countP (tkF d) = K.length := by
  unfold drK
  rw [List.countP_eq_length_filter]
  induction K with
  | nil => rfl
  | cons x K ih =>
    rw [List.filter_cons, List.filter_cons]
    cases h : tkF d x
    · simp only [Bool.not_false, if_true, List.length_cons, if_neg (by decide : ¬ false = true)]
      omega
    · simp only [Bool.not_true, if_neg (by decide : ¬ false = true), if_true, List.length_cons]
      omega
theorem ri_va {t : Tra} (h : riF t = true) : t.va % byN t.size = 0 := by
  have hs := ri_size h
  unfold riF at h
  rw [Bool.and_eq_true] at h
  have h2 := (Tra.same_iff _ _).1 h.2
  unfold trF at h2
  split at h2
  · have e1 : szK (enF t).kind = t.size := congrArg Tra.size h2
    have e2 : t.va / byN (szK (enF t).kind) * byN (szK (enF t).kind) = t.va := congrArg Tra.va h2
    rw [e1] at e2
    rw [← e2]
    exact Int.mul_emod_left _ _
  · have : (0 : Int) = t.size := congrArg Tra.size h2
    omega
theorem ri_top {t : Tra} (h : riF t = true) (hv : 0 ≤ t.va ∧ t.va < 4294967296) : t.va + byN t.size ≤ 4294967296 := by
  have hs := ri_size h
  have hm := ri_va h
  rcases hs with e | e | e | e <;> rw [e] at hm ⊢ <;> simp only [byN] at hm ⊢ <;> simp at hm ⊢ <;> omega
theorem take_page {b : Blo} (h : KOk b) {o n : Int} (h0 : 0 ≤ o) (h1 : o < byN b.t.size) (hn : (b.asid < 0 ∧ 0 ≤ n ∧ n ≤ 255) ∨ (0 ≤ b.asid ∧ n = b.asid)) : tkF ⟨2, b.t.va + o, n⟩ b = true := by
  have ha : asF n = true := by
    have := h.sa
    simp only [asF, Bool.and_eq_true, decide_eq_true_eq]
    omega
  unfold tkF
  rw [h.r]
  unfold pkF
  rw [if_neg (by simp), if_pos (by rw [ha]; rfl)]
  unfold maF liF hoF
  have := h.sa
  have e1 : decide (b.t.va ≤ b.t.va + o) = true := by simp; omega
  have e2 : decide (b.t.va + o - b.t.va < byN b.t.size) = true := by simp; omega
  dsimp only
  rw [e1, e2]
  simp
  omega
theorem take_own {b : Blo} (h : KOk b) {n : Int} (hn : 0 ≤ n ∧ n ≤ 255) : tkF ⟨3, 0, n⟩ b = (b.asid == n) := by
  have ha : asF n = true := by
    simp only [asF, Bool.and_eq_true, decide_eq_true_eq]
    omega
  unfold tkF
  rw [h.r]
  unfold pkF
  rw [if_neg (by simp), if_neg (by simp), if_pos (by rw [ha]; rfl)]
  rfl
theorem take_all {b : Blo} (h : KOk b) : tkF ⟨1, 0, 0⟩ b = true := by
  unfold tkF
  rw [h.r]
  rfl
theorem drK_all {K : List Blo} (h : ∀ b ∈ K, KOk b) : drK ⟨1, 0, 0⟩ K = [] ∧ K.countP (tkF ⟨1, 0, 0⟩) = K.length := by
  have h1 : drK ⟨1, 0, 0⟩ K = [] := by
    unfold drK
    rw [List.filter_eq_nil_iff]
    intro b hb
    rw [take_all (h b hb)]
    decide
  have := drK_len ⟨1, 0, 0⟩ K
  rw [h1] at this
  exact ⟨h1, by simpa using this⟩
theorem diL_nil {M : Mo} {J : Jud} : diL M [] J = [] := by
  unfold diL
  rw [List.flatMap_eq_nil_iff]
  intro a _
  rfl
end Go.Proofs.YtnjlajjjcmhfgaaGreatDoor

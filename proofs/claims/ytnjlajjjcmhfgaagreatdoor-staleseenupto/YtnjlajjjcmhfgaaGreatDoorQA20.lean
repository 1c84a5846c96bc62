import Derived.Test.YtnjlajjjcmhfgaaGreatDoorQA13
import Derived.Test.YtnjlajjjcmhfgaaGreatDoorQA14
import Derived.Test.YtnjlajjjcmhfgaaGreatDoorQA07
namespace Go.Proofs.YtnjlajjjcmhfgaaGreatDoor
open Go.RowKit
open Mm (Turn gr RM valV errV Byts)
set_option linter.unusedVariables false
set_option linter.unusedSimpArgs false
/-- The memory that a ram is. -/
def ramMo (N : Nat) (m : Nat → Int) : Mo := ⟨fun a => valV N m a.toNat 4, fun a => errV N a 4⟩
def nilMo : Mo := ⟨fun _ => 0, fun _ => 30⟩
theorem ramMo_ok {N : Nat} {m : Nat → Int} (h : Byts m) : (ramMo N m).Ok := fun a => by
  have := Mm.valV_bd (N := N) h a.toNat 4
  exact this
theorem nilMo_ok : nilMo.Ok := fun a => ⟨Int.le_refl _, by show (0 : Int) < 4294967296; decide⟩
/-- A memory that nothing turns: a ram, or none. -/
def MemP (w : World) (S : Nat → Prop) (iv : Value) (M : Mo) : Prop :=
  (∃ p N m, iv = .iface 52 (.pointer (some ⟨p, 0, none⟩)) ∧ M = ramMo N m ∧ RM w S p N m) ∨ (iv = .nilIface ∧ M = nilMo ∧ ∀ b, ¬ S b)
theorem MemP.keep {w w' : World} {S X : Nat → Prop} {iv : Value} {M : Mo} (h : MemP w S iv M) (T : Turn X w w') (hd : ∀ b, S b → ¬ X b) : MemP w' S iv M := by
  rcases h with ⟨p, N, m, rfl, rfl, h⟩ | h
  · exact .inl ⟨p, N, m, rfl, rfl, h.keep T hd⟩
  · exact .inr h
theorem MemP.low {w : World} {S : Nat → Prop} {iv : Value} {M : Mo} (h : MemP w S iv M) : ∀ b, S b → b < w.heap.size := by
  rcases h with ⟨p, N, m, rfl, rfl, h⟩ | ⟨_, _, h⟩
  · exact h.low
  · exact fun b hb => (h b hb).elim
theorem MemP.ok {w : World} {S : Nat → Prop} {iv : Value} {M : Mo} (h : MemP w S iv M) : M.Ok := by
  rcases h with ⟨p, N, m, rfl, rfl, h⟩ | ⟨_, rfl, h⟩
  · exact ramMo_ok h.byts
  · exact nilMo_ok
theorem MemP.ask {w : World} {S : Nat → Prop} {iv : Value} {M : Mo} (h : MemP w S iv M) (pa : Int) (h0 : 0 ≤ pa) (h1 : pa < 18446744073709551616) :
    Calls Tryz.prog 99 #[iv, .int .u64 pa] w fun e w' => e = .returned (.tuple #[.int .u32 (M.wd pa), .int .i64 (M.er pa)]) ∧ w = w' := by
  rcases h with ⟨p, N, m, rfl, rfl, h⟩ | ⟨rfl, rfl, h⟩
  · have := ask_ram w S p N m pa.toNat h (by omega)
    rw [Int.toNat_of_nonneg h0] at this
    exact this
  · exact ask_nil w pa
structure Pu (S : Nat → Prop) (iv : Value) (M : Mo) (L : List Int) (Z : Nat → Prop) (w : World) : Prop where
  mem : MemP w S iv M
  sz : ∀ b, S b → Z b
  tz : ∀ b, tbl b → Z b
  low : ∀ b, Z b → b < w.heap.size
  tab : TW w
theorem asker_pure (H : Nat) {S : Nat → Prop} {iv : Value} {M : Mo} (hM : M.Ok) : Asker H M iv (Pu S iv M) where
  ok := hM
  ask := fun L Z w pa _ h0 h1 h => (h.mem.ask pa h0 h1).mono (by
    rintro e w' ⟨rfl, rfl⟩
    exact ⟨rfl, ⟨h.mem, fun b hb => .inl (h.sz b hb), fun b hb => .inl (h.tz b hb), fun b hb => by
      rcases hb with hb | ⟨_, hb⟩
      · exact h.low b hb
      · exact hb, h.tab⟩, Turn.refl _ _⟩)
  keep := fun h T hX => ⟨h.mem.keep T (fun b hb hx => hX b hx (h.sz b hb)), h.sz, h.tz, fun b hb => Nat.lt_of_lt_of_le (h.low b hb) T.size, h.tab.turn T (fun b hb hx => hX b hx (h.tz b hb))⟩
  low := fun h => h.low
  mono := fun h hZ hl => ⟨h.mem, fun b hb => hZ b (h.sz b hb), fun b hb => hZ b (h.tz b hb), hl, h.tab⟩
  tab := fun h => h.tab
/-- A walk over a memory that nothing turns. -/
theorem walk_pure (c : Ctx) (va : Int) (w : World) {S : Nat → Prop} {iv : Value} {M : Mo} (h : MemP w S iv M) (ht : TW w) (hc : c.Ok) (hv : 0 ≤ va ∧ va < 4294967296) :
    Calls Tryz.prog 32 #[iv, .agg #[.bool c.on, .bool c.tre, .bool c.afe, .int .i64 c.n, .bool c.pd0, .bool c.pd1, .int .u64 c.b0, .int .u64 c.b1, .int .u32 c.dacr, .int .u32 c.prrr, .int .u32 c.nmrr, .int .i64 c.asid], .int .u32 va] w fun e w' => e = .returned (.tuple #[.agg #[.int .i64 ((wk M c va).1).size, .int .u32 ((wk M c va).1).va, .int .u64 ((wk M c va).1).pa, .int .i64 ((wk M c va).1).dom, .int .i64 ((wk M c va).1).ap, .int .u32 ((wk M c va).1).bits, .bool ((wk M c va).1).ng, .bool ((wk M c va).1).xn], .agg #[.int .i64 ((wk M c va).2).k, .int .i64 ((wk M c va).2).l, .int .i64 ((wk M c va).2).d]]) ∧ Below w.heap.size w w' := by
  have hs : Pu S iv M [] (fun b => b < w.heap.size) w := ⟨h, h.low, fun b hb => ht.low hb, fun b hb => hb, ht⟩
  refine (walk_any (asker_pure w.heap.size h.ok) c va [] _ w hs (by simp) hc hv).mono ?_
  rintro e w' ⟨rfl, _, T⟩
  exact ⟨rfl, T.to (fun x hx => hx.2) (Nat.le_refl _)⟩
theorem first_pure (c : Ctx) (va : Int) (w : World) {S : Nat → Prop} {iv : Value} {M : Mo} (h : MemP w S iv M) (ht : TW w) (hc : c.Ok) (hv : 0 ≤ va ∧ va < 4294967296) :
    Calls Tryz.prog 61 #[iv, .agg #[.bool c.on, .bool c.tre, .bool c.afe, .int .i64 c.n, .bool c.pd0, .bool c.pd1, .int .u64 c.b0, .int .u64 c.b1, .int .u32 c.dacr, .int .u32 c.prrr, .int .u32 c.nmrr, .int .i64 c.asid], .int .u32 va] w fun e w' => e = .returned (.tuple #[.agg #[.int .i64 ((w1 M c va).1).kind, .int .u64 ((w1 M c va).1).base, .int .i64 ((w1 M c va).1).dom, .bool ((w1 M c va).1).ns, .int .i64 ((w1 M c va).1).ap, .int .u32 ((w1 M c va).1).bits, .bool ((w1 M c va).1).ng, .bool ((w1 M c va).1).xn], .agg #[.int .i64 ((w1 M c va).2).k, .int .i64 ((w1 M c va).2).l, .int .i64 ((w1 M c va).2).d]]) ∧ Below w.heap.size w w' := by
  have hs : Pu S iv M [] (fun b => b < w.heap.size) w := ⟨h, h.low, fun b hb => ht.low hb, fun b hb => hb, ht⟩
  refine (first_any (asker_pure w.heap.size h.ok) c va [] _ w hs (by simp) hc hv).mono ?_
  rintro e w' ⟨rfl, _, T⟩
  exact ⟨rfl, T.to (fun x hx => hx.2) (Nat.le_refl _)⟩
theorem second_pure (t : Ent) (va : Int) (w : World) {S : Nat → Prop} {iv : Value} {M : Mo} (h : MemP w S iv M) (ht : TW w) (hr : 0 ≤ t.base ∧ t.base < 4294967296) (hv : 0 ≤ va ∧ va < 4294967296) :
    Calls Tryz.prog 62 #[iv, .agg #[.int .i64 t.kind, .int .u64 t.base, .int .i64 t.dom, .bool t.ns, .int .i64 t.ap, .int .u32 t.bits, .bool t.ng, .bool t.xn], .int .u32 va] w fun e w' => e = .returned (.tuple #[.agg #[.int .i64 ((w2 M t va).1).size, .int .u32 ((w2 M t va).1).va, .int .u64 ((w2 M t va).1).pa, .int .i64 ((w2 M t va).1).dom, .int .i64 ((w2 M t va).1).ap, .int .u32 ((w2 M t va).1).bits, .bool ((w2 M t va).1).ng, .bool ((w2 M t va).1).xn], .agg #[.int .i64 ((w2 M t va).2).k, .int .i64 ((w2 M t va).2).l, .int .i64 ((w2 M t va).2).d]]) ∧ Below w.heap.size w w' := by
  have hs : Pu S iv M [] (fun b => b < w.heap.size) w := ⟨h, h.low, fun b hb => ht.low hb, fun b hb => hb, ht⟩
  refine (second_any (asker_pure w.heap.size h.ok) t va [] _ w hs (by simp) hr hv).mono ?_
  rintro e w' ⟨rfl, _, T⟩
  exact ⟨rfl, T.to (fun x hx => hx.2) (Nat.le_refl _)⟩
theorem MemP.below {w w' : World} {S : Nat → Prop} {iv : Value} {M : Mo} (h : MemP w S iv M) (hb : Below w.heap.size w w') : MemP w' S iv M := h.keep (X := fun _ => False) (Turn.below hb) (fun _ _ h => h)
end Go.Proofs.YtnjlajjjcmhfgaaGreatDoor
namespace Go.Proofs.YtnjlajjjcmhfgaaGreatDoor
open Go.RowKit
open Mm (Turn gr RM valV errV Byts setV wrs byt num)
set_option linter.unusedVariables false
set_option linter.unusedSimpArgs false
/-! ### A word is put: what is read of it, and beside it -/
theorem wrs_out (m : Nat → Int) (a : Nat) (l : List Int) {x : Nat} (h : x < a ∨ a + l.length ≤ x) : wrs m a l x = m x := by
  unfold wrs
  rw [if_neg (by omega)]
theorem wrs_in (m : Nat → Int) (a : Nat) (l : List Int) {i : Nat} (h : i < l.length) : wrs m a l (a + i) = l.getD i 0 := by
  unfold wrs
  rw [if_pos (by omega), show a + i - a = i by omega]
theorem num_same (m : Nat → Int) (a : Nat) (v : Int) (h0 : 0 ≤ v) (h1 : v < 4294967296) : num (wrs m a (byt v 4)) a 4 = v := by
  have hl : (byt v 4).length = 4 := Mm.byt_len v 4
  have e0 := wrs_in m a (byt v 4) (i := 0) (by omega)
  have e1 := wrs_in m a (byt v 4) (i := 1) (by omega)
  have e2 := wrs_in m a (byt v 4) (i := 2) (by omega)
  have e3 := wrs_in m a (byt v 4) (i := 3) (by omega)
  rw [Mm.num4]
  rw [Nat.add_zero] at e0
  rw [e0, e1, e2, e3, Mm.byt4]
  simp
  omega
theorem num_other (m : Nat → Int) (a b : Nat) (v : Int) (ha : a % 4 = 0) (hb : b % 4 = 0) (hn : a ≠ b) : num (wrs m a (byt v 4)) b 4 = num m b 4 := by
  have hl : (byt v 4).length = 4 := Mm.byt_len v 4
  rw [Mm.num4, Mm.num4, wrs_out _ _ _ (by omega), wrs_out _ _ _ (by omega), wrs_out _ _ _ (by omega), wrs_out _ _ _ (by omega)]
theorem er_ok {N : Nat} {a : Int} (h : errV N a 4 = 0) : a % 4 = 0 := by
  unfold errV at h
  split at h
  · cases h
  · rename_i h1
    omega
/-- The memory with a word put. -/
def putM (N : Nat) (m : Nat → Int) (a v : Int) : Nat → Int := setV N m a.toNat 4 v
theorem putM_no {N : Nat} {m : Nat → Int} {a v : Int} (h0 : 0 ≤ a) (h : errV N a 4 ≠ 0) : putM N m a v = m := by
  unfold putM setV
  rw [Int.toNat_of_nonneg h0, if_neg h]
theorem putM_er {N : Nat} {m : Nat → Int} {a v b : Int} : (ramMo N (putM N m a v)).er b = (ramMo N m).er b := rfl
theorem putM_same {N : Nat} {m : Nat → Int} {a v : Int} (h0 : 0 ≤ a) (h : errV N a 4 = 0) (hv0 : 0 ≤ v) (hv1 : v < 4294967296) : (ramMo N (putM N m a v)).wd a = v := by
  show valV N (putM N m a v) a.toNat 4 = v
  unfold putM setV valV
  rw [Int.toNat_of_nonneg h0, if_pos h, if_pos h]
  exact num_same m a.toNat v hv0 hv1
theorem putM_other {N : Nat} {m : Nat → Int} {a v b : Int} (ha : 0 ≤ a) (hb : 0 ≤ b) (hn : a ≠ b) : (ramMo N (putM N m a v)).wd b = (ramMo N m).wd b := by
  by_cases h : errV N a 4 = 0
  · show valV N (putM N m a v) b.toNat 4 = valV N m b.toNat 4
    unfold putM setV valV
    rw [Int.toNat_of_nonneg ha, if_pos h, Int.toNat_of_nonneg hb]
    by_cases hb4 : errV N b 4 = 0
    · rw [if_pos hb4, if_pos hb4]
      have h1 := er_ok h
      have h2 := er_ok hb4
      exact num_other m a.toNat b.toNat v (by omega) (by omega) (by omega)
    · rw [if_neg hb4, if_neg hb4]
  · rw [putM_no ha h]
/-- A walk hangs on the words that it reads alone. -/
theorem wk_congr {M M' : Mo} {c : Ctx} {va : Int} (he : ∀ a, M'.er a = M.er a) (hw : ∀ a ∈ rdL M c va, M'.wd a = M.wd a) : wk M' c va = wk M c va ∧ rdL M' c va = rdL M c va := by
  cases hon : c.on
  · simp [wk, rdL, hon]
  · cases hO : fO c va
    · have h1 : ∀ M : Mo, w1 M c va = (dZ, ⟨3, 0, 0⟩) := fun M => by simp [w1, hO]
      simp [wk, rdL, hon, h1, r1, hO]
    · have hm : fA c va ∈ rdL M c va := by
        unfold rdL
        rw [if_pos hon]
        split <;> simp [r1, hO]
      have e1 : w1 M' c va = w1 M c va := by
        unfold w1
        rw [he, hw _ hm]
      unfold wk rdL at *
      rw [if_pos hon] at hw
      rw [if_pos hon, if_pos hon, if_pos hon, if_pos hon, e1]
      by_cases hk : (w1 M c va).2.k = 0
      · by_cases h1 : (w1 M c va).1.kind = 1
        · rw [if_pos ⟨hk, h1⟩] at hw
          have e2 : w2 M' (w1 M c va).1 va = w2 M (w1 M c va).1 va := by
            unfold w2
            rw [he, hw _ (by simp)]
          rw [e2]
          exact ⟨rfl, rfl⟩
        · simp [hk, h1]
      · simp [hk]
/-- The addresses that are read are addresses. -/
theorem rdL_nn {M : Mo} {c : Ctx} {va : Int} (hM : M.Ok) (hc : c.Ok) (hv : 0 ≤ va ∧ va < 4294967296) : ∀ a ∈ rdL M c va, 0 ≤ a ∧ a < 18446744073709551616 := by
  have h1 := fA_rng c va hc hv
  intro a ha
  unfold rdL at ha
  split at ha
  · split at ha
    · rename_i hk
      obtain ⟨ho, he, hw, hz⟩ := w1_kind hk.1
      rw [hw] at ha hk
      have h2 := sA_rng (hM (fA c va)) hk.2 hv.1
      rcases List.mem_append.1 ha with ha | ha
      · unfold r1 at ha
        rw [if_pos ho] at ha
        simp at ha; omega
      · simp at ha
        subst ha
        omega
    · unfold r1 at ha
      split at ha
      · simp at ha; omega
      · simp at ha
  · simp at ha
theorem edit_keep {N : Nat} {m : Nat → Int} {a v : Int} {c : Ctx} {va : Int} (hB : Byts m) (ha : 0 ≤ a) (hc : c.Ok) (hv : 0 ≤ va ∧ va < 4294967296) (hn : a ∉ rdL (ramMo N m) c va) : wk (ramMo N (putM N m a v)) c va = wk (ramMo N m) c va :=
  (wk_congr (M := ramMo N m) (M' := ramMo N (putM N m a v)) (fun _ => rfl) (fun b hb => putM_other ha (rdL_nn (ramMo_ok hB) hc hv b hb).1 (fun e => hn (e ▸ hb)))).1
end Go.Proofs.YtnjlajjjcmhfgaaGreatDoor
namespace Go.Proofs.YtnjlajjjcmhfgaaGreatDoor
open Go.RowKit
open Mm (Turn gr RM valV errV Byts setV wrs byt num)
set_option linter.unusedVariables false
set_option linter.unusedSimpArgs false
theorem rdL_none {M : Mo} {c : Ctx} {va : Int} (h : rdL M c va = []) : c.on = false ∨ fO c va = false := by
  cases hon : c.on
  · exact .inl rfl
  · cases hO : fO c va
    · exact .inr rfl
    · unfold rdL at h
      rw [if_pos hon] at h
      split at h <;> simp [r1, hO] at h
theorem rdL_off {M : Mo} {c : Ctx} {va : Int} (h : c.on = false ∨ fO c va = false) : rdL M c va = [] := by
  cases hon : c.on
  · simp [rdL, hon]
  · have hO : fO c va = false := by rcases h with h | h; rw [hon] at h; cases h; exact h
    have h1 : w1 M c va = (dZ, ⟨3, 0, 0⟩) := by simp [w1, hO]
    simp [rdL, hon, h1, r1, hO]
/-- The last descriptor that is read is 0 now. -/
theorem edit_zero1 {N : Nat} {m : Nat → Int} {c : Ctx} {va : Int} (hon : c.on = true) (hO : fO c va = true) (hf : 0 ≤ fA c va) (he : errV N (fA c va) 4 = 0) : wk (ramMo N (putM N m (fA c va) 0)) c va = (tZ, ⟨3, 0, 0⟩) := by
  have hw : (ramMo N (putM N m (fA c va) 0)).wd (fA c va) = 0 := putM_same hf he (by omega) (by omega)
  have hr : (ramMo N (putM N m (fA c va) 0)).er (fA c va) = 0 := he
  have h1 : w1 (ramMo N (putM N m (fA c va) 0)) c va = (dZ, ⟨3, 0, 0⟩) := by
    unfold w1
    rw [if_pos hO, if_pos hr, hw, D1_0]
    rfl
  unfold wk
  rw [if_pos hon, h1]
  rfl
theorem edit_zero2 {N : Nat} {m : Nat → Int} {c : Ctx} {va : Int} (hB : Byts m) (hc : c.Ok) (hv : 0 ≤ va ∧ va < 4294967296) (hon : c.on = true) (hk : (w1 (ramMo N m) c va).2.k = 0) (h1 : (w1 (ramMo N m) c va).1.kind = 1)
    (hn : fA c va ≠ sA (w1 (ramMo N m) c va).1 va) (he : errV N (sA (w1 (ramMo N m) c va).1 va) 4 = 0) : ∃ d, wk (ramMo N (putM N m (sA (w1 (ramMo N m) c va).1 va) 0)) c va = (tZ, ⟨5, 0, d⟩) := by
  obtain ⟨ho, hef, hw, hz⟩ := w1_kind hk
  have hf := fA_rng c va hc hv
  rw [hw] at h1 hn he ⊢
  dsimp only at h1 hn he ⊢
  have hs := sA_rng (ramMo_ok (N := N) hB (fA c va)) h1 hv.1
  generalize hS : sA (D1 ((ramMo N m).wd (fA c va))) va = s at *
  have hw1 : w1 (ramMo N (putM N m s 0)) c va = w1 (ramMo N m) c va := by
    unfold w1
    rw [putM_er, putM_other hs.1 hf.1 (fun e => hn e.symm)]
  have hws : (ramMo N (putM N m s 0)).wd s = 0 := putM_same hs.1 he (by omega) (by omega)
  have hrs : (ramMo N (putM N m s 0)).er s = 0 := he
  unfold wk
  rw [if_pos hon, hw1, hw, if_pos (show fZ.k = 0 from rfl)]
  dsimp only
  rw [if_pos h1]
  unfold w2
  rw [hS, if_pos hrs, hws, D2_0]
  exact ⟨_, rfl⟩
theorem d1_sec : D1 3074 = ⟨2, 0, 0, false, 3, 0, false, false⟩ := by
  unfold D1
  rw [if_neg (by decide), if_pos (by decide), if_neg (by decide)]
  rfl
theorem tr_sec (va : Int) : trF ⟨2, 0, 0, false, 3, 0, false, false⟩ 0 va = ⟨3, va / 1048576 * 1048576, 0, 0, 3, 0, false, false⟩ := by
  have hs : sb ⟨2, 0, 0, false, 3, 0, false, false⟩ = true := by
    have h := DED1 3074 (by omega)
    rw [d1_sec] at h
    unfold sb
    rw [if_pos (.inl rfl), Ent.same_iff]
    exact h
  unfold trF
  rw [if_pos ⟨hs, by decide, by decide⟩]
  rfl
/-- The first-level descriptor says a section at 0. -/
theorem edit_sec {N : Nat} {m : Nat → Int} {c : Ctx} {va : Int} (hon : c.on = true) (hO : fO c va = true) (hf : 0 ≤ fA c va) (he : errV N (fA c va) 4 = 0) : wk (ramMo N (putM N m (fA c va) 3074)) c va = (⟨3, va / 1048576 * 1048576, 0, 0, 3, 0, false, false⟩, fZ) := by
  have hw : (ramMo N (putM N m (fA c va) 3074)).wd (fA c va) = 3074 := putM_same hf he (by omega) (by omega)
  have hr : (ramMo N (putM N m (fA c va) 3074)).er (fA c va) = 0 := he
  have h1 : w1 (ramMo N (putM N m (fA c va) 3074)) c va = (⟨2, 0, 0, false, 3, 0, false, false⟩, fZ) := by
    unfold w1
    rw [if_pos hO, if_pos hr, hw, d1_sec]
    rfl
  unfold wk
  rw [if_pos hon, h1, if_pos (show fZ.k = 0 from rfl), if_neg (show ¬ (2 : Int) = 1 by decide), tr_sec]
end Go.Proofs.YtnjlajjjcmhfgaaGreatDoor
namespace Go.Proofs.YtnjlajjjcmhfgaaGreatDoor
open Go.RowKit
open Mm (Turn gr RM valV errV Byts setV wrs byt num)
set_option linter.unusedVariables false
set_option linter.unusedSimpArgs false
theorem sb_D1 {x : Int} (h : 0 ≤ x ∧ x < 4294967296) (hk : (D1 x).kind = 2 ∨ (D1 x).kind = 3) : sb (D1 x) = true := by
  unfold sb
  rw [if_pos hk, Ent.same_iff]
  exact DED1 x h
theorem sb_D2 {x : Int} (h : 0 ≤ x ∧ x < 4294967296) (hk : (D2 x).kind = 4 ∨ (D2 x).kind = 5) : sb (D2 x) = true := by
  unfold sb
  rw [if_neg (by omega), if_pos hk, Ent.same_iff]
  exact DED2 x h
/-- What a walk that finds a block finds. -/
structure Fnd (U : Tra) (va : Int) : Prop where
  sz : U.size = 1 ∨ U.size = 2 ∨ U.size = 3 ∨ U.size = 4
  va : U.va = va / byN U.size * byN U.size
  pa : 0 ≤ U.pa ∧ U.pa < 1099511627776
  bt : 0 ≤ U.bits ∧ U.bits < 4294967296
  rr : RR U
theorem Fnd.rng {U : Tra} {va : Int} (h : Fnd U va) (hv : 0 ≤ va ∧ va < 4294967296) : 0 ≤ U.va ∧ U.va ≤ va ∧ U.va ≤ va / 4096 * 4096 ∧ va - U.va < byN U.size := by
  have h2 := h.va
  rcases h.sz with h1 | h1 | h1 | h1 <;> simp only [h1, byN] at h2 ⊢ <;> simp at h2 ⊢ <;> omega
theorem Fnd.right {U : Tra} {va : Int} (h : Fnd U va) : riF U = true :=
  (ri_iff U ⟨⟨h.pa.1, by have := h.pa.2; show U.pa < _; omega⟩, h.bt⟩ (by have := h.sz; omega)).2 h.rr
theorem tr_D1 {x : Int} (h : 0 ≤ x ∧ x < 4294967296) (hk : (D1 x).kind = 2 ∨ (D1 x).kind = 3) (d va : Int) (hv : 0 ≤ va ∧ va < 4294967296) :
    trF (D1 x) d va = ⟨szK (D1 x).kind, va / byN (szK (D1 x).kind) * byN (szK (D1 x).kind), (D1 x).base, (D1 x).dom, (D1 x).ap, (D1 x).bits, (D1 x).ng, (D1 x).xn⟩ ∧ Fnd (trF (D1 x) d va) va ∧ 3 ≤ (trF (D1 x) d va).size := by
  obtain ⟨ho, hs⟩ := ok_D1 x h
  have hd : domOf (D1 x) d = (D1 x).dom := if_pos hk
  have hdr : 0 ≤ (D1 x).dom ∧ (D1 x).dom ≤ 15 := by
    rcases hs with h1 | ⟨h1, h2⟩ | ⟨h1, h2, h3, h4⟩ | ⟨h1, h2, h3, h4⟩
    · rw [h1] at hk; rcases hk with hk | hk <;> cases hk
    · omega
    · exact h3
    · omega
  have e : trF (D1 x) d va = ⟨szK (D1 x).kind, va / byN (szK (D1 x).kind) * byN (szK (D1 x).kind), (D1 x).base, (D1 x).dom, (D1 x).ap, (D1 x).bits, (D1 x).ng, (D1 x).xn⟩ := by
    unfold trF
    rw [hd, if_pos ⟨sb_D1 h hk, hdr⟩]
  refine ⟨e, ?_⟩
  rw [e]
  rcases hs with h1 | ⟨h1, h2⟩ | ⟨h1, h2, h3, h4⟩ | ⟨h1, h2, h3, h4⟩
  · rw [h1] at hk; rcases hk with hk | hk <;> cases hk
  · omega
  · rw [h1]
    obtain ⟨⟨b1, b2⟩, b3⟩ := ho
    refine ⟨⟨.inr (.inr (.inl rfl)), rfl, ⟨b1, by show (D1 x).base < _; omega⟩, b3, ?_⟩, by show (3 : Int) ≤ 3; omega⟩
    refine ⟨?_, h4, h3, h2.1, ?_⟩
    · show va / 1048576 * 1048576 % 1048576 = 0
      omega
    · rw [if_neg (by show ¬ (3 : Int) = 4; decide)]
      exact h2.2
  · rw [h1]
    obtain ⟨⟨b1, b2⟩, b3⟩ := ho
    refine ⟨⟨.inr (.inr (.inr rfl)), rfl, ⟨b1, h2.2⟩, b3, ?_⟩, by show (3 : Int) ≤ 4; omega⟩
    refine ⟨?_, h4, by show 0 ≤ (D1 x).dom ∧ _; omega, h2.1, ?_⟩
    · show va / 16777216 * 16777216 % 16777216 = 0
      omega
    · rw [if_pos (by show (4 : Int) = 4; rfl)]
      exact ⟨h2.2, h3⟩
theorem tr_D2 {x : Int} (h : 0 ≤ x ∧ x < 4294967296) (hk : (D2 x).kind = 4 ∨ (D2 x).kind = 5) (d va : Int) (hd0 : 0 ≤ d ∧ d ≤ 15) (hv : 0 ≤ va ∧ va < 4294967296) :
    trF (D2 x) d va = ⟨szK (D2 x).kind, va / byN (szK (D2 x).kind) * byN (szK (D2 x).kind), (D2 x).base, d, (D2 x).ap, (D2 x).bits, (D2 x).ng, (D2 x).xn⟩ ∧ Fnd (trF (D2 x) d va) va ∧ (trF (D2 x) d va).size < 3 := by
  obtain ⟨ho, hs⟩ := ok_D2 x h
  have hd : domOf (D2 x) d = d := if_neg (by omega)
  have e : trF (D2 x) d va = ⟨szK (D2 x).kind, va / byN (szK (D2 x).kind) * byN (szK (D2 x).kind), (D2 x).base, d, (D2 x).ap, (D2 x).bits, (D2 x).ng, (D2 x).xn⟩ := by
    unfold trF
    rw [hd, if_pos ⟨sb_D2 h hk, hd0⟩]
  refine ⟨e, ?_⟩
  rw [e]
  rcases hs with h1 | ⟨h1, h2, h3, h5, h4⟩ | ⟨h1, h2, h3, h5, h4⟩
  · rw [h1] at hk; rcases hk with hk | hk <;> cases hk
  · rw [h1]
    obtain ⟨⟨b1, b2⟩, b3⟩ := ho
    refine ⟨⟨.inr (.inl rfl), rfl, ⟨b1, by show (D2 x).base < _; omega⟩, b3, ?_⟩, by show (2 : Int) < 3; omega⟩
    refine ⟨?_, h4, hd0, h2.1, ?_⟩
    · show va / 65536 * 65536 % 65536 = 0
      omega
    · rw [if_neg (by show ¬ (2 : Int) = 4; decide)]
      exact h2.2
  · rw [h1]
    obtain ⟨⟨b1, b2⟩, b3⟩ := ho
    refine ⟨⟨.inl rfl, rfl, ⟨b1, by show (D2 x).base < _; omega⟩, b3, ?_⟩, by show (1 : Int) < 3; omega⟩
    refine ⟨?_, h4, hd0, h2.1, ?_⟩
    · show va / 4096 * 4096 % 4096 = 0
      omega
    · rw [if_neg (by show ¬ (1 : Int) = 4; decide)]
      exact h2.2
theorem it_fnd (va : Int) (hv : 0 ≤ va ∧ va < 4294967296) : Fnd (itF va) va := by
  refine ⟨.inl rfl, rfl, ⟨by show 0 ≤ va / 4096 * 4096; omega, by show va / 4096 * 4096 < _; omega⟩, ⟨by show (0 : Int) ≤ 0; omega, by show (0 : Int) < _; omega⟩, ?_⟩
  refine ⟨?_, ⟨?_, ?_, ?_⟩, ⟨?_, ?_⟩, ?_, ?_⟩
  · show va / 4096 * 4096 % 4096 = 0; omega
  · show (0 : Int) ≤ 3; omega
  · show (3 : Int) ≤ 7; omega
  · show (0 : Int) ≤ 63; omega
  · show (0 : Int) ≤ 0; omega
  · show (0 : Int) ≤ 15; omega
  · show va / 4096 * 4096 % 4096 = 0; omega
  · rw [if_neg (by show ¬ (1 : Int) = 4; decide)]
    show va / 4096 * 4096 < _; omega
theorem missed {M : Mo} {c : Ctx} {va : Int} {U : Tra} {F : Fa} (h : wk M c va = (U, F)) (hk : F.k ≠ 0) : U = tZ ∧ c.on = true := by
  unfold wk at h
  split at h
  · rename_i hon
    refine ⟨?_, hon⟩
    split at h
    · split at h
      · unfold w2 at h
        split at h
        · split at h
          · exact (Prod.mk.inj h).1.symm
          · exact absurd (by rw [← (Prod.mk.inj h).2]; rfl) hk
        · exact (Prod.mk.inj h).1.symm
      · exact absurd (by rw [← (Prod.mk.inj h).2]; rfl) hk
    · exact (Prod.mk.inj h).1.symm
  · exact absurd (by rw [← (Prod.mk.inj h).2]; rfl) hk
theorem found {M : Mo} {c : Ctx} {va : Int} {U : Tra} {F : Fa} (hM : M.Ok) (hc : c.Ok) (hv : 0 ≤ va ∧ va < 4294967296) (h : wk M c va = (U, F)) (hk : F.k = 0) :
    F = fZ ∧ Fnd U va ∧ ((c.on = false ∧ U = itF va ∧ rdL M c va = []) ∨
      (c.on = true ∧ rdL M c va = [fA c va] ∧ M.er (fA c va) = 0 ∧ trF (D1 (M.wd (fA c va))) U.dom va = U ∧ 3 ≤ U.size) ∨
      (c.on = true ∧ ∃ s, rdL M c va = [fA c va, s] ∧ (0 ≤ s ∧ s < 4294967296) ∧ M.er s = 0 ∧ trF (D2 (M.wd s)) U.dom va = U ∧ U.size < 3)) := by
  unfold wk at h
  split at h
  · rename_i hon
    split at h
    · rename_i h1
      obtain ⟨hO, he, hw, hz⟩ := w1_kind h1
      have hx := hM (fA c va)
      split at h
      · rename_i h2
        have hr : rdL M c va = [fA c va, sA (w1 M c va).1 va] := by
          unfold rdL
          rw [if_pos hon, if_pos ⟨h1, h2⟩]
          simp [r1, hO]
        rw [hw] at h h2 hr
        dsimp only at h h2 hr
        have hs := sA_rng hx h2 hv.1
        have hdm := D1_base _ hx h2
        generalize D1 (M.wd (fA c va)) = x at *
        unfold w2 at h
        split at h
        · rename_i h3
          split at h
          · exfalso
            rw [← (Prod.mk.inj h).2] at hk
            cases hk
          · rename_i h4
            have hy := hM (sA x va)
            have hk2 : (D2 (M.wd (sA x va))).kind = 4 ∨ (D2 (M.wd (sA x va))).kind = 5 := by
              have := D2_kind (M.wd (sA x va)); omega
            obtain ⟨hU, hF⟩ := Prod.mk.inj h
            obtain ⟨e1, e2, e3⟩ := tr_D2 hy hk2 x.dom va hdm.2.2.2 hv
            have hdd : U.dom = x.dom := by rw [← hU, e1]
            refine ⟨hF.symm, by rw [← hU]; exact e2, .inr (.inr ⟨hon, sA x va, hr, ⟨hs.1, hs.2.1⟩, h3, by rw [hdd]; exact hU, by rw [← hU]; exact e3⟩)⟩
        · exfalso
          rw [← (Prod.mk.inj h).2] at hk
          cases hk
      · rename_i h2
        have hr : rdL M c va = [fA c va] := by
          unfold rdL
          rw [if_pos hon, if_neg (fun g => h2 g.2)]
          simp [r1, hO]
        rw [hw] at h h2
        dsimp only at h h2
        have hk1 : (D1 (M.wd (fA c va))).kind = 2 ∨ (D1 (M.wd (fA c va))).kind = 3 := by
          have := D1_kind (M.wd (fA c va)); omega
        obtain ⟨hU, hF⟩ := Prod.mk.inj h
        obtain ⟨e1, e2, e3⟩ := tr_D1 hx hk1 0 va hv
        obtain ⟨g1, _, _⟩ := tr_D1 hx hk1 U.dom va hv
        refine ⟨hF.symm, by rw [← hU]; exact e2, .inr (.inl ⟨hon, hr, he, ?_, by rw [← hU]; exact e3⟩)⟩
        rw [g1, ← e1]; exact hU
    · rename_i h1
      exfalso
      rw [← (Prod.mk.inj h).2] at hk
      exact h1 hk
  · rename_i hon
    obtain ⟨hU, hF⟩ := Prod.mk.inj h
    have hon' : c.on = false := by simpa using hon
    refine ⟨hF.symm, by rw [← hU]; exact it_fnd va hv, .inl ⟨hon', hU.symm, ?_⟩⟩
    unfold rdL
    rw [if_neg hon]
/-- Addresses of one page have one walk. -/
theorem lw_page {c : Ctx} {va vb : Int} (h : va / 1048576 = vb / 1048576) : lw c va = lw c vb := by
  have hn := nN_lt c
  unfold lw
  have e : (2 : Int) ^ (32 - nN c) = 1048576 * 2 ^ (12 - nN c) := by
    rw [show 32 - nN c = 20 + (12 - nN c) by omega, Int.pow_add]; rfl
  rw [e, ← Int.ediv_ediv_of_nonneg (by omega), ← Int.ediv_ediv_of_nonneg (by omega), h]
theorem w1_sec {M : Mo} {c : Ctx} {va vb : Int} (h : va / 1048576 = vb / 1048576) : w1 M c va = w1 M c vb ∧ fA c va = fA c vb ∧ fO c va = fO c vb := by
  have e1 : fA c va = fA c vb := by unfold fA; rw [lw_page h, h]
  have e2 : fO c va = fO c vb := by unfold fO; rw [lw_page h]
  exact ⟨by unfold w1; rw [e1, e2], e1, e2⟩
theorem tr_page {e : Ent} {d va vb : Int} (h : va / 4096 = vb / 4096) : trF e d va = trF e d vb := by
  have hb : ∀ k, va / byN (szK k) * byN (szK k) = vb / byN (szK k) * byN (szK k) := by
    intro k
    unfold szK byN
    by_cases k2 : k = 2
    · simp [k2]; omega
    · by_cases k3 : k = 3
      · simp [k3]; omega
      · by_cases k4 : k = 4
        · simp [k4]; omega
        · by_cases k5 : k = 5
          · simp [k5]; omega
          · simp [k2, k3, k4, k5]
  unfold trF
  rw [hb]
theorem wk_page {M : Mo} {c : Ctx} {va vb : Int} (h : va / 4096 = vb / 4096) : wk M c va = wk M c vb := by
  obtain ⟨e1, e2, e3⟩ := w1_sec (M := M) (c := c) (va := va) (vb := vb) (by omega)
  have e4 : ∀ x, w2 M x va = w2 M x vb := by
    intro x
    unfold w2 sA
    rw [h, tr_page h]
  unfold wk itF
  rw [e1, e4, tr_page h, h]
/-- All addresses of a section have that walk. -/
theorem wk_sec {M : Mo} {c : Ctx} {va vb : Int} {U : Tra} {F : Fa} (hM : M.Ok) (hc : c.Ok) (hv : 0 ≤ va ∧ va < 4294967296) (hw : wk M c va = (U, F)) (hk : F.k = 0) (h3 : U.size = 3) (h : va / 1048576 = vb / 1048576) : wk M c vb = (U, F) := by
  obtain ⟨e1, e2, e3⟩ := w1_sec (M := M) (c := c) (va := va) (vb := vb) h
  obtain ⟨hF, hf, hh⟩ := found hM hc hv hw hk
  rcases hh with ⟨_, hU, _⟩ | ⟨hon, hr, he, hu, hs⟩ | ⟨_, s, _, _, _, _, hs⟩
  · rw [hU] at h3; cases h3
  · unfold wk at hw ⊢
    rw [if_pos hon] at hw ⊢
    rw [← e1]
    split at hw
    · rename_i h1
      rw [if_pos h1]
      split at hw
      · rename_i h2
        exfalso
        have : rdL M c va = r1 c va ++ [sA (w1 M c va).1 va] := by unfold rdL; rw [if_pos hon, if_pos ⟨h1, h2⟩]
        rw [hr] at this
        have hl := congrArg List.length this
        obtain ⟨hO, _⟩ := w1_kind h1
        simp [r1, hO] at hl
      · rename_i h2
        rw [if_neg h2, ← hw]
        obtain ⟨hO, he', hww, hz⟩ := w1_kind h1
        rw [hww] at h2 hw ⊢
        dsimp only at h2 hw ⊢
        have hx := hM (fA c va)
        have hk1 : (D1 (M.wd (fA c va))).kind = 2 ∨ (D1 (M.wd (fA c va))).kind = 3 := by
          have := D1_kind (M.wd (fA c va)); omega
        have hk2 : (D1 (M.wd (fA c va))).kind = 2 := by
          rcases id hk1 with h' | h'
          · exact h'
          · exfalso
            have hU := (Prod.mk.inj hw).1
            rw [(tr_D1 hx hk1 0 va hv).1, h'] at hU
            rw [← hU] at h3
            cases h3
        congr 1
        unfold trF
        rw [hk2]
        show (if _ then (⟨3, vb / 1048576 * 1048576, _, _, _, _, _, _⟩ : Tra) else tZ) = (if _ then (⟨3, va / 1048576 * 1048576, _, _, _, _, _, _⟩ : Tra) else tZ)
        rw [h]
    · rename_i h1
      exfalso
      rw [← (Prod.mk.inj hw).2] at hk
      exact h1 hk
  · omega
/-- The context in which everything is open. -/
def opn (c : Ctx) : Ctx := ⟨c.on, c.tre, false, c.n, c.pd0, c.pd1, c.b0, c.b1, 4294967295, c.prrr, c.nmrr, c.asid⟩
theorem opn_ok {c : Ctx} (h : c.Ok) : (opn c).Ok := ⟨h.n, h.b0, h.b1, by show (0 : Int) ≤ 4294967295; omega, by show (4294967295 : Int) < _; omega⟩
theorem wk_opn (M : Mo) (c : Ctx) (va : Int) : wk M (opn c) va = wk M c va := rfl
end Go.Proofs.YtnjlajjjcmhfgaaGreatDoor
namespace Go.Proofs.YtnjlajjjcmhfgaaGreatDoor
open Go.RowKit
open Mm (Turn gr RM valV errV Byts RowAt)
set_option linter.unusedVariables false
set_option linter.unusedSimpArgs false
def encU (l : List Int) : List Value := l.map (Value.int .u64)
theorem infoU : (Tryz.prog.info? 35).map (fun i => (i.zero, i.size, i.bytes)) = some (some (.int .u64 0), 1, 8) := by kernel_rfl
/-- append of one address to a list of one's own. -/
theorem appU (wr : World) (lo : Nat) (v : Value) (l : List Int) (b : Int) (h : wr.ownsRow lo 35 1 v l.length (encU l)) (hlo : lo ≤ wr.heap.size) (hk : l.length ≤ 268435456) :
    ∃ v' w', (∀ ty, (Builtin.append_ #[22, 22] ty #[v, .slice (some ⟨wr.heap.size, 0, none⟩) 1 1]).run Tryz.prog (wr.alloc (.cells #[.int .u64 b] 35)) = .ok v' w') ∧ w'.ownsRow lo 35 1 v' (l.length + 1) (encU (l ++ [b])) ∧ Turn (fun x => v.ownBlock = some x) wr w' ∧ (∀ g, v'.ownBlock = some g → v.ownBlock = some g ∨ wr.heap.size ≤ g) := by
  obtain ⟨i0, hi, hz0, hz1, hz2⟩ := info_parts infoU
  have hB := Mm.row_new wr [.int .u64 b] 35
  have ho := Mm.own_turn h (((Turn.refl (fun _ => False) wr).alloc (.cells #[.int .u64 b] 35))) (fun _ _ h => h)
  obtain ⟨v', w', hr, ho', hg, hb⟩ := Mm.append_any (P := Tryz.prog) (wr.alloc (.cells #[.int .u64 b] 35)) 22 35 i0 _ Tryz.underlying22 hi hz0 (by rw [hz1]; rfl) lo l.length 1 v (.slice (some ⟨wr.heap.size, 0, none⟩) 1 1) (encU l) [.int .u64 b] (by rw [hz1]; exact ho)
    (by rw [hz1]; exact Src.ofSlice _ Tryz.underlying22 ⟨wr.heap.size, 0, none⟩ 1 1 _ rfl (fun j u hj => by rw [Addr.add_lit, Nat.zero_add]; exact (hB.cell j).trans hj) (fun u hu => by simp at hu; subst hu; rfl)) (by simp; omega) (by unfold maxLen; omega) (by rw [hz2]; omega)
  rw [hz1] at ho'
  refine ⟨v', w', hr, by simpa [encU] using ho', ((Turn.refl _ wr).alloc _).trans (S' := fun x => v.ownBlock = some x) (Turn.grown hg (fun x hx => .inl hx)) (fun x hx => .inl hx), fun g hg => ?_⟩
  rcases hb g hg with h1 | h1
  · exact .inl h1
  · simp at h1; exact .inr (by omega)
theorem Bl.put' {w : World} {b : Nat} {t : TypeId} {l : List Value} (h : Bl w b t l) (i : Nat) (v : Value) : Bl (w.setCell ⟨b, i, none⟩ v) b t (l.set i v) := by
  unfold Bl at h ⊢
  simp only [World.setCell, Array.getElem?_modify, h, if_true]
  simp
end Go.Proofs.YtnjlajjjcmhfgaaGreatDoor

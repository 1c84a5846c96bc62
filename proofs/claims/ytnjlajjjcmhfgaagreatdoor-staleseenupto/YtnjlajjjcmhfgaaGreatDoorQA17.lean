import Derived.Maps.RangeWalk
import Derived.Maps.OwnOps
import Derived.DeepKeys4
import Derived.Test.YtnjlajjjcmhfgaaGreatDoorQA35
import Derived.Test.YtnjlajjjcmhfgaaGreatDoorQA22
import Derived.Test.YtnjlajjjcmhfgaaGreatDoorQA16
namespace Go.Proofs.YtnjlajjjcmhfgaaGreatDoor
open Go.RowKit
open Mm (Turn)
open Go.Maps (Keyed)
set_option linter.unusedVariables false
set_option linter.unusedSimpArgs false
theorem lawI : Keyed Tryz.prog 3 := Maps.int_keyed Tryz.underlying3
theorem lawB : Keyed Tryz.prog 45 := Maps.Keyed.of_law (deep_law (m := 4) (by omega) (by kernel_rfl) (by kernel_rfl) (by kernel_rfl))
theorem wf64 {n : Int} (h1 : -9223372036854775808 ≤ n) (h2 : n ≤ 9223372036854775807) : (Lit.int .i64 n).wf = true := by
  simp only [Lit.wf, Bool.and_eq_true, decide_eq_true_eq]
  exact ⟨h1, h2⟩
theorem wfU {n : Int} (h1 : 0 ≤ n) (h2 : n < 18446744073709551616) : (Lit.int .u64 n).wf = true := by
  simp only [Lit.wf, Bool.and_eq_true, decide_eq_true_eq]
  exact ⟨h1, Int.le_of_lt_add_one h2⟩
theorem wfW {n : Int} (h1 : 0 ≤ n) (h2 : n < 4294967296) : (Lit.int .u32 n).wf = true := by
  simp only [Lit.wf, Bool.and_eq_true, decide_eq_true_eq]
  exact ⟨h1, Int.le_of_lt_add_one h2⟩
/-- The key that a block is. -/
def kB (b : Blo) : Lit := .string (keyBytes [.int .i64 b.asid, .int .i64 b.t.size, .int .u32 b.t.va, .int .u64 b.t.pa, .int .i64 b.t.dom, .int .i64 b.t.ap, .int .u32 b.t.bits, .bool b.t.ng, .bool b.t.xn])
theorem typesN : Tryz.prog.types.size = 320 := by kernel_rfl
theorem typesM : ∃ m, Tryz.prog.types.size = m + 4 := ⟨Tryz.prog.types.size - 4, by rw [typesN]⟩
theorem keyTB : Tryz.prog.keyType 45 = true := by
  unfold Program.keyType
  rw [typesN]
  kernel_rfl
theorem cellsB : Tryz.prog.cellsOf 45 = 9 := by kernel_rfl
theorem cellsT : Tryz.prog.cellsOf 43 = 8 := by kernel_rfl
theorem cellsL : Tryz.prog.cellsOf 41 = 4 := by kernel_rfl
theorem cellsI : Tryz.prog.cellsOf 3 = 1 := by kernel_rfl
theorem cellsW : Tryz.prog.cellsOf 32 = 1 := by kernel_rfl
theorem cellsU : Tryz.prog.cellsOf 35 = 1 := by kernel_rfl
theorem cellsO : Tryz.prog.cellsOf 4 = 1 := by kernel_rfl
theorem kl_struct {P : Program} {d : Nat} {t : TypeId} {cs : List Value} {fs : Array Field} (hu : P.underlying t = some (.struct fs)) (hl : cs.length = P.cellsOf t) (ha : fs.all (·.name != "_") = true) :
    P.keyLits (d + 1) t cs = (fs.toList.mapM fun f => P.keyLits d f.type ((cs.drop f.offset).take (P.cellsOf f.type))).map List.flatten := by
  conv => lhs; unfold Program.keyLits
  simp only [hu]
  rw [if_pos ⟨hl, ha⟩]
theorem kl_int {P : Program} {d : Nat} {t : TypeId} {q : IntKind} {n : Int} (hu : P.underlying t = some (.int q)) (hw : (Lit.int q n).wf = true) : P.keyLits (d + 1) t [.int q n] = some [.int q n] := by
  conv => lhs; unfold Program.keyLits
  simp only [hu]
  rw [if_pos (by simp [hw])]
theorem kl_bool {P : Program} {d : Nat} {t : TypeId} {n : Bool} (hu : P.underlying t = some .bool) : P.keyLits (d + 1) t [.bool n] = some [.bool n] := by
  conv => lhs; unfold Program.keyLits
  simp only [hu]
theorem keyB {b : Blo} (h : KOk b) : keyOf Tryz.prog 45 (.agg #[.int .i64 b.asid, .int .i64 b.t.size, .int .u32 b.t.va, .int .u64 b.t.pa, .int .i64 b.t.dom, .int .i64 b.t.ap, .int .u32 b.t.bits, .bool b.t.ng, .bool b.t.xn]) = some (kB b) := by
  have h1 := h.sa
  have h2 := h.dom
  have h3 := h.ap
  have h4 := h.sz
  have w1 := wf64 (n := b.asid) (by omega) (by omega)
  have w2 := wf64 (n := b.t.size) (by omega) (by omega)
  have w3 := wfW h.ok.va.1 h.ok.va.2
  have w4 := wfU h.ok.pa.1 h.ok.pa.2
  have w5 := wf64 (n := b.t.dom) (by omega) (by omega)
  have w6 := wf64 (n := b.t.ap) (by omega) (by omega)
  have w7 := wfW h.ok.bits.1 h.ok.bits.2
  obtain ⟨m, hm⟩ := typesM
  have hL : Tryz.prog.keyLits (m + 2 + 1) 41 [.int .i64 b.t.ap, .int .u32 b.t.bits, .bool b.t.ng, .bool b.t.xn] = some [.int .i64 b.t.ap, .int .u32 b.t.bits, .bool b.t.ng, .bool b.t.xn] := by
    rw [kl_struct Tryz.underlying41 (by rw [cellsL]; rfl) (by kernel_rfl)]
    simp only [List.mapM_cons, List.mapM_nil, cellsI, cellsW, cellsO, List.drop_zero, List.drop_succ_cons, List.take_succ_cons, List.take_zero]
    rw [kl_int (d := m + 1) Tryz.underlying3 w6, kl_int (d := m + 1) Tryz.underlying32 w7, kl_bool (d := m + 1) Tryz.underlying4, kl_bool (d := m + 1) Tryz.underlying4]
    rfl
  have hT : Tryz.prog.keyLits (m + 3 + 1) 43 ([.int .i64 (b.t).size, .int .u32 (b.t).va, .int .u64 (b.t).pa, .int .i64 (b.t).dom, .int .i64 (b.t).ap, .int .u32 (b.t).bits, .bool (b.t).ng, .bool (b.t).xn]) = some [.int .i64 b.t.size, .int .u32 b.t.va, .int .u64 b.t.pa, .int .i64 b.t.dom, .int .i64 b.t.ap, .int .u32 b.t.bits, .bool b.t.ng, .bool b.t.xn] := by
    rw [kl_struct Tryz.underlying43 (by rw [cellsT]; rfl) (by kernel_rfl)]
    simp only [List.mapM_cons, List.mapM_nil, cellsI, cellsW, cellsU, cellsL, List.drop_zero, List.drop_succ_cons, List.take_succ_cons, List.take_zero]
    rw [kl_int (d := m + 2) Tryz.underlying3 w2, kl_int (d := m + 2) Tryz.underlying32 w3, kl_int (d := m + 2) Tryz.underlying35 w4, kl_int (d := m + 2) Tryz.underlying3 w5, hL]
    rfl
  unfold keyOf
  simp only [Tryz.underlying45]
  rw [if_pos (by simp [keyTB, Value.formed, Tryz.underlying45, cellsB]), hm]
  show (Tryz.prog.keyLits (m + 4 + 1) 45 ([.int .i64 b.asid, .int .i64 b.t.size, .int .u32 b.t.va, .int .u64 b.t.pa, .int .i64 b.t.dom, .int .i64 b.t.ap, .int .u32 b.t.bits, .bool b.t.ng, .bool b.t.xn])).map _ = _
  rw [kl_struct Tryz.underlying45 (by rw [cellsB]; rfl) (by kernel_rfl)]
  simp only [List.mapM_cons, List.mapM_nil, cellsI, cellsT, List.drop_zero, List.drop_succ_cons, List.take_succ_cons, List.take_zero]
  rw [kl_int (d := m + 3) Tryz.underlying3 w1, hT]
  rfl
theorem kB_inj {a b : Blo} (ha : KOk a) (hb : KOk b) (h : kB a = kB b) : a = b := by
  have e := lawB.inj (keyB ha) (h ▸ keyB hb)
  obtain ⟨a0, a1, a2, a3, a4, a5, a6, a7, a8⟩ := a
  obtain ⟨b0, b1, b2, b3, b4, b5, b6, b7, b8⟩ := b
  simp only [Value.agg.injEq, Array.mk.injEq, List.cons.injEq, Value.int.injEq, true_and, and_true, Value.bool.injEq] at e
  obtain ⟨e0, e1, e2, e3, e4, e5, e6, e7, e8⟩ := e
  subst e0; subst e1; subst e2; subst e3; subst e4; subst e5; subst e6; subst e7; subst e8
  rfl
theorem kB_key {b : Blo} : WideAt.IsKeyLit (kB b) := by unfold kB; trivial
abbrev uE : Value → Option (DataW Unit × List MemPlace) := unitElem
/-- A map with these keys. -/
def KM (w : World) (kb : Nat) (K : List Blo) : Prop := ∃ n D, w.ownsMap Tryz.prog 45 uE kb n D ∧ ∀ l, Maps.has D l = true ↔ ∃ b ∈ K, l = kB b
/-- A range over it; T: what is still to come. -/
def KR (w : World) (kb r : Nat) (K T : List Blo) : Prop :=
  ∃ n D left cnt, w.ranges Tryz.prog 45 uE kb r n D left cnt ∧ (∀ l, Maps.has D l = true ↔ ∃ b ∈ K, l = kB b) ∧ ∀ l, left l = true ↔ ∃ b ∈ T, l = kB b
/-- How a judge reads. -/
def rH (v : Value) : Option (DataW Value × List MemPlace) := some (.held v, [])
def lJ (a : Int) : Lit := .int .i64 a
def JM (w : World) (jb : Nat) (J : Jud) : Prop :=
  ∃ n D, w.ownsMap Tryz.prog 3 rH jb n D ∧ (∀ l, Maps.has D l = true ↔ ∃ a c, J a = some c ∧ l = lJ a) ∧ ∀ a c, J a = some c → ∀ z, D.atKey (lJ a) z = .held (.agg #[.bool c.on, .bool c.tre, .bool c.afe, .int .i64 c.n, .bool c.pd0, .bool c.pd1, .int .u64 c.b0, .int .u64 c.b1, .int .u32 c.dacr, .int .u32 c.prrr, .int .u32 c.nmrr, .int .i64 c.asid])
def JR (w : World) (jb r : Nat) (J : Jud) (T : List Int) : Prop :=
  ∃ n D left cnt, w.ranges Tryz.prog 3 rH jb r n D left cnt ∧ (∀ l, Maps.has D l = true ↔ ∃ a c, J a = some c ∧ l = lJ a) ∧ (∀ a c, J a = some c → ∀ z, D.atKey (lJ a) z = .held (.agg #[.bool c.on, .bool c.tre, .bool c.afe, .int .i64 c.n, .bool c.pd0, .bool c.pd1, .int .u64 c.b0, .int .u64 c.b1, .int .u32 c.dacr, .int .u32 c.prrr, .int .u32 c.nmrr, .int .i64 c.asid])) ∧ ∀ l, left l = true ↔ ∃ a ∈ T, l = lJ a
theorem KM.lt {w : World} {kb : Nat} {K : List Blo} (h : KM w kb K) : kb < w.heap.size := by obtain ⟨n, D, h, _⟩ := h; exact h.lt
theorem JM.lt {w : World} {jb : Nat} {J : Jud} (h : JM w jb J) : jb < w.heap.size := by obtain ⟨n, D, h, _⟩ := h; exact h.lt
theorem KM.turn {w w' : World} {kb : Nat} {K : List Blo} {X : Nat → Prop} (h : KM w kb K) (T : Turn X w w') (hn : ¬ X kb) : KM w' kb K := by
  have hl := h.lt
  obtain ⟨n, D, ⟨es, cl, hb, r⟩, h2⟩ := h
  exact ⟨n, D, ⟨es, cl, (T.block kb hl hn).trans hb, r⟩, h2⟩
theorem JM.turn {w w' : World} {jb : Nat} {J : Jud} {X : Nat → Prop} (h : JM w jb J) (T : Turn X w w') (hn : ¬ X jb) : JM w' jb J := by
  have hl := h.lt
  obtain ⟨n, D, ⟨es, cl, hb, r⟩, h2⟩ := h
  exact ⟨n, D, ⟨es, cl, (T.block jb hl hn).trans hb, r⟩, h2⟩
theorem KR.lt {w : World} {kb r : Nat} {K T : List Blo} (h : KR w kb r K T) : r < w.heap.size ∧ kb < w.heap.size := by obtain ⟨n, D, l, c, h, _⟩ := h; exact ⟨h.lt, h.owns.lt⟩
theorem JR.lt {w : World} {jb r : Nat} {J : Jud} {T : List Int} (h : JR w jb r J T) : r < w.heap.size ∧ jb < w.heap.size := by obtain ⟨n, D, l, c, h, _⟩ := h; exact ⟨h.lt, h.owns.lt⟩
theorem KR.turn {w w' : World} {kb r : Nat} {K T : List Blo} {X : Nat → Prop} (h : KR w kb r K T) (hT : Turn X w w') (hn : ¬ X kb) (hr : ¬ X r) : KR w' kb r K T := by
  obtain ⟨l1, l2⟩ := h.lt
  obtain ⟨n, D, left, cnt, ⟨es, cl, since, seen, c0, hb, f, s, d, hi, rest⟩, h2⟩ := h
  exact ⟨n, D, left, cnt, ⟨es, cl, since, seen, c0, (hT.block kb l2 hn).trans hb, f, s, d, (hT.block r l1 hr).trans hi, rest⟩, h2⟩
theorem JR.turn {w w' : World} {jb r : Nat} {J : Jud} {T : List Int} {X : Nat → Prop} (h : JR w jb r J T) (hT : Turn X w w') (hn : ¬ X jb) (hr : ¬ X r) : JR w' jb r J T := by
  obtain ⟨l1, l2⟩ := h.lt
  obtain ⟨n, D, left, cnt, ⟨es, cl, since, seen, c0, hb, f, s, d, hi, rest⟩, h2⟩ := h
  exact ⟨n, D, left, cnt, ⟨es, cl, since, seen, c0, (hT.block jb l2 hn).trans hb, f, s, d, (hT.block r l1 hr).trans hi, rest⟩, h2⟩
theorem KR.km {w : World} {kb r : Nat} {K T : List Blo} (h : KR w kb r K T) : KM w kb K := by obtain ⟨n, D, l, c, h, h2, _⟩ := h; exact ⟨n, D, h.owns, h2⟩
theorem JR.jm {w : World} {jb r : Nat} {J : Jud} {T : List Int} (h : JR w jb r J T) : JM w jb J := by obtain ⟨n, D, l, c, h, h2, h3, _⟩ := h; exact ⟨n, D, h.owns, h2, h3⟩
theorem turn_left {w w' : World} {b r : Nat} {X : Nat → Prop} (hT : Turn X w w') (hb : b < w.heap.size) (hr : r < w.heap.size) (h1 : ¬ X b) (h2 : ¬ X r) : w'.rangeLeft b r = w.rangeLeft b r := by
  unfold World.rangeLeft
  rw [hT.block b hb h1, hT.block r hr h2]
/-- Keys that are a list's, each once: as many as the list has. -/
theorem keys_len {H α : Type} {es : List (Lit × DataW H)} {L : List α} {f : α → Lit} (hp : es.Pairwise (fun p q => p.1 ≠ q.1)) (hk : ∀ p ∈ es, WideAt.IsKeyLit p.1) (hn : L.Nodup) (hf : ∀ a ∈ L, ∀ b ∈ L, f a = f b → a = b)
    (h : ∀ l, Maps.has (.map es) l = true ↔ ∃ b ∈ L, l = f b) : es.length = L.length := by
  have h1 : (es.map (·.1)).Nodup := by
    unfold List.Nodup
    rw [List.pairwise_map]
    exact hp
  have h2 : (L.map f).Nodup := by
    unfold List.Nodup
    rw [List.pairwise_map]
    exact hn.imp_of_mem (fun ha hb hne e => hne (hf _ ha _ hb e))
  have h3 : ∀ x ∈ es.map (·.1), x ∈ L.map f := by
    intro x hx
    obtain ⟨p, hp', rfl⟩ := List.mem_map.1 hx
    obtain ⟨b, hb, e⟩ := (h p.1).1 (by
      rw [Maps.has_eq, List.any_eq_true]
      exact ⟨p, hp', WideAt.sameKey_self (hk p hp')⟩)
    exact List.mem_map.2 ⟨b, hb, e.symm⟩
  have h4 : ∀ x ∈ L.map f, x ∈ es.map (·.1) := by
    intro x hx
    obtain ⟨b, hb, rfl⟩ := List.mem_map.1 hx
    have := (h (f b)).2 ⟨b, hb, rfl⟩
    rw [Maps.has_eq, List.any_eq_true] at this
    obtain ⟨p, hp', e⟩ := this
    exact List.mem_map.2 ⟨p, hp', WideAt.sameKey_eq e⟩
  have g1 := nodup_len h1 h3
  have g2 := nodup_len h2 h4
  simp only [List.length_map] at g1 g2
  omega
theorem own_size {H α : Type} {k : TypeId} {R : Value → Option (DataW H × List MemPlace)} {w : World} {b n : Nat} {D : DataW H} {L : List α} {f : α → Lit} (h : w.ownsMap Tryz.prog k R b n D) (Kd : Keyed Tryz.prog k) (hn : L.Nodup) (hf : ∀ a ∈ L, ∀ b ∈ L, f a = f b → a = b)
    (hh : ∀ l, Maps.has D l = true ↔ ∃ b ∈ L, l = f b) : Maps.size D = L.length := by
  obtain ⟨es, rfl, hp, hk⟩ := h.entries Kd
  exact keys_len hp hk hn hf hh
theorem own_tight {H : Type} {k : TypeId} {R : Value → Option (DataW H × List MemPlace)} {w : World} {b n : Nat} {D : DataW H} (h : w.ownsMap Tryz.prog k R b n D) {N : Nat} (hN : Maps.size D ≤ N) : w.ownsMap Tryz.prog k R b N D := by
  obtain ⟨es, cl, hb, F, hs, rfl⟩ := h
  refine ⟨es, cl, hb, F, ?_, rfl⟩
  rwa [Maps.size_eq, length_sorted, List.length_map, Array.length_toList] at hN
/-- The size of a map of blocks. -/
theorem KM.size {w : World} {kb : Nat} {K : List Blo} (h : KM w kb K) (hn : K.Nodup) (hK : ∀ b ∈ K, KOk b) : ∃ D, w.ownsMap Tryz.prog 45 uE kb K.length D ∧ (∀ l, Maps.has D l = true ↔ ∃ b ∈ K, l = kB b) ∧ Maps.size D = K.length := by
  obtain ⟨n, D, h, hh⟩ := h
  have hs := own_size h lawB hn (fun a ha b hb e => kB_inj (hK a ha) (hK b hb) e) hh
  exact ⟨D, own_tight h (by omega), hh, hs⟩
theorem KM.made (w : World) : KM (w.alloc (.map #[] 0)) w.heap.size [] := ⟨0, .map [], World.ownsMap_made w _ _ _, fun l => by simp [Maps.has]⟩
theorem JM.made (w : World) : JM (w.alloc (.map #[] 0)) w.heap.size (fun _ => none) := ⟨0, .map [], World.ownsMap_made w _ _ _, fun l => by simp [Maps.has], fun a c h => by cases h⟩
/-- A block is laid in. -/
theorem KM.put {w : World} {kb : Nat} {K : List Blo} {b : Blo} (h : KM w kb K) (hn : K.Nodup) (hK : ∀ b ∈ K, KOk b) (hb : KOk b) (hl : K.length < 4611686018427387904) :
    ∃ w', (Instr.mapUpdate 115 (.map (some kb)) (.agg #[.int .i64 b.asid, .int .i64 b.t.size, .int .u32 b.t.va, .int .u64 b.t.pa, .int .i64 b.t.dom, .int .i64 b.t.ap, .int .u32 b.t.bits, .bool b.t.ng, .bool b.t.xn]) (.agg #[])).run Tryz.prog w = .ok () w' ∧ KM w' kb (adB K b) ∧ w.grownBy w' (some kb) := by
  obtain ⟨D, h1, h2, h3⟩ := h.size hn hK
  obtain ⟨w', hr, ho, hg⟩ := h1.update lawB Tryz.underlying115 (by unfold maxLen; omega) (keyB hb) unitElem_mk
  refine ⟨w', hr, ⟨_, _, ho, fun l => ?_⟩, hg⟩
  by_cases e : l = kB b
  · subst e
    rw [Maps.has_put_same h1.isMap kB_key]
    exact ⟨fun _ => ⟨b, (mem_adB K).2 (.inl rfl), rfl⟩, fun _ => rfl⟩
  · rw [Maps.has_put_other e, h2]
    constructor
    · rintro ⟨x, hx, rfl⟩
      exact ⟨x, (mem_adB K).2 (.inr hx), rfl⟩
    · rintro ⟨x, hx, rfl⟩
      rcases (mem_adB K).1 hx with rfl | hx
      · exact absurd rfl e
      · exact ⟨x, hx, rfl⟩
/-- The range begins. -/
theorem KM.range {w : World} {kb : Nat} {K : List Blo} (h : KM w kb K) :
    ∃ w', (Instr.range 115 (.map (some kb))).run Tryz.prog w = .ok (.pointer (some ⟨w.heap.size, 0, none⟩)) w' ∧ KR w' kb w.heap.size K K ∧ w.grownBy w' none ∧ w'.heap.size = w.heap.size + 1 := by
  obtain ⟨n, D, h1, h2⟩ := h
  obtain ⟨w', hr, g1, g2, g3⟩ := h1.range lawB Tryz.underlying115
  exact ⟨w', hr, ⟨n, D, _, _, g1, h2, h2⟩, g2, g3⟩
def rm (T : List Blo) (b : Blo) : List Blo := T.filter fun x => !x.same b
theorem mem_rm {T : List Blo} {b x : Blo} : x ∈ rm T b ↔ x ∈ T ∧ x ≠ b := by
  unfold rm
  rw [List.mem_filter]
  constructor
  · rintro ⟨h1, h2⟩
    exact ⟨h1, fun e => by rw [e, Blo.same_self] at h2; cases h2⟩
  · rintro ⟨h1, h2⟩
    refine ⟨h1, ?_⟩
    cases hc : x.same b with
    | false => rfl
    | true => exact absurd ((Blo.same_iff _ _).1 hc) h2
theorem left_rm {left : Lit → Bool} {T : List Blo} {b : Blo} (hT : ∀ x ∈ T, KOk x) (hb : KOk b) (h : ∀ l, left l = true ↔ ∃ b ∈ T, l = kB b) (l : Lit) : (left l && !l.sameKey (kB b)) = true ↔ ∃ x ∈ rm T b, l = kB x := by
  rw [Bool.and_eq_true, h]
  constructor
  · rintro ⟨⟨x, hx, rfl⟩, hne⟩
    refine ⟨x, mem_rm.2 ⟨hx, ?_⟩, rfl⟩
    rintro rfl
    rw [WideAt.sameKey_self kB_key] at hne
    cases hne
  · rintro ⟨x, hx, rfl⟩
    obtain ⟨h1, h2⟩ := mem_rm.1 hx
    refine ⟨⟨x, h1, rfl⟩, ?_⟩
    rw [Maps.sameKey_ne (fun e => h2 (kB_inj (hT x h1) hb e))]
    rfl
/-- The next entry. -/
theorem KR.next {w : World} {kb r : Nat} {K T : List Blo} (h : KR w kb r K T) (hT : ∀ x ∈ T, KOk x) (ty : TypeId) :
    (T = [] ∧ (Instr.next (.pointer (some ⟨r, 0, none⟩)) false ty).run Tryz.prog w = .ok (.tuple #[.bool false]) w) ∨
    ∃ b w', b ∈ T ∧ (Instr.next (.pointer (some ⟨r, 0, none⟩)) false ty).run Tryz.prog w = .ok (.tuple #[.bool true, .agg #[.int .i64 b.asid, .int .i64 b.t.size, .int .u32 b.t.va, .int .u64 b.t.pa, .int .i64 b.t.dom, .int .i64 b.t.ap, .int .u32 b.t.bits, .bool b.t.ng, .bool b.t.xn], .agg #[]]) w' ∧ KR w' kb r K (rm T b) ∧ w.grownBy w' (some r) ∧ w'.heap.size = w.heap.size ∧
      (Instr.entry (.pointer (some ⟨r, 0, none⟩))).run Tryz.prog w' = .ok (.tuple #[.agg #[.int .i64 b.asid, .int .i64 b.t.size, .int .u32 b.t.va, .int .u64 b.t.pa, .int .i64 b.t.dom, .int .i64 b.t.ap, .int .u32 b.t.bits, .bool b.t.ng, .bool b.t.xn], .agg #[]]) w' ∧ w'.rangeLeft kb r < w.rangeLeft kb r := by
  obtain ⟨n, D, left, cnt, h1, h2, h3⟩ := h
  rcases h1.next lawB ty with ⟨_, hl, hr⟩ | ⟨key, v, kl, y, w', cnt', hkey, hlk, hv, hat, hr, hrg, hlt, hg, hs, hen⟩
  · refine .inl ⟨?_, hr⟩
    cases T with
    | nil => rfl
    | cons b T =>
      have := (h3 (kB b)).2 ⟨b, .head _, rfl⟩
      rw [hl] at this
      cases this
  · obtain ⟨b, hb, rfl⟩ := (h3 kl).1 hlk
    have e := lawB.inj hkey (keyB (hT b hb))
    subst e
    obtain ⟨rfl, _⟩ := unitElem_inv hv
    refine .inr ⟨b, w', hb, hr, ⟨n, D, _, _, hrg, h2, left_rm hT (hT b hb) h3⟩, hg, hs, hen, ?_⟩
    rw [hrg.left_eq, h1.left_eq]
    exact hlt
/-- A block is taken out in a round. -/
theorem KR.drop {w : World} {kb r : Nat} {K T : List Blo} {b : Blo} (h : KR w kb r K T) (hK : ∀ x ∈ K, KOk x) (hT : ∀ x ∈ T, KOk x) (hb : KOk b) (ty : TypeId) :
    ∃ w', (Builtin.delete_ #[115, 45] ty #[.map (some kb), .agg #[.int .i64 b.asid, .int .i64 b.t.size, .int .u32 b.t.va, .int .u64 b.t.pa, .int .i64 b.t.dom, .int .i64 b.t.ap, .int .u32 b.t.bits, .bool b.t.ng, .bool b.t.xn]]).run Tryz.prog w = .ok (.tuple #[]) w' ∧ KR w' kb r (rm K b) (rm T b) ∧ w.grownBy w' (some kb) ∧ w'.rangeLeft kb r ≤ w.rangeLeft kb r := by
  obtain ⟨n, D, left, cnt, h1, h2, h3⟩ := h
  obtain ⟨w', cnt', hr, hrg, hle, hm⟩ := h1.drop lawB Tryz.underlying115 (keyB hb) ty
  refine ⟨w', hr, ⟨n, _, _, _, hrg, fun l => ?_, left_rm hT hb h3⟩, hm.grown, ?_⟩
  · by_cases e : l = kB b
    · subst e
      rw [Maps.has_del_same]
      constructor
      · intro h; cases h
      · rintro ⟨x, hx, e⟩
        obtain ⟨g1, g2⟩ := mem_rm.1 hx
        exact absurd (kB_inj (hK x g1) hb e.symm) g2
    · rw [Maps.has_del_other e, h2]
      constructor
      · rintro ⟨x, hx, rfl⟩
        exact ⟨x, mem_rm.2 ⟨hx, fun e' => e (by rw [e'])⟩, rfl⟩
      · rintro ⟨x, hx, rfl⟩
        exact ⟨x, (mem_rm.1 hx).1, rfl⟩
  · rw [hrg.left_eq, h1.left_eq]
    exact hle
end Go.Proofs.YtnjlajjjcmhfgaaGreatDoor
namespace Go.Proofs.YtnjlajjjcmhfgaaGreatDoor
open Go.RowKit
open Mm (Turn)
open Go.Maps (Keyed)
set_option linter.unusedVariables false
set_option linter.unusedSimpArgs false
/-- The zero context; the judge, or that. -/
def cZ : Ctx := ⟨false, false, false, 0, false, false, 0, 0, 0, 0, 0, 0⟩
def jd (J : Jud) (a : Int) : Ctx := (J a).getD cZ
theorem held_inj {a b : Value} (h : (DataW.held a : DataW Value) = .held b) : a = b := by injection h
theorem jd_some {J : Jud} {a : Int} {c : Ctx} (h : J a = some c) : jd J a = c := by unfold jd; rw [h]; rfl
theorem jd_none {J : Jud} {a : Int} (h : J a = none) : jd J a = cZ := by unfold jd; rw [h]; rfl
theorem zeroC (w : World) : (zeroValue 47).run Tryz.prog w = .ok (.agg #[.bool cZ.on, .bool cZ.tre, .bool cZ.afe, .int .i64 cZ.n, .bool cZ.pd0, .bool cZ.pd1, .int .u64 cZ.b0, .int .u64 cZ.b1, .int .u32 cZ.dacr, .int .u32 cZ.prrr, .int .u32 cZ.nmrr, .int .i64 cZ.asid]) w := by kernel_rfl
theorem lJ_key (a : Int) : WideAt.IsKeyLit (lJ a) := by unfold lJ; trivial
theorem lJ_inj {a b : Int} (h : lJ a = lJ b) : a = b := by unfold lJ at h; injection h
theorem keyJ {a : Int} (h1 : -9223372036854775808 ≤ a) (h2 : a ≤ 9223372036854775807) : keyOf Tryz.prog 3 (.int .i64 a) = some (lJ a) := Maps.keyOf_int_mk Tryz.underlying3 (wf64 h1 h2)
def jdom (J : Jud) : List Int := ((List.range 256).map fun (n : Nat) => (n : Int)).filter fun a => (J a).isSome
theorem mem_jdom {J : Jud} (hJ : JOk J) (a : Int) : a ∈ jdom J ↔ ∃ c, J a = some c := by
  unfold jdom
  rw [List.mem_filter, List.mem_map, Option.isSome_iff_exists]
  constructor
  · rintro ⟨_, h⟩; exact h
  · rintro ⟨c, hc⟩
    have := (hJ a c hc).1
    exact ⟨⟨a.toNat, List.mem_range.2 (by omega), by omega⟩, c, hc⟩
theorem jdom_nodup (J : Jud) : (jdom J).Nodup := by
  unfold jdom
  refine List.Pairwise.filter _ ?_
  rw [List.pairwise_map]
  exact (List.pairwise_lt_range (n := 256)).imp (fun {a b} h e => by omega)
theorem jdom_len (J : Jud) : (jdom J).length ≤ 256 := by
  have := List.length_filter_le (fun a => (J a).isSome) ((List.range 256).map fun (n : Nat) => (n : Int))
  simpa [jdom] using this
theorem JM.dom {w : World} {jb : Nat} {J : Jud} (h : JM w jb J) (hJ : JOk J) : ∃ D, w.ownsMap Tryz.prog 3 rH jb 256 D ∧ (∀ l, Maps.has D l = true ↔ ∃ a c, J a = some c ∧ l = lJ a) ∧ (∀ a c, J a = some c → ∀ z, D.atKey (lJ a) z = .held (.agg #[.bool c.on, .bool c.tre, .bool c.afe, .int .i64 c.n, .bool c.pd0, .bool c.pd1, .int .u64 c.b0, .int .u64 c.b1, .int .u32 c.dacr, .int .u32 c.prrr, .int .u32 c.nmrr, .int .i64 c.asid])) := by
  obtain ⟨n, D, h1, h2, h3⟩ := h
  have hs := own_size (L := jdom J) (f := lJ) h1 lawI (jdom_nodup J) (fun a _ b _ e => lJ_inj e) (fun l => by
    rw [h2]
    constructor
    · rintro ⟨a, c, h, e⟩; exact ⟨a, (mem_jdom hJ a).2 ⟨c, h⟩, e⟩
    · rintro ⟨a, ha, e⟩
      obtain ⟨c, hc⟩ := (mem_jdom hJ a).1 ha
      exact ⟨a, c, hc, e⟩)
  have := jdom_len J
  exact ⟨D, own_tight h1 (by omega), h2, h3⟩
/-- A judge is laid in. -/
theorem JM.put {w : World} {jb : Nat} {J : Jud} {a : Int} {c : Ctx} (h : JM w jb J) (hJ : JOk J) (ha : 0 ≤ a ∧ a ≤ 255) :
    ∃ w', (Instr.mapUpdate 116 (.map (some jb)) (.int .i64 a) (.agg #[.bool c.on, .bool c.tre, .bool c.afe, .int .i64 c.n, .bool c.pd0, .bool c.pd1, .int .u64 c.b0, .int .u64 c.b1, .int .u32 c.dacr, .int .u32 c.prrr, .int .u32 c.nmrr, .int .i64 c.asid])).run Tryz.prog w = .ok () w' ∧ JM w' jb (setJ J a c) ∧ w.grownBy w' (some jb) := by
  obtain ⟨D, h1, h2, h3⟩ := h.dom hJ
  obtain ⟨w', hr, ho, hg⟩ := h1.update lawI Tryz.underlying116 (by unfold maxLen; omega) (keyJ (a := a) (by omega) (by omega)) (show rH (.agg #[.bool c.on, .bool c.tre, .bool c.afe, .int .i64 c.n, .bool c.pd0, .bool c.pd1, .int .u64 c.b0, .int .u64 c.b1, .int .u32 c.dacr, .int .u32 c.prrr, .int .u32 c.nmrr, .int .i64 c.asid]) = some (.held (.agg #[.bool c.on, .bool c.tre, .bool c.afe, .int .i64 c.n, .bool c.pd0, .bool c.pd1, .int .u64 c.b0, .int .u64 c.b1, .int .u32 c.dacr, .int .u32 c.prrr, .int .u32 c.nmrr, .int .i64 c.asid]), []) from rfl)
  refine ⟨w', hr, ⟨_, _, ho, fun l => ?_, fun x d hd z => ?_⟩, hg⟩
  · by_cases e : l = lJ a
    · subst e
      rw [Maps.has_put_same h1.isMap (lJ_key a)]
      exact ⟨fun _ => ⟨a, c, by simp [setJ], rfl⟩, fun _ => rfl⟩
    · rw [Maps.has_put_other e, h2]
      constructor
      · rintro ⟨x, d, hx, rfl⟩
        exact ⟨x, d, by unfold setJ; rw [if_neg (fun q => e (by rw [q]))]; exact hx, rfl⟩
      · rintro ⟨x, d, hx, rfl⟩
        unfold setJ at hx
        rw [if_neg (fun q => e (by rw [q]))] at hx
        exact ⟨x, d, hx, rfl⟩
  · unfold setJ at hd
    split at hd
    · rename_i e
      subst e
      cases hd
      exact Maps.atKey_put_same h1.isMap (lJ_key x) _ z
    · rename_i e
      rw [Maps.atKey_put_other (fun q => e (lJ_inj q))]
      exact h3 x d hd z
/-- A judge is looked up. -/
theorem JM.look {w : World} {jb : Nat} {J : Jud} {a : Int} (h : JM w jb J) (h1 : -9223372036854775808 ≤ a) (h2 : a ≤ 9223372036854775807) :
    (Instr.lookup 116 (.map (some jb)) (.int .i64 a) true).run Tryz.prog w = .ok (.tuple #[.agg #[.bool ((jd J a)).on, .bool ((jd J a)).tre, .bool ((jd J a)).afe, .int .i64 ((jd J a)).n, .bool ((jd J a)).pd0, .bool ((jd J a)).pd1, .int .u64 ((jd J a)).b0, .int .u64 ((jd J a)).b1, .int .u32 ((jd J a)).dacr, .int .u32 ((jd J a)).prrr, .int .u32 ((jd J a)).nmrr, .int .i64 ((jd J a)).asid], .bool (J a).isSome]) w := by
  obtain ⟨n, D, g1, g2, g3⟩ := h
  obtain ⟨v, ps, hr, hv⟩ := g1.look_ok lawI Tryz.underlying116 (zeroC w) (show rH (.agg #[.bool cZ.on, .bool cZ.tre, .bool cZ.afe, .int .i64 cZ.n, .bool cZ.pd0, .bool cZ.pd1, .int .u64 cZ.b0, .int .u64 cZ.b1, .int .u32 cZ.dacr, .int .u32 cZ.prrr, .int .u32 cZ.nmrr, .int .i64 cZ.asid]) = some (.held (.agg #[.bool cZ.on, .bool cZ.tre, .bool cZ.afe, .int .i64 cZ.n, .bool cZ.pd0, .bool cZ.pd1, .int .u64 cZ.b0, .int .u64 cZ.b1, .int .u32 cZ.dacr, .int .u32 cZ.prrr, .int .u32 cZ.nmrr, .int .i64 cZ.asid]), []) from rfl) (keyJ h1 h2)
  rw [hr]
  simp only [rH, Option.some.injEq, Prod.mk.injEq] at hv
  cases hj : J a with
  | some c =>
    rw [g3 a c hj] at hv
    have hv := held_inj hv.1
    have hh : Maps.has D (lJ a) = true := (g2 _).2 ⟨a, c, hj, rfl⟩
    rw [hh, hv, jd_some hj]
    rfl
  | none =>
    have hh : Maps.has D (lJ a) = false := by
      cases hc : Maps.has D (lJ a) with
      | false => rfl
      | true =>
        obtain ⟨x, d, hx, e⟩ := (g2 _).1 hc
        rw [← lJ_inj e, hj] at hx
        cases hx
    rw [Maps.atKey_of_not_has hh] at hv
    have hv := held_inj hv.1
    rw [hh, hv, jd_none hj]
    rfl
theorem JM.get {w : World} {jb : Nat} {J : Jud} {a : Int} (h : JM w jb J) (h1 : -9223372036854775808 ≤ a) (h2 : a ≤ 9223372036854775807) :
    (Instr.lookup 116 (.map (some jb)) (.int .i64 a) false).run Tryz.prog w = .ok (.agg #[.bool ((jd J a)).on, .bool ((jd J a)).tre, .bool ((jd J a)).afe, .int .i64 ((jd J a)).n, .bool ((jd J a)).pd0, .bool ((jd J a)).pd1, .int .u64 ((jd J a)).b0, .int .u64 ((jd J a)).b1, .int .u32 ((jd J a)).dacr, .int .u32 ((jd J a)).prrr, .int .u32 ((jd J a)).nmrr, .int .i64 ((jd J a)).asid]) w := by
  obtain ⟨n, D, g1, g2, g3⟩ := h
  obtain ⟨v, ps, hr, hv⟩ := g1.lookup lawI Tryz.underlying116 (zeroC w) (show rH (.agg #[.bool cZ.on, .bool cZ.tre, .bool cZ.afe, .int .i64 cZ.n, .bool cZ.pd0, .bool cZ.pd1, .int .u64 cZ.b0, .int .u64 cZ.b1, .int .u32 cZ.dacr, .int .u32 cZ.prrr, .int .u32 cZ.nmrr, .int .i64 cZ.asid]) = some (.held (.agg #[.bool cZ.on, .bool cZ.tre, .bool cZ.afe, .int .i64 cZ.n, .bool cZ.pd0, .bool cZ.pd1, .int .u64 cZ.b0, .int .u64 cZ.b1, .int .u32 cZ.dacr, .int .u32 cZ.prrr, .int .u32 cZ.nmrr, .int .i64 cZ.asid]), []) from rfl) (keyJ h1 h2)
  rw [hr]
  simp only [rH, Option.some.injEq, Prod.mk.injEq] at hv
  cases hj : J a with
  | some c =>
    rw [g3 a c hj] at hv
    have hv := held_inj hv.1
    rw [hv, jd_some hj]
  | none =>
    have hh : Maps.has D (lJ a) = false := by
      cases hc : Maps.has D (lJ a) with
      | false => rfl
      | true =>
        obtain ⟨x, d, hx, e⟩ := (g2 _).1 hc
        rw [← lJ_inj e, hj] at hx
        cases hx
    rw [Maps.atKey_of_not_has hh] at hv
    have hv := held_inj hv.1
    rw [hv, jd_none hj]
theorem JM.range {w : World} {jb : Nat} {J : Jud} (h : JM w jb J) (hJ : JOk J) :
    ∃ w', (Instr.range 116 (.map (some jb))).run Tryz.prog w = .ok (.pointer (some ⟨w.heap.size, 0, none⟩)) w' ∧ JR w' jb w.heap.size J (jdom J) ∧ w.grownBy w' none ∧ w'.heap.size = w.heap.size + 1 := by
  obtain ⟨n, D, h1, h2, h3⟩ := h
  obtain ⟨w', hr, g1, g2, g3⟩ := h1.range lawI Tryz.underlying116
  refine ⟨w', hr, ⟨n, D, _, _, g1, h2, h3, fun l => ?_⟩, g2, g3⟩
  rw [h2]
  constructor
  · rintro ⟨a, c, h, e⟩; exact ⟨a, (mem_jdom hJ a).2 ⟨c, h⟩, e⟩
  · rintro ⟨a, ha, e⟩
    obtain ⟨c, hc⟩ := (mem_jdom hJ a).1 ha
    exact ⟨a, c, hc, e⟩
def rmI (T : List Int) (a : Int) : List Int := T.filter fun x => !(x == a)
theorem mem_rmI {T : List Int} {a x : Int} : x ∈ rmI T a ↔ x ∈ T ∧ x ≠ a := by simp [rmI, List.mem_filter]
theorem JR.next {w : World} {jb r : Nat} {J : Jud} {T : List Int} (h : JR w jb r J T) (hJ : JOk J) (hT : ∀ a ∈ T, ∃ c, J a = some c) (ty : TypeId) :
    (T = [] ∧ (Instr.next (.pointer (some ⟨r, 0, none⟩)) false ty).run Tryz.prog w = .ok (.tuple #[.bool false]) w) ∨
    ∃ a w', a ∈ T ∧ (Instr.next (.pointer (some ⟨r, 0, none⟩)) false ty).run Tryz.prog w = .ok (.tuple #[.bool true, .int .i64 a, .agg #[.bool ((jd J a)).on, .bool ((jd J a)).tre, .bool ((jd J a)).afe, .int .i64 ((jd J a)).n, .bool ((jd J a)).pd0, .bool ((jd J a)).pd1, .int .u64 ((jd J a)).b0, .int .u64 ((jd J a)).b1, .int .u32 ((jd J a)).dacr, .int .u32 ((jd J a)).prrr, .int .u32 ((jd J a)).nmrr, .int .i64 ((jd J a)).asid]]) w' ∧ JR w' jb r J (rmI T a) ∧ w.grownBy w' (some r) ∧ w'.heap.size = w.heap.size ∧
      (Instr.entry (.pointer (some ⟨r, 0, none⟩))).run Tryz.prog w' = .ok (.tuple #[.int .i64 a, .agg #[.bool ((jd J a)).on, .bool ((jd J a)).tre, .bool ((jd J a)).afe, .int .i64 ((jd J a)).n, .bool ((jd J a)).pd0, .bool ((jd J a)).pd1, .int .u64 ((jd J a)).b0, .int .u64 ((jd J a)).b1, .int .u32 ((jd J a)).dacr, .int .u32 ((jd J a)).prrr, .int .u32 ((jd J a)).nmrr, .int .i64 ((jd J a)).asid]]) w' ∧ w'.rangeLeft jb r < w.rangeLeft jb r := by
  obtain ⟨n, D, left, cnt, h1, h2, h3, h4⟩ := h
  rcases h1.next lawI ty with ⟨_, hl, hr⟩ | ⟨key, v, kl, y, w', cnt', hkey, hlk, hv, hat, hr, hrg, hlt, hg, hs, hen⟩
  · refine .inl ⟨?_, hr⟩
    cases T with
    | nil => rfl
    | cons a T =>
      have := (h4 (lJ a)).2 ⟨a, .head _, rfl⟩
      rw [hl] at this
      cases this
  · obtain ⟨a, ha, rfl⟩ := (h4 kl).1 hlk
    obtain ⟨c, hc⟩ := hT a ha
    have hb := (hJ a c hc).1
    have e := lawI.inj hkey (keyJ (a := a) (by omega) (by omega))
    subst e
    have e2 : v = .agg #[.bool ((jd J a)).on, .bool ((jd J a)).tre, .bool ((jd J a)).afe, .int .i64 ((jd J a)).n, .bool ((jd J a)).pd0, .bool ((jd J a)).pd1, .int .u64 ((jd J a)).b0, .int .u64 ((jd J a)).b1, .int .u32 ((jd J a)).dacr, .int .u32 ((jd J a)).prrr, .int .u32 ((jd J a)).nmrr, .int .i64 ((jd J a)).asid] := by
      have h5 := h3 a c hc .nil
      rw [hat] at h5
      simp only [rH, Option.some.injEq] at hv
      rw [← hv] at h5
      have h5 := held_inj h5
      rw [h5, jd_some hc]
    subst e2
    refine .inr ⟨a, w', ha, hr, ⟨n, D, _, _, hrg, h2, h3, fun l => ?_⟩, hg, hs, hen, ?_⟩
    · rw [Bool.and_eq_true, h4]
      constructor
      · rintro ⟨⟨x, hx, rfl⟩, hne⟩
        refine ⟨x, mem_rmI.2 ⟨hx, ?_⟩, rfl⟩
        rintro rfl
        rw [WideAt.sameKey_self (lJ_key x)] at hne
        cases hne
      · rintro ⟨x, hx, rfl⟩
        obtain ⟨g1, g2⟩ := mem_rmI.1 hx
        refine ⟨⟨x, g1, rfl⟩, ?_⟩
        rw [Maps.sameKey_ne (fun e => g2 (lJ_inj e))]
        rfl
    · rw [hrg.left_eq, h1.left_eq]
      exact hlt
/-- A tracker. -/
structure PK (w : World) (p kb jb : Nat) (K : List Blo) (J : Jud) : Prop where
  box : Bl w p 118 [.map (some kb), .map (some jb)]
  km : KM w kb K
  jm : JM w jb J
  ne : kb ≠ jb
  ok : TrOk K J
section
variable {w w' : World} {p kb jb : Nat} {K : List Blo} {J : Jud} {X : Nat → Prop}
theorem PK.nek (h : PK w p kb jb K J) : p ≠ kb := by
  rintro rfl
  obtain ⟨n, D, ⟨es, cl, hb, _⟩, _⟩ := h.km
  have := h.box
  rw [show w.heap[p]? = _ from this] at hb
  cases hb
theorem PK.nej (h : PK w p kb jb K J) : p ≠ jb := by
  rintro rfl
  obtain ⟨n, D, ⟨es, cl, hb, _⟩, _⟩ := h.jm
  have := h.box
  rw [show w.heap[p]? = _ from this] at hb
  cases hb
theorem PK.turn (h : PK w p kb jb K J) (T : Turn X w w') (h1 : ¬ X p) (h2 : ¬ X kb) (h3 : ¬ X jb) : PK w' p kb jb K J := ⟨h.box.turn T h1, h.km.turn T h2, h.jm.turn T h3, h.ne, h.ok⟩
theorem PK.below (h : PK w p kb jb K J) (hb : Below w.heap.size w w') : PK w' p kb jb K J := h.turn (X := fun _ => False) (Turn.below hb) (fun h => h) (fun h => h) (fun h => h)
theorem PK.drew (h : PK w p kb jb K J) : PK w.drew p kb jb K J := h.turn (X := fun _ => False) (Turn.drewN (Turn.refl _ w) 1) (fun h => h) (fun h => h) (fun h => h)
theorem PK.lt (h : PK w p kb jb K J) : p < w.heap.size ∧ kb < w.heap.size ∧ jb < w.heap.size := ⟨h.box.lt, h.km.lt, h.jm.lt⟩
theorem PK.c0 (h : PK w p kb jb K J) : w.cell? ⟨p, 0, none⟩ = some (.map (some kb)) := h.box.cell 0
theorem PK.c1 (h : PK w p kb jb K J) : w.cell? ⟨p, 1, none⟩ = some (.map (some jb)) := h.box.cell 1
end
set_option maxHeartbeats 1000000 in
theorem knew_any (w : World) : Calls Tryz.prog 40 #[] w fun e w' => e = .returned (.pointer (some ⟨w.heap.size + 2, 0, none⟩)) ∧ PK w' (w.heap.size + 2) w.heap.size (w.heap.size + 1) [] (fun _ => none) ∧ Below w.heap.size w w' := by
  have hmm := @run_makeMap Tryz.prog
  have H1 := hidW (KM.made w)
  have H2 : Hid (JM ((w.alloc (.map #[] 0)).alloc (.map #[] 0)) (w.heap.size + 1) (fun _ => none)) := by
    have h := JM.made (w.alloc (.map #[] 0))
    rw [show (w.alloc (.map #[] 0)).heap.size = w.heap.size + 1 by simp] at h
    exact h
  have H3 : Hid (Bl (((w.alloc (.map #[] 0)).alloc (.map #[] 0)).alloc (.cells #[.map (some w.heap.size), .map (some (w.heap.size + 1))] 118)) (w.heap.size + 2) 118 [.map (some w.heap.size), .map (some (w.heap.size + 1))]) := by
    have h := Bl.new ((w.alloc (.map #[] 0)).alloc (.map #[] 0)) 118 [.map (some w.heap.size), .map (some (w.heap.size + 1))]
    rw [show ((w.alloc (.map #[] 0)).alloc (.map #[] 0)).heap.size = w.heap.size + 2 by simp] at h
    exact h
  go_enter Tryz.func40, Tryz.ntmps40
  go_wp2
  go_ret
  refine ⟨rfl, ⟨H3.out, ?_, ?_, by omega, TrOk.nil⟩, ?_⟩
  · exact (H1.out.turn (X := fun _ => False) (Turn.below (below_new _ _)) (fun h => h)).turn (X := fun _ => False) (Turn.below (below_new _ _)) (fun h => h)
  · exact H2.out.turn (X := fun _ => False) (Turn.below (below_new _ _)) (fun h => h)
  · exact Below.step (Below.step (below_new _ _) (below_new _ _)) (below_new _ _)
set_option maxHeartbeats 1000000 in
theorem blockOf_any (t : Tra) (a : Int) (w : World) : Calls Tryz.prog 56 #[.agg #[.int .i64 t.size, .int .u32 t.va, .int .u64 t.pa, .int .i64 t.dom, .int .i64 t.ap, .int .u32 t.bits, .bool t.ng, .bool t.xn], .int .i64 a] w fun e w' => e = .returned (.agg #[.int .i64 ((tgB a t)).asid, .int .i64 ((tgB a t)).t.size, .int .u32 ((tgB a t)).t.va, .int .u64 ((tgB a t)).t.pa, .int .i64 ((tgB a t)).t.dom, .int .i64 ((tgB a t)).t.ap, .int .u32 ((tgB a t)).t.bits, .bool ((tgB a t)).t.ng, .bool ((tgB a t)).t.xn]) ∧ Below w.heap.size w w' := by
  obtain ⟨t1, t2, t3, t4, t5, t6, t7, t8⟩ := t
  cases t7
  all_goals
    go_enter Tryz.func56, Tryz.ntmps56
    go_wp2
    refine bodyPost_ret (by simp [results, Tryz.results56, go_sem]; rfl) rfl ⟨by simp [tgB], ?_⟩
    (repeat (first | refine Below.setCell ?_ (by simp) _ | refine Below.alloc ?_ (by simp) _)); exact Below.refl _ _
end Go.Proofs.YtnjlajjjcmhfgaaGreatDoor

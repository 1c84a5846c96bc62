import Derived.Test.YtnjlajjjcmhfgaaGreatDoorQA17
import Derived.Test.YtnjlajjjcmhfgaaGreatDoorQA26
import Derived.Deep.RegionHeld3
namespace Go.Proofs.YtnjlajjjcmhfgaaGreatDoor
open Go.RowKit
open Mm (Turn)
set_option linter.unusedVariables false
set_option linter.unusedSimpArgs false
/-- A block that is no table: its first cell is no number. -/
def Nt (w : World) (x : Nat) : Prop := ∀ k i, w.cell? ⟨x, 0, none⟩ ≠ some (.int k i)
theorem Tb.turnM {k : IntKind} {S : Nat → Prop} {w w' : World} {g : Nat} {a : Int} {l : List Int} (h : Tb k w g (a :: l)) (hT : Turn S w w') (hS : ∀ x, S x → x < w.heap.size → Nt w x) : Tb k w' g (a :: l) := by
  have h0 := h 0 a rfl
  have hlt := cell_lt h0
  have hn : ¬ S g := fun hs => hS g hs hlt _ _ h0
  intro i v hv
  rw [← h i v hv, World.cell?, World.cell?, hT.block g hlt hn]
theorem TR.turnM {S : Nat → Prop} {w w' : World} (h : TR w) (hT : Turn S w w') (hS : ∀ x, S x → x < w.heap.size → Nt w x) : TR w' :=
  ⟨⟨⟨⟨Tb.turnM h.first hT hS, Tb.turnM h.second hT hS, Tb.turnM h.base hT hS, Tb.turnM h.leaf hT hS⟩, Tb.turnM h.tags hT hS⟩, Tb.turnM h.size hT hS⟩, Tb.turnM h.kind hT hS⟩
theorem TS.turnM {S : Nat → Prop} {w w' : World} (h : TS w) (hT : Turn S w w') (hS : ∀ x, S x → x < w.heap.size → Nt w x) : TS w' :=
  ⟨h.r.turnM hT hS, ⟨Tb.turnM h.z.base hT hS, Tb.turnM h.z.kind hT hS, Tb.turnM h.z.rep hT hS⟩⟩
theorem KM.nt {w : World} {kb : Nat} {K : List Blo} (h : KM w kb K) : Nt w kb := by
  obtain ⟨n, D, ⟨es, cl, hb, _⟩, _⟩ := h
  intro k i e
  simp [World.cell?, hb] at e
theorem JM.nt {w : World} {jb : Nat} {J : Jud} (h : JM w jb J) : Nt w jb := by
  obtain ⟨n, D, ⟨es, cl, hb, _⟩, _⟩ := h
  intro k i e
  simp [World.cell?, hb] at e
/-- What a list without repeats is without one of its members. -/
theorem rm_perm {b : Blo} : ∀ {T : List Blo}, T.Nodup → b ∈ T → T.Perm (b :: rm T b)
  | [], _, h => by cases h
  | x :: T, hn, h => by
    have h1 := List.pairwise_cons.1 hn
    by_cases e : x = b
    · subst e
      have : rm (x :: T) x = T := by
        unfold rm
        rw [List.filter_cons, Blo.same_self]
        simp only [Bool.not_true, Bool.false_eq_true, if_false]
        refine List.filter_eq_self.2 (fun y hy => ?_)
        cases hc : y.same x with
        | false => rfl
        | true => exact absurd ((Blo.same_iff _ _).1 hc).symm (h1.1 y hy)
      rw [this]
    · have hb : b ∈ T := by
        rcases List.mem_cons.1 h with h | h
        · exact absurd h.symm e
        · exact h
      have ih := rm_perm h1.2 hb
      have : rm (x :: T) b = x :: rm T b := by
        unfold rm
        rw [List.filter_cons]
        have : x.same b = false := by
          cases hc : x.same b with
          | false => rfl
          | true => exact absurd ((Blo.same_iff _ _).1 hc) e
        rw [this]
        rfl
      rw [this]
      exact (ih.cons x).trans (List.Perm.swap _ _ _)
theorem rm_nodup {T : List Blo} (h : T.Nodup) (b : Blo) : (rm T b).Nodup := List.Pairwise.filter _ h
/-- What is known in a Drop, T still to come. -/
def inT (T : List Blo) (x : Blo) : Bool := T.any fun y => y.same x
theorem inT_iff {T : List Blo} {x : Blo} : inT T x = true ↔ x ∈ T := by
  unfold inT
  rw [List.any_eq_true]
  constructor
  · rintro ⟨y, hy, e⟩
    rw [← (Blo.same_iff _ _).1 e]
    exact hy
  · intro h
    exact ⟨x, h, Blo.same_self x⟩
def cuD (d : Dro) (K T : List Blo) : List Blo := K.filter fun x => !tkF d x || inT T x
theorem cuD_all (d : Dro) (K : List Blo) : cuD d K K = K := List.filter_eq_self.2 (fun x hx => by rw [inT_iff.2 hx]; simp)
theorem cuD_none (d : Dro) (K : List Blo) : cuD d K [] = drK d K := by
  unfold cuD drK
  exact List.filter_congr (fun x _ => by simp [inT])
theorem inT_rm {T : List Blo} {b x : Blo} : inT (rm T b) x = (inT T x && !x.same b) := by
  rw [Bool.eq_iff_iff, inT_iff, mem_rm, Bool.and_eq_true, inT_iff]
  constructor
  · rintro ⟨h1, h2⟩
    refine ⟨h1, ?_⟩
    cases hc : x.same b with
    | false => rfl
    | true => exact absurd ((Blo.same_iff _ _).1 hc) h2
  · rintro ⟨h1, h2⟩
    exact ⟨h1, fun e => by rw [e, Blo.same_self] at h2; cases h2⟩
theorem cuD_take {d : Dro} {K T : List Blo} {b : Blo} (h : tkF d b = true) : rm (cuD d K T) b = cuD d K (rm T b) := by
  unfold rm cuD
  rw [List.filter_filter]
  refine List.filter_congr (fun x _ => ?_)
  rw [show (List.filter (fun x => !x.same b) T) = rm T b from rfl, inT_rm]
  cases hs : x.same b with
  | true =>
    have := (Blo.same_iff _ _).1 hs
    subst this
    simp [h]
  | false => simp
theorem cuD_leave {d : Dro} {K T : List Blo} {b : Blo} (h : tkF d b = false) : cuD d K T = cuD d K (rm T b) := by
  unfold cuD
  refine List.filter_congr (fun x _ => ?_)
  rw [inT_rm]
  cases hs : x.same b with
  | true =>
    have := (Blo.same_iff _ _).1 hs
    subst this
    simp [h]
  | false => simp
theorem count_rm {d : Dro} {T : List Blo} {b : Blo} (hn : T.Nodup) (hb : b ∈ T) : T.countP (tkF d) = (rm T b).countP (tkF d) + (if tkF d b = true then 1 else 0) := by
  rw [(rm_perm hn hb).countP_eq, List.countP_cons]
/-- A Drop under way. -/
structure DX (W wr : World) (p kb jb r bd : Nat) (K T : List Blo) (J : Jud) (d : Dro) (c : Nat) : Prop where
  trn : Turn (· = kb) W wr
  box : Bl wr p 118 [.map (some kb), .map (some jb)]
  kr : KR wr kb r (cuD d K T) T
  jm : JM wr jb J
  bd : Bl wr bd 34 ([.int .i64 d.kind, .int .u32 d.va, .int .i64 d.asid])
  tr : TR wr
  sub : ∀ b ∈ T, b ∈ K
  nod : T.Nodup
  cnt : c + T.countP (tkF d) = K.countP (tkF d)
section
variable {W wr w' : World} {p kb jb r bd : Nat} {K T : List Blo} {J : Jud} {d : Dro} {c : Nat}
theorem DX.below (h : DX W wr p kb jb r bd K T J d c) (hb : Below wr.heap.size wr w') : DX W w' p kb jb r bd K T J d c :=
  ⟨h.trn.then (Turn.below hb), h.box.below hb, h.kr.turn (X := fun _ => False) (Turn.below hb) (fun h => h) (fun h => h), h.jm.turn (X := fun _ => False) (Turn.below hb) (fun h => h), h.bd.below hb, h.tr.below hb, h.sub, h.nod, h.cnt⟩
end
end Go.Proofs.YtnjlajjjcmhfgaaGreatDoor
namespace Go.Proofs.YtnjlajjjcmhfgaaGreatDoor
open Go.RowKit
open Mm (Turn)
set_option linter.unusedVariables false
set_option linter.unusedSimpArgs false
theorem DX.next {W wr w' : World} {p kb jb r bd : Nat} {K T : List Blo} {J : Jud} {d : Dro} {c : Nat} {b : Blo} (h : DX W wr p kb jb r bd K T J d c) (hr : W.heap.size ≤ r) (hg : wr.grownBy w' (some r)) (hk : KR w' kb r (cuD d K T) (rm T b)) (hp : p ≠ r) (hj : jb ≠ r) (hd : bd ≠ r) (hR : Nt wr r) :
    Turn (· = kb) W w' ∧ Bl w' p 118 [.map (some kb), .map (some jb)] ∧ JM w' jb J ∧ Bl w' bd 34 ([.int .i64 d.kind, .int .u32 d.va, .int .i64 d.asid]) ∧ TR w' := by
  have T1 : Turn (· = r) wr w' := Turn.grown hg (fun k e => by cases e; exact .inl rfl)
  refine ⟨h.trn.trans T1 (fun x hx => .inr (by omega)), h.box.turn T1 hp, h.jm.turn T1 hj, h.bd.turn T1 hd, h.tr.turnM T1 (fun x hx _ => by subst hx; exact hR)⟩
theorem KR.nt {w : World} {kb r : Nat} {K T : List Blo} (h : KR w kb r K T) : Nt w r ∧ (∀ c e f, w.heap[r]? ≠ some (.cells c e f)) ∧ ∀ es cl, w.heap[r]? ≠ some (.map es cl) := by
  obtain ⟨n, D, left, cnt, ⟨es, cl, since, seen, c0, hb, f, s, d, hi, rest⟩, h2⟩ := h
  refine ⟨fun k i e => ?_, fun c e f h => ?_, fun es cl h => ?_⟩
  · simp [World.cell?, hi] at e
  · rw [hi] at h; cases h
  · rw [hi] at h; cases h
theorem Bl.nr {w : World} {kb r b : Nat} {K T : List Blo} {t : TypeId} {l : List Value} (h : KR w kb r K T) (hb : Bl w b t l) : b ≠ r := by
  rintro rfl
  exact h.nt.2.1 _ _ _ hb
theorem JM.nr {w : World} {kb r jb : Nat} {K T : List Blo} {J : Jud} (h : KR w kb r K T) (hj : JM w jb J) : jb ≠ r := by
  rintro rfl
  obtain ⟨n, D, ⟨es, cl, hb, _⟩, _⟩ := hj
  exact h.nt.2.2 _ _ hb
/-- A round of it: b has come. -/
structure DY (W wr : World) (p kb jb r bd bb : Nat) (K T : List Blo) (J : Jud) (d : Dro) (c : Nat) (b : Blo) : Prop where
  trn : Turn (· = kb) W wr
  box : Bl wr p 118 [.map (some kb), .map (some jb)]
  kr : KR wr kb r (cuD d K T) (rm T b)
  jm : JM wr jb J
  bd : Bl wr bd 34 ([.int .i64 d.kind, .int .u32 d.va, .int .i64 d.asid])
  bb : Bl wr bb 45 ([.int .i64 b.asid, .int .i64 b.t.size, .int .u32 b.t.va, .int .u64 b.t.pa, .int .i64 b.t.dom, .int .i64 b.t.ap, .int .u32 b.t.bits, .bool b.t.ng, .bool b.t.xn])
  tr : TR wr
  sub : ∀ b ∈ T, b ∈ K
  nod : T.Nodup
  mem : b ∈ T
  cnt : c + T.countP (tkF d) = K.countP (tkF d)
section
variable {W wr w' : World} {p kb jb r bd bb : Nat} {K T : List Blo} {J : Jud} {d : Dro} {c : Nat} {b : Blo}
theorem DY.below (h : DY W wr p kb jb r bd bb K T J d c b) (hb : Below wr.heap.size wr w') : DY W w' p kb jb r bd bb K T J d c b :=
  ⟨h.trn.then (Turn.below hb), h.box.below hb, h.kr.turn (X := fun _ => False) (Turn.below hb) (fun h => h) (fun h => h), h.jm.turn (X := fun _ => False) (Turn.below hb) (fun h => h), h.bd.below hb, h.bb.below hb, h.tr.below hb, h.sub, h.nod, h.mem, h.cnt⟩
theorem DY.left (h : DY W wr p kb jb r bd bb K T J d c b) (hb : Below wr.heap.size wr w') : w'.rangeLeft kb r = wr.rangeLeft kb r := turn_left (X := fun _ => False) (Turn.below hb) h.kr.lt.2 h.kr.lt.1 (fun h => h) (fun h => h)
theorem DY.leave (h : DY W wr p kb jb r bd bb K T J d c b) (hf : tkF d b = false) : DX W wr p kb jb r bd K (rm T b) J d c := by
  have h1 := count_rm (d := d) h.nod h.mem
  have h2 := h.cnt
  rw [hf] at h1
  refine ⟨h.trn, h.box, ?_, h.jm, h.bd, h.tr, fun x hx => h.sub x (mem_rm.1 hx).1, rm_nodup h.nod b, by simp at h1; omega⟩
  rw [← cuD_leave hf]
  exact h.kr
theorem rm_rm (T : List Blo) (b : Blo) : rm (rm T b) b = rm T b := by
  unfold rm
  rw [List.filter_filter]
  exact List.filter_congr (fun x _ => by simp)
theorem DY.take (h : DY W wr p kb jb r bd bb K T J d c b) (hf : tkF d b = true) (hK : ∀ x ∈ K, KOk x) (hp : p ≠ kb) (hj : kb ≠ jb) (ty : TypeId) :
    ∃ w', (Builtin.delete_ #[115, 45] ty #[.map (some kb), .agg #[.int .i64 b.asid, .int .i64 b.t.size, .int .u32 b.t.va, .int .u64 b.t.pa, .int .i64 b.t.dom, .int .i64 b.t.ap, .int .u32 b.t.bits, .bool b.t.ng, .bool b.t.xn]]).run Tryz.prog wr = .ok (.tuple #[]) w' ∧ DX W w' p kb jb r bd K (rm T b) J d (c + 1) ∧ Bl w' bb 45 ([.int .i64 b.asid, .int .i64 b.t.size, .int .u32 b.t.va, .int .u64 b.t.pa, .int .i64 b.t.dom, .int .i64 b.t.ap, .int .u32 b.t.bits, .bool b.t.ng, .bool b.t.xn]) ∧ w'.rangeLeft kb r ≤ wr.rangeLeft kb r := by
  have h1 := count_rm (d := d) h.nod h.mem
  have h2 := h.cnt
  rw [hf] at h1
  obtain ⟨w', hr, hk, hg, hl⟩ := h.kr.drop (b := b) (fun x hx => hK x (List.mem_filter.1 hx).1) (fun x hx => hK x (h.sub x (mem_rm.1 hx).1)) (hK b (h.sub b h.mem)) ty
  have T1 : Turn (· = kb) wr w' := Turn.grown hg (fun k e => by cases e; exact .inl rfl)
  have hn : Nt wr kb := h.kr.km.nt
  have hbk : ∀ {x : Nat} {t : TypeId} {l : List Value}, Bl wr x t l → x ≠ kb := by
    rintro x t l hx rfl
    obtain ⟨n, D, ⟨es, cl, hb, _⟩, _⟩ := h.kr.km
    rw [show wr.heap[x]? = _ from hx] at hb
    cases hb
  refine ⟨w', hr, ⟨h.trn.then T1, h.box.turn T1 hp, ?_, h.jm.turn T1 (fun e => hj e.symm), h.bd.turn T1 (hbk h.bd), h.tr.turnM T1 (fun x hx _ => by subst hx; exact hn), fun x hx => h.sub x (mem_rm.1 hx).1, rm_nodup h.nod b, by simp at h1; omega⟩, h.bb.turn T1 (hbk h.bb), hl⟩
  rw [cuD_take hf, rm_rm] at hk
  exact hk
end
set_option maxRecDepth 100000 in
set_option maxHeartbeats 4000000 in
theorem drop_any (W : World) (p kb jb : Nat) (K : List Blo) (J : Jud) (d : Dro) (h : PK W p kb jb K J) (ht : TR W) (hd : 0 ≤ d.va ∧ d.va < 4294967296) (hl : K.length ≤ 4611686018427387904) :
    Calls Tryz.prog 25 #[.pointer (some ⟨p, 0, none⟩), .agg #[.int .i64 d.kind, .int .u32 d.va, .int .i64 d.asid]] W fun e w' => e = .returned (.int .i64 (K.countP (tkF d) : Nat)) ∧ PK w' p kb jb (drK d K) J ∧ Turn (· = kb) W w' ∧ TR w' := by
  have hb0 := below_new W (.cells ([.int .i64 d.kind, .int .u32 d.va, .int .i64 d.asid]).toArray 34)
  have h0 := h.below hb0
  obtain ⟨w2, hr2, hk2, hg2, hs2⟩ := h0.km.range
  have T2 : Turn (fun _ => False) (W.alloc (.cells ([.int .i64 d.kind, .int .u32 d.va, .int .i64 d.asid]).toArray 34)) w2 := Turn.grown hg2 (fun k e => by cases e)
  have c0 := h0.c0
  have hW : W.heap.size < (W.alloc (.cells ([.int .i64 d.kind, .int .u32 d.va, .int .i64 d.asid]).toArray 34)).heap.size := by simp
  have HX : Hid (DX W w2 p kb jb (W.alloc (.cells ([.int .i64 d.kind, .int .u32 d.va, .int .i64 d.asid]).toArray 34)).heap.size W.heap.size K K J d 0) := by
    refine ⟨(Turn.below hb0).trans (S := (· = kb)) T2 (fun x hx => hx.elim), h0.box.turn T2 (fun h => h), ?_, h0.jm.turn T2 (fun h => h), (Bl.new W _ _).turn T2 (fun h => h), (ht.below hb0).turnM T2 (fun x hx => hx.elim), fun b hb => hb, h.ok.ri.nodup, by omega⟩
    rw [cuD_all]
    exact hk2
  have HO := hidW h.ok
  have HN := hidW h.ne
  have HP := hidW h.nek
  have HLT := hidW h.lt
  have hcl : K.countP (tkF d) ≤ K.length := List.countP_le_length
  clear h h0 hk2 hg2 ht hb0 T2
  generalize hrr : (W.alloc (.cells ([.int .i64 d.kind, .int .u32 d.va, .int .i64 d.asid]).toArray 34)).heap.size = r at *
  have hrW : W.heap.size ≤ r := by omega
  go_enter Tryz.func25, Tryz.ntmps25
  go_wp2
  clear hr2 c0 hs2 hW hrr
  go_loopw [5] (fun n wr => ∃ (T : List Blo) (c : Nat), n = .int .i64 c ∧ Hid (DX W wr p kb jb r W.heap.size K T J d c)) (fun _ wr => wr.rangeLeft kb r)
  case atStart => exact ⟨K, 0, rfl, HX⟩
  case round =>
    obtain ⟨T, c, rfl, HX1⟩ := hrel
    clear HX
    have hTo : ∀ x ∈ T, KOk x := fun x hx => HO.out.ok x (HX1.out.sub x hx)
    have hKo : ∀ x ∈ cuD d K T, KOk x := fun x hx => HO.out.ok x (List.mem_filter.1 hx).1
    have hcc := HX1.out.cnt
    rcases HX1.out.kr.next hTo 0 with ⟨rfl, hnx⟩ | ⟨b, w1, hb, hnx, hk1, hg1, hs1, hen, hlt⟩
    · go_wp2
      go_ret
      have hx := HX1.out
      refine ⟨by simp at hcc; rw [hcc]; rfl, ⟨hx.box, ?_, hx.jm, HN.out, HO.out.drop d⟩, hx.trn, hx.tr⟩
      rw [← cuD_none]
      exact hx.kr.km
    · obtain ⟨hT1, hB1, hJ1, hD1, hR1⟩ := HX1.out.next hrW hg1 hk1 (Bl.nr HX1.out.kr HX1.out.box) (JM.nr HX1.out.kr HX1.out.jm) (Bl.nr HX1.out.kr HX1.out.bd) HX1.out.kr.nt.1
      have hbo := hTo b hb
      have hbn := below_new w1 (.cells ([.int .i64 b.asid, .int .i64 b.t.size, .int .u32 b.t.va, .int .u64 b.t.pa, .int .i64 b.t.dom, .int .i64 b.t.ap, .int .u32 b.t.bits, .bool b.t.ng, .bool b.t.xn]).toArray 45)
      have HY : Hid (DY W (w1.alloc (.cells ([.int .i64 b.asid, .int .i64 b.t.size, .int .u32 b.t.va, .int .u64 b.t.pa, .int .i64 b.t.dom, .int .i64 b.t.ap, .int .u32 b.t.bits, .bool b.t.ng, .bool b.t.xn]).toArray 45)) p kb jb r W.heap.size w1.heap.size K T J d c b) :=
        ⟨hT1.then (Turn.below hbn), hB1.below hbn, hk1.turn (X := fun _ => False) (Turn.below hbn) (fun h => h) (fun h => h), hJ1.turn (X := fun _ => False) (Turn.below hbn) (fun h => h), hD1.below hbn, Bl.new w1 _ _, hR1.below hbn, HX1.out.sub, HX1.out.nod, hb, HX1.out.cnt⟩
      have HL : Hid ((w1.alloc (.cells ([.int .i64 b.asid, .int .i64 b.t.size, .int .u32 b.t.va, .int .u64 b.t.pa, .int .i64 b.t.dom, .int .i64 b.t.ap, .int .u32 b.t.bits, .bool b.t.ng, .bool b.t.xn]).toArray 45)).rangeLeft kb r < wr.rangeLeft kb r) := by
        have : (w1.alloc (.cells ([.int .i64 b.asid, .int .i64 b.t.size, .int .u32 b.t.va, .int .u64 b.t.pa, .int .i64 b.t.dom, .int .i64 b.t.ap, .int .u32 b.t.bits, .bool b.t.ng, .bool b.t.xn]).toArray 45)).rangeLeft kb r = w1.rangeLeft kb r := turn_left (X := fun _ => False) (Turn.below hbn) hk1.lt.2 hk1.lt.1 (fun h => h) (fun h => h)
        exact this ▸ hlt
      have HT := hidW (fun ww hw => takes_any d b ww hw hbo.ok hd)
      have HKo := hidW HO.out.ok
      have cD := HY.out.bd.cell
      have cB := HY.out.bb.cell
      have hcl2 : (c : Int) ≤ 4611686018427387904 := by omega
      have hcl3 : (0 : Int) ≤ c := by omega
      clear hT1 hB1 hJ1 hD1 hR1 hk1 hg1 hlt hbn HX1 hbo hcc hKo hTo hb hs1
      go_wp2_with fail
      go_at_call 12
      refine (HT.out _ HY.out.tr).mono ?_
      rintro e w3 ⟨rfl, hb3⟩
      have HY3 := hidW (HY.out.below hb3)
      have HL3 : Hid (w3.rangeLeft kb r < wr.rangeLeft kb r) := by
        have := HY.out.left hb3
        have h2 := HL.out
        show w3.rangeLeft kb r < wr.rangeLeft kb r
        omega
      clear hnx hen cD cB hb3 HY HL HT
      cases htk : tkF d b
      · go_wp2
        go_roundw
        case rel => exact ⟨rm T b, c, rfl, HY3.out.leave htk⟩
        case measure => exact HL3.out
      · have HY4 : Hid (DY W w3.drew p kb jb r W.heap.size w1.heap.size K T J d c b) := HY3.out.below (below_drew (Below.refl _ w3))
        obtain ⟨w6, hdel, hx6, hb6, hl6⟩ := HY4.out.take htk HKo.out HP.out HN.out 0
        have hL4 : w3.drew.rangeLeft kb r = w3.rangeLeft kb r := rfl
        have K1 : Hid (w3.drew.cell? ⟨p, 0, none⟩ = some (.map (some kb)) ∧ w3.drew.cell? ⟨w1.heap.size, 0, none⟩ = some (.int .i64 b.asid) ∧ w3.drew.cell? ⟨w1.heap.size, 1, none⟩ = some (.int .i64 b.t.size) ∧ w3.drew.cell? ⟨w1.heap.size, 2, none⟩ = some (.int .u32 b.t.va) ∧ w3.drew.cell? ⟨w1.heap.size, 3, none⟩ = some (.int .u64 b.t.pa) ∧ w3.drew.cell? ⟨w1.heap.size, 4, none⟩ = some (.int .i64 b.t.dom) ∧ w3.drew.cell? ⟨w1.heap.size, 5, none⟩ = some (.int .i64 b.t.ap) ∧ w3.drew.cell? ⟨w1.heap.size, 6, none⟩ = some (.int .u32 b.t.bits) ∧ w3.drew.cell? ⟨w1.heap.size, 7, none⟩ = some (.bool b.t.ng) ∧ w3.drew.cell? ⟨w1.heap.size, 8, none⟩ = some (.bool b.t.xn)) := by
          have h := HY4.out.bb.cell
          exact ⟨HY4.out.box.cell 0, h 0, h 1, h 2, h 3, h 4, h 5, h 6, h 7, h 8⟩
        have K2 : Hid (w6.cell? ⟨p, 0, none⟩ = some (.map (some kb)) ∧ w6.cell? ⟨w1.heap.size, 0, none⟩ = some (.int .i64 b.asid) ∧ w6.cell? ⟨w1.heap.size, 1, none⟩ = some (.int .i64 b.t.size) ∧ w6.cell? ⟨w1.heap.size, 2, none⟩ = some (.int .u32 b.t.va) ∧ w6.cell? ⟨w1.heap.size, 3, none⟩ = some (.int .u64 b.t.pa) ∧ w6.cell? ⟨w1.heap.size, 4, none⟩ = some (.int .i64 b.t.dom) ∧ w6.cell? ⟨w1.heap.size, 5, none⟩ = some (.int .i64 b.t.ap) ∧ w6.cell? ⟨w1.heap.size, 6, none⟩ = some (.int .u32 b.t.bits) ∧ w6.cell? ⟨w1.heap.size, 7, none⟩ = some (.bool b.t.ng) ∧ w6.cell? ⟨w1.heap.size, 8, none⟩ = some (.bool b.t.xn)) := by
          have h := hb6.cell
          exact ⟨hx6.box.cell 0, h 0, h 1, h 2, h 3, h 4, h 5, h 6, h 7, h 8⟩
        have HX6 := hidW hx6
        have HL6 : Hid (w6.rangeLeft kb r < wr.rangeLeft kb r) := by
          have := HL3.out
          show w6.rangeLeft kb r < wr.rangeLeft kb r
          omega
        clear hx6 hb6 hl6 hL4 HY4 HY3 HL3
        go_wp2_with fail
        refine wp_region_held_drew (S := fun w' => w'.cell? ⟨p, 0, none⟩ = some (.map (some kb)) ∧ w'.cell? ⟨w1.heap.size, 0, none⟩ = some (.int .i64 b.asid) ∧ w'.cell? ⟨w1.heap.size, 1, none⟩ = some (.int .i64 b.t.size) ∧ w'.cell? ⟨w1.heap.size, 2, none⟩ = some (.int .u32 b.t.va) ∧ w'.cell? ⟨w1.heap.size, 3, none⟩ = some (.int .u64 b.t.pa) ∧ w'.cell? ⟨w1.heap.size, 4, none⟩ = some (.int .i64 b.t.dom) ∧ w'.cell? ⟨w1.heap.size, 5, none⟩ = some (.int .i64 b.t.ap) ∧ w'.cell? ⟨w1.heap.size, 6, none⟩ = some (.int .u32 b.t.bits) ∧ w'.cell? ⟨w1.heap.size, 7, none⟩ = some (.bool b.t.ng) ∧ w'.cell? ⟨w1.heap.size, 8, none⟩ = some (.bool b.t.xn)) (by kernel_rfl) ?_ (fun hHeld => ?_)
        · exact K1.out
        refine wpAnyH_take (i := 0) (oi := { dst := some 19, op := Op.move (Operand.tmp 0), type := 49, pos := _, after := #[], guard := none }) (v := ?_) rfl (by kernel_rfl) (by kernel_rfl) (by kernel_rfl) (fun _ _ _ h => h) (Or.inl ⟨by rfl, ?_⟩) (by assumption) ?_
        rotate_left
        · (intro w hSw; (try dsimp only at hSw); go_simp; try with_reducible rfl)
        simp only [Act.put, List.setIfInBounds_toArray, List.set_cons_zero, List.set_cons_succ]
        refine wpAnyH_take (i := 1) (oi := { dst := some 20, op := Op.nilCheck (Operand.tmp 19), type := 0, pos := _, after := #[{ on := 0, ground := Ground.data }], guard := none }) (v := ?_) rfl (by kernel_rfl) (by kernel_rfl) (by kernel_rfl) (fun _ _ _ h => h) (Or.inl ⟨by rfl, ?_⟩) (by assumption) ?_
        rotate_left
        · (intro w hSw; (try dsimp only at hSw); go_simp; try with_reducible rfl)
        simp only [Act.put, List.setIfInBounds_toArray, List.set_cons_zero, List.set_cons_succ]
        refine wpAnyH_take (i := 2) (oi := { dst := some 21, op := Op.fieldAddr 118 (Operand.tmp 20) 0, type := 0, pos := _, after := #[{ on := 1, ground := Ground.data }], guard := none }) (v := ?_) rfl (by kernel_rfl) (by kernel_rfl) (by kernel_rfl) (fun _ _ _ h => h) (Or.inl ⟨by rfl, ?_⟩) (by assumption) ?_
        rotate_left
        · (intro w hSw; (try dsimp only at hSw); go_simp; try with_reducible rfl)
        simp only [Act.put, List.setIfInBounds_toArray, List.set_cons_zero, List.set_cons_succ]
        refine wpAnyH_take (i := 3) (oi := { dst := some 22, op := Op.load 115 (Operand.tmp 21), type := 115, pos := _, after := #[{ on := 2, ground := Ground.data }], guard := none }) (v := ?_) rfl (by kernel_rfl) (by kernel_rfl) (by kernel_rfl) (fun _ _ _ h => h) (Or.inl ⟨by rfl, ?_⟩) (by assumption) ?_
        rotate_left
        · (intro w hSw; (try dsimp only at hSw); go_simp; try with_reducible rfl)
        simp only [Act.put, List.setIfInBounds_toArray, List.set_cons_zero, List.set_cons_succ]
        refine wpAnyH_take (i := 4) (oi := { dst := some 23, op := Op.load 45 (Operand.tmp 6), type := 45, pos := _, after := #[], guard := none }) (v := ?_) rfl (by kernel_rfl) (by kernel_rfl) (by kernel_rfl) (fun _ _ _ h => h) (Or.inl ⟨by rfl, ?_⟩) (by assumption) ?_
        rotate_left
        · (intro w hSw; (try dsimp only at hSw); go_simp; try with_reducible rfl)
        simp only [Act.put, List.setIfInBounds_toArray, List.set_cons_zero, List.set_cons_succ]
        refine wpAnyH_ready (rs := [5]) (by kernel_rfl) (by simp) ?_
        refine AllReadyH.cons (o := { dst := none, op := Op.call { callee := Callee.builtin Builtin.delete, args := #[Operand.tmp 22, Operand.tmp 23], argTypes := #[115, 45] }, type := 0, pos := _, after := #[{ on := 3, ground := Ground.data }, { on := 4, ground := Ground.data }], guard := none }) rfl (fun K hK => ?_) AllReadyH.nil
        go_simp
        skip
        refine hK.out _ _ ?_ (fun hHeld => ?_)
        · ((try dsimp only); with_reducible exact K2.out)
        clear hK K
        try simp only [Act.put, List.setIfInBounds_toArray, List.set_cons_zero, List.set_cons_succ]
        refine wpAnyH_done (by kernel_rfl) ?_ _
        go_wp2
        go_roundw
        case rel => exact ⟨rm T b, c + 1, by go_num, HX6⟩
        case measure => exact HL6.out
end Go.Proofs.YtnjlajjjcmhfgaaGreatDoor

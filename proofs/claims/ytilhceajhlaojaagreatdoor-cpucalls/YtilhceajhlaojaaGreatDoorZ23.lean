import Derived.Test.YtilhceajhlaojaaGreatDoorZ22
import Derived.Test.YtilhceajhlaojaaGreatDoorDf
import Derived.Test.YtilhceajhlaojaaGreatDoorZ20
namespace Go.Proofs.YtilhceajhlaojaaGreatDoor
open Go.RowKit
set_option linter.unusedVariables false
set_option linter.unusedSimpArgs false
/-- A run: the processor, the line, all new to the world that it began in. -/
structure RN (W v : World) (cb lo lb sb : Nat) (sc : List Value) (pv hv : Value) (l : Ln) (R : List Int) : Prop where
  lq : ∃ av, LX v lo lb pv hv av l ∧ ¬ LO lb pv hv av cb ∧ ∀ g, LO lb pv hv av g → W.heap.size ≤ g
  cpu : RB v cb 86 R [.bool false]
  bel : Below W.heap.size W v
  sl : Bl v sb 22 sc
  n1 : sb < lo
  n2 : sb ≠ cb
theorem RN.step {W v v' : World} {cb lo lb sb : Nat} {sc : List Value} {pv hv : Value} {l : Ln} {R : List Int} (h : RN W v cb lo lb sb sc pv hv l R) (hb : Below v.heap.size v v') : RN W v' cb lo lb sb sc pv hv l R := by
  obtain ⟨a, h1, h2, h3⟩ := h.lq
  exact ⟨⟨a, h1.below hb, h2, h3⟩, h.cpu.below hb, Below.step h.bel hb, h.sl.below hb, h.n1, h.n2⟩
theorem RN.drew {W v : World} {cb lo lb sb : Nat} {sc : List Value} {pv hv : Value} {l : Ln} {R : List Int} (h : RN W v cb lo lb sb sc pv hv l R) : RN W v.drew cb lo lb sb sc pv hv l R := by
  obtain ⟨a, h1, h2, h3⟩ := h.lq
  exact ⟨⟨a, h1.drew, h2, h3⟩, h.cpu.drew, below_drew h.bel, h.sl.drew, h.n1, h.n2⟩
/-- The word that stands at the next place. -/
def rnV (l : Ln) (R : List Int) : Int := wdK l.puts (rg R 28) l.puts.length
def rnT (l : Ln) (R : List Int) : Tk := ⟨0, rg R 28, rnV l R, 0, 0, 0, 0, false⟩
def rnL (l : Ln) (R : List Int) : Ln := { l with asked := l.asked ++ [askP 1 (rg R 28) 0 (!(mdR R == 16))] }
theorem gStep_run (W w : World) (cb lo lb sb : Nat) (sc : List Value) (pv hv : Value) (l l' : Ln) (R R' : List Int) (i : Is.Ins) (t' : Tk) (k : Nat) (p : Bool) (h : RN W w cb lo lb sb sc pv hv l R) (te : TE W) (hlo : 4 < lo) (hW : W.heap.size ≤ cb) (ho : LOk l) (hn : l.asked.length ≤ 400000000000) (hh : l.holes = []) (h4 : rg R 28 % 4 = 0)
    (hdec : Is.decP (rnV l R).toNat = some i) (op : 0 < i.op ∧ i.op < 53) (hk : k < 7) (hkt : t'.kind = (k : Nat)) (hp : Al.paF i.cond (flR R).n (flR R).z (flR R).c (flR R).v = p)
    (hno : p = false → l' = rnL l R ∧ R' = pcR R (rg R 28) ∧ t' = rnT l R)
    (hdeed : p = true → ∀ v b av', LX v lo lb pv hv av' (rnL l R) → DB v b (pcR R (rg R 28)) false (busV lb) i (rnT l R) → ¬ LO lb pv hv av' b → lo ≤ v.heap.size → Calls Tryz.prog (dfn i.op.toNat) #[.pointer (some ⟨b, 0, none⟩)] v fun e w' => e = .returned (.tuple #[]) ∧ WQ v w' b lo lb pv hv av' l' R' false i t') :
    Calls Tryz.prog 16 #[.pointer (some ⟨cb, 0, none⟩), busV lb] w fun e w' => e = .returned (.tuple #[.agg (tkA t'), .int .i64 0]) ∧ RN W w' cb lo lb sb sc pv hv l' (raP k (if (t'.kind == 0) then R' else R)) := by
  obtain ⟨av, hx, mc, hnew⟩ := h.lq
  have hw := te.size
  refine (gStep w cb lo lb k pv hv av l l' R (if (t'.kind == 0) then R' else R) t' h.cpu hx mc (te.below h.bel) hlo (by omega) hk hkt ?_).mono ?_
  · intro v hc hx te
    refine gnext v cb lo lb pv hv av l R hc hx mc te hlo ho hn hh h4 t' l' _ ?_ ?_
    · intro hd
      have : Is.decP (rnV l R).toNat = none := hd
      rw [hdec] at this
      cases this
    · intro j hd v2 b av' hc2 hdb hx2 n mc2 mb2
      have : Is.decP (rnV l R).toNat = some j := hd
      rw [hdec] at this
      cases this
      exact gdoins v2 cb b lo lb pv hv av' (rnL l R) l' R R R' false false i (rnT l R) t' hc2 hdb hx2 n mc2 mb2 (hc.ok.rng 28) op p _ hp rfl hno (fun e v3 av3 x1 x2 x3 x4 => hdeed e v3 b av3 x1 x2 x3 x4)
  · rintro e w' ⟨rfl, hs⟩
    obtain ⟨av', k1, k2⟩ := hs.lq
    have hcl := h.cpu.bl.lt
    have hsz := h.bel.size
    refine ⟨rfl, ⟨av', k1, fun e => ?_, fun g hg => ?_⟩, hs.cpu, h.bel.trans (Turn.to hs.turn (fun x hx => ?_) hsz), h.sl.turn hs.turn (fun e => ?_), h.n1, h.n2⟩
    · rcases k2 cb e with h5 | h5
      · exact mc h5
      · omega
    · rcases k2 g hg with h5 | h5
      · exact hnew g h5
      · omega
    · rcases hx with e | e
      · omega
      · exact hnew x e
    · rcases e with e | e
      · exact h.n2 e
      · have := hx.ge e; have := h.n1; omega
/-- What a deed of data needs. -/
structure DtOk (R : List Int) (a : Int) (i : Is.Ins) : Prop where
  ir : IR i
  o : 0 ≤ (opdP R a i).1 ∧ (opdP R a i).1 < 4294967296
  w : 0 ≤ dtW R a i ∧ dtW R a i < 4294967296
  l : i.s = true → Al.dxR i.op = true → ¬ i.rd = 15
theorem gStep_data (W w : World) (cb lo lb sb : Nat) (sc : List Value) (pv hv : Value) (l : Ln) (R : List Int) (i : Is.Ins) (h : RN W w cb lo lb sb sc pv hv l R) (te : TE W) (hlo : 4 < lo) (hW : W.heap.size ≤ cb) (ho : LOk l) (hn : l.asked.length ≤ 400000000000) (hh : l.holes = []) (h4 : rg R 28 % 4 = 0)
    (hdec : Is.decP (rnV l R).toNat = some i) (op : 0 < i.op ∧ i.op < 53) (hp : Al.paF i.cond (flR R).n (flR R).z (flR R).c (flR R).v = true) (hdf : dfn i.op.toNat = 59) (hd : DtOk (pcR R (rg R 28)) (rg R 28) i) :
    Calls Tryz.prog 16 #[.pointer (some ⟨cb, 0, none⟩), busV lb] w fun e w' => e = .returned (.tuple #[.agg (tkA (rnT l R)), .int .i64 0]) ∧ RN W w' cb lo lb sb sc pv hv (rnL l R) (dtR (pcR R (rg R 28)) (rg R 28) i) := by
  refine gStep_run W w cb lo lb sb sc pv hv l (rnL l R) R _ i (rnT l R) 0 true h te hlo hW ho hn hh h4 hdec op (by decide) rfl hp (fun e => by cases e) (fun _ v b av' hx hdb mb hv2 => ?_)
  rw [hdf]
  refine (gdata v b _ false (busV lb) i (rnT l R) hdb hd.ir hd.o hd.w hd.l).mono ?_
  rintro e w' ⟨rfl, ht, hdb2⟩
  exact ⟨rfl, ⟨av', hx.turn ht (fun g hg e => mb ((show g = b from e) ▸ hg)), fun g hg => .inl hg⟩, ⟨ht.os, ht.tape, ht.output, ht.size, fun k hk hn => ht.block k hk (fun e => hn (.inl e))⟩, hdb2⟩
/-- A condition that does not hold. -/
theorem gStep_not (W w : World) (cb lo lb sb : Nat) (sc : List Value) (pv hv : Value) (l : Ln) (R : List Int) (i : Is.Ins) (h : RN W w cb lo lb sb sc pv hv l R) (te : TE W) (hlo : 4 < lo) (hW : W.heap.size ≤ cb) (ho : LOk l) (hn : l.asked.length ≤ 400000000000) (hh : l.holes = []) (h4 : rg R 28 % 4 = 0)
    (hdec : Is.decP (rnV l R).toNat = some i) (op : 0 < i.op ∧ i.op < 53) (hp : Al.paF i.cond (flR R).n (flR R).z (flR R).c (flR R).v = false) :
    Calls Tryz.prog 16 #[.pointer (some ⟨cb, 0, none⟩), busV lb] w fun e w' => e = .returned (.tuple #[.agg (tkA (rnT l R)), .int .i64 0]) ∧ RN W w' cb lo lb sb sc pv hv (rnL l R) (pcR R (rg R 28)) :=
  gStep_run W w cb lo lb sb sc pv hv l (rnL l R) R _ i (rnT l R) 0 false h te hlo hW ho hn hh h4 hdec op (by decide) rfl hp (fun _ => ⟨rfl, rfl, rfl⟩) (fun e => by cases e)
/-- The line behind a load. -/
def rnM (l : Ln) (R : List Int) (va : Int) : Ln := { rnL l R with asked := (rnL l R).asked ++ [askP 2 va 0 (!(mdR (pcR R (rg R 28)) == 16))] }
theorem gStep_load (W w : World) (cb lo lb sb : Nat) (sc : List Value) (pv hv : Value) (l : Ln) (R : List Int) (i : Is.Ins) (va : Int) (h : RN W w cb lo lb sb sc pv hv l R) (te : TE W) (hlo : 4 < lo) (hW : W.heap.size ≤ cb) (ho : LOk l) (hn : l.asked.length < 400000000000) (hh : l.holes = []) (h4 : rg R 28 % 4 = 0)
    (hdec : Is.decP (rnV l R).toNat = some i) (op : i.op = 31) (hp : Al.paF i.cond (flR R).n (flR R).z (flR R).c (flR R).v = true) (hi : IR i) (hva : (adP (pcR R (rg R 28)) (rg R 28) i).1 = va) (hv4 : va % 4 = 0) :
    Calls Tryz.prog 16 #[.pointer (some ⟨cb, 0, none⟩), busV lb] w fun e w' => e = .returned (.tuple #[.agg (tkA (rnT l R)), .int .i64 0]) ∧ RN W w' cb lo lb sb sc pv hv (rnM l R va) (ldR (pcR R (rg R 28)) (rg R 28) i (wdK l.puts va l.puts.length)) := by
  refine gStep_run W w cb lo lb sb sc pv hv l (rnM l R va) R _ i (rnT l R) 0 true h te hlo hW ho (by omega) hh h4 hdec (by omega) (by decide) rfl hp (fun e => by cases e) (fun _ v b av' hx hdb mb hv2 => ?_)
  have e : dfn i.op.toNat = 65 := by rw [op]; rfl
  rw [e]
  have := gload0 v b lo lb pv hv av' (rnL l R) (pcR R (rg R 28)) false i (rnT l R) hdb hx mb ⟨ho.puts, ho.cop⟩ hv2 (by show (l.asked ++ [_]).length ≤ _; rw [List.length_append]; simp; omega) hh hi op (by rw [show (rnT l R).at_ = rg R 28 from rfl, hva]; exact hv4)
  rw [show (rnT l R).at_ = rg R 28 from rfl, hva] at this
  exact this
theorem gStep_call (W w : World) (cb lo lb sb : Nat) (sc : List Value) (pv hv : Value) (l : Ln) (R : List Int) (i : Is.Ins) (h : RN W w cb lo lb sb sc pv hv l R) (te : TE W) (hlo : 4 < lo) (hW : W.heap.size ≤ cb) (ho : LOk l) (hn : l.asked.length ≤ 400000000000) (hh : l.holes = []) (h4 : rg R 28 % 4 = 0)
    (hdec : Is.decP (rnV l R).toNat = some i) (op : 0 < i.op ∧ i.op < 53) (hp : Al.paF i.cond (flR R).n (flR R).z (flR R).c (flR R).v = true) (hdf : dfn i.op.toNat = 73) :
    Calls Tryz.prog 16 #[.pointer (some ⟨cb, 0, none⟩), busV lb] w fun e w' => e = .returned (.tuple #[.agg (tkA { rnT l R with kind := 2 }), .int .i64 0]) ∧ RN W w' cb lo lb sb sc pv hv (rnL l R) (raP 2 R) := by
  refine gStep_run W w cb lo lb sb sc pv hv l (rnL l R) R (pcR R (rg R 28)) i { rnT l R with kind := 2 } 2 true h te hlo hW ho hn hh h4 hdec op (by decide) rfl hp (fun e => by cases e) (fun _ v b av' hx hdb mb hv2 => ?_)
  rw [hdf]
  refine (gcall v b _ false (busV lb) i (rnT l R) hdb).mono ?_
  rintro e w' ⟨rfl, ht, hdb2⟩
  exact ⟨rfl, ⟨av', hx.turn ht (fun g hg e => mb ((show g = b from e) ▸ hg)), fun g hg => .inl hg⟩, ⟨ht.os, ht.tape, ht.output, ht.size, fun k hk hn => ht.block k hk (fun e => hn (.inl e))⟩, hdb2⟩
end Go.Proofs.YtilhceajhlaojaaGreatDoor
namespace Go.Proofs.YtilhceajhlaojaaGreatDoor
open Go.RowKit
set_option linter.unusedVariables false
set_option linter.unusedSimpArgs false
/-- The run of the example: its words, its instructions, its registers. -/
def lvW : List (Int × Int) := [(0, 3818913797), (4, 3796893701), (8, 60821505), (12, 3852410884), (16, 4009754631), (20, 0), (24, 287454020)]
def lr0 : List Int := [0, 0, 0, 0, 0, 0, 0, 0, 0, 0, 0, 0, 0, 0, 0, 0, 0, 0, 0, 0, 0, 0, 0, 0, 0, 0, 0, 0, 0, 147]
def lr1 : List Int := [5, 0, 0, 0, 0, 0, 0, 0, 0, 0, 0, 0, 0, 0, 0, 0, 0, 0, 0, 0, 0, 0, 0, 0, 0, 0, 0, 0, 4, 147]
def lr2 : List Int := [0, 0, 0, 0, 0, 0, 0, 0, 0, 0, 0, 0, 0, 0, 0, 0, 0, 0, 0, 0, 0, 0, 0, 0, 0, 0, 0, 0, 8, 1610612883]
def lr3 : List Int := [0, 1, 0, 0, 0, 0, 0, 0, 0, 0, 0, 0, 0, 0, 0, 0, 0, 0, 0, 0, 0, 0, 0, 0, 0, 0, 0, 0, 12, 1610612883]
def lr4 : List Int := [0, 1, 287454020, 0, 0, 0, 0, 0, 0, 0, 0, 0, 0, 0, 0, 0, 0, 0, 0, 0, 0, 0, 0, 0, 0, 0, 0, 0, 16, 1610612883]
def lr5 : List Int := [0, 1, 287454020, 0, 0, 0, 0, 0, 0, 0, 0, 0, 0, 0, 0, 0, 0, 0, 0, 20, 0, 0, 0, 0, 1610612883, 0, 0, 0, 8, 1610612883]
def lr6 : List Int := [0, 1, 287454020, 0, 0, 0, 0, 0, 0, 0, 0, 0, 0, 0, 0, 0, 0, 0, 0, 20, 0, 0, 0, 0, 1610612883, 0, 0, 0, 20, 1610612883]
def li0 : Is.Ins := ⟨14, 14, false, 1, 0, 0, 0, 0, 0, 5, 0, 0, false, false, false, 0, 0, 0, 0, 0⟩
def li1 : Is.Ins := ⟨14, 3, true, 1, 0, 0, 0, 0, 0, 5, 0, 0, false, false, false, 0, 0, 0, 0, 0⟩
def li2 : Is.Ins := ⟨0, 14, false, 1, 1, 0, 0, 0, 0, 1, 0, 0, false, false, false, 0, 0, 0, 0, 0⟩
def li3 : Is.Ins := ⟨14, 31, false, 1, 2, 15, 0, 0, 0, 4, 0, 0, true, true, false, 0, 0, 0, 0, 0⟩
def li4 : Is.Ins := ⟨14, 45, false, 0, 0, 0, 0, 0, 0, 7, 0, 0, false, false, false, 0, 0, 0, 0, 0⟩
def lv0 : Ln := ⟨lvW, [], [], 0⟩
def lv1 : Ln := rnL lv0 lr0
def lv2 : Ln := rnL lv1 lr1
def lv3 : Ln := rnL lv2 lr2
def lv4 : Ln := rnM lv3 lr3 24
def lv5 : Ln := rnL lv4 lr4
theorem lvW_ok : ∀ p ∈ lvW, (0 ≤ p.1 ∧ p.1 < 4294967296) ∧ (0 ≤ p.2 ∧ p.2 < 4294967296) := by decide
theorem lok0 : LOk lv0 := ⟨lvW_ok, by show (0 : Int) ≤ 0 ∧ (0 : Int) < 4294967296; decide⟩
theorem lok1 : LOk lv1 := ⟨lvW_ok, by show (0 : Int) ≤ 0 ∧ (0 : Int) < 4294967296; decide⟩
theorem lok2 : LOk lv2 := ⟨lvW_ok, by show (0 : Int) ≤ 0 ∧ (0 : Int) < 4294967296; decide⟩
theorem lok3 : LOk lv3 := ⟨lvW_ok, by show (0 : Int) ≤ 0 ∧ (0 : Int) < 4294967296; decide⟩
theorem lok4 : LOk lv4 := ⟨lvW_ok, by show (0 : Int) ≤ 0 ∧ (0 : Int) < 4294967296; decide⟩
theorem lok5 : LOk lv5 := ⟨lvW_ok, by show (0 : Int) ≤ 0 ∧ (0 : Int) < 4294967296; decide⟩
set_option maxRecDepth 100000 in
theorem lstep0 (W w : World) (cb lo lb sb : Nat) (sc : List Value) (pv hv : Value) (h : RN W w cb lo lb sb sc pv hv lv0 lr0) (te : TE W) (hlo : 4 < lo) (hW : W.heap.size ≤ cb) : Calls Tryz.prog 16 #[.pointer (some ⟨cb, 0, none⟩), busV lb] w fun e w' => e = .returned (.tuple #[.agg #[.int .i64 0, .int .u32 0, .int .u32 3818913797, .int .u32 0, .int .i64 0, .int .i64 0, .int .i64 0, .bool false], .int .i64 0]) ∧ RN W w' cb lo lb sb sc pv hv lv1 lr1 := by
  have := gStep_data W w cb lo lb sb sc pv hv lv0 lr0 li0 h te hlo hW lok0 (by decide) rfl (by decide) (by kernel_rfl) (by decide) (by kernel_rfl) rfl ⟨⟨by decide, by decide, by decide, by decide, by decide, by decide⟩, by decide, by decide, by decide⟩
  rw [show dtR (pcR lr0 (rg lr0 28)) (rg lr0 28) li0 = lr1 by kernel_rfl, show rnT lv0 lr0 = ⟨0, 0, 3818913797, 0, 0, 0, 0, false⟩ by kernel_rfl] at this
  exact this
set_option maxRecDepth 100000 in
theorem lstep1 (W w : World) (cb lo lb sb : Nat) (sc : List Value) (pv hv : Value) (h : RN W w cb lo lb sb sc pv hv lv1 lr1) (te : TE W) (hlo : 4 < lo) (hW : W.heap.size ≤ cb) : Calls Tryz.prog 16 #[.pointer (some ⟨cb, 0, none⟩), busV lb] w fun e w' => e = .returned (.tuple #[.agg #[.int .i64 0, .int .u32 4, .int .u32 3796893701, .int .u32 0, .int .i64 0, .int .i64 0, .int .i64 0, .bool false], .int .i64 0]) ∧ RN W w' cb lo lb sb sc pv hv lv2 lr2 := by
  have := gStep_data W w cb lo lb sb sc pv hv lv1 lr1 li1 h te hlo hW lok1 (by decide) rfl (by decide) (by kernel_rfl) (by decide) (by kernel_rfl) rfl ⟨⟨by decide, by decide, by decide, by decide, by decide, by decide⟩, by decide, by decide, by decide⟩
  rw [show dtR (pcR lr1 (rg lr1 28)) (rg lr1 28) li1 = lr2 by kernel_rfl, show rnT lv1 lr1 = ⟨0, 4, 3796893701, 0, 0, 0, 0, false⟩ by kernel_rfl] at this
  exact this
set_option maxRecDepth 100000 in
theorem lstep2 (W w : World) (cb lo lb sb : Nat) (sc : List Value) (pv hv : Value) (h : RN W w cb lo lb sb sc pv hv lv2 lr2) (te : TE W) (hlo : 4 < lo) (hW : W.heap.size ≤ cb) : Calls Tryz.prog 16 #[.pointer (some ⟨cb, 0, none⟩), busV lb] w fun e w' => e = .returned (.tuple #[.agg #[.int .i64 0, .int .u32 8, .int .u32 60821505, .int .u32 0, .int .i64 0, .int .i64 0, .int .i64 0, .bool false], .int .i64 0]) ∧ RN W w' cb lo lb sb sc pv hv lv3 lr3 := by
  have := gStep_data W w cb lo lb sb sc pv hv lv2 lr2 li2 h te hlo hW lok2 (by decide) rfl (by decide) (by kernel_rfl) (by decide) (by kernel_rfl) rfl ⟨⟨by decide, by decide, by decide, by decide, by decide, by decide⟩, by decide, by decide, by decide⟩
  rw [show dtR (pcR lr2 (rg lr2 28)) (rg lr2 28) li2 = lr3 by kernel_rfl, show rnT lv2 lr2 = ⟨0, 8, 60821505, 0, 0, 0, 0, false⟩ by kernel_rfl] at this
  exact this
set_option maxRecDepth 100000 in
theorem lstep3 (W w : World) (cb lo lb sb : Nat) (sc : List Value) (pv hv : Value) (h : RN W w cb lo lb sb sc pv hv lv3 lr3) (te : TE W) (hlo : 4 < lo) (hW : W.heap.size ≤ cb) : Calls Tryz.prog 16 #[.pointer (some ⟨cb, 0, none⟩), busV lb] w fun e w' => e = .returned (.tuple #[.agg #[.int .i64 0, .int .u32 12, .int .u32 3852410884, .int .u32 0, .int .i64 0, .int .i64 0, .int .i64 0, .bool false], .int .i64 0]) ∧ RN W w' cb lo lb sb sc pv hv lv4 lr4 := by
  have := gStep_load W w cb lo lb sb sc pv hv lv3 lr3 li3 24 h te hlo hW lok3 (by decide) rfl (by decide) (by kernel_rfl) rfl (by kernel_rfl) ⟨by decide, by decide, by decide, by decide, by decide, by decide⟩ (by kernel_rfl) (by decide)
  rw [show ldR (pcR lr3 (rg lr3 28)) (rg lr3 28) li3 (wdK lv3.puts 24 lv3.puts.length) = lr4 by kernel_rfl, show rnT lv3 lr3 = ⟨0, 12, 3852410884, 0, 0, 0, 0, false⟩ by kernel_rfl] at this
  exact this
set_option maxRecDepth 100000 in
theorem lstep4 (W w : World) (cb lo lb sb : Nat) (sc : List Value) (pv hv : Value) (h : RN W w cb lo lb sb sc pv hv lv4 lr4) (te : TE W) (hlo : 4 < lo) (hW : W.heap.size ≤ cb) : Calls Tryz.prog 16 #[.pointer (some ⟨cb, 0, none⟩), busV lb] w fun e w' => e = .returned (.tuple #[.agg #[.int .i64 2, .int .u32 16, .int .u32 4009754631, .int .u32 0, .int .i64 0, .int .i64 0, .int .i64 0, .bool false], .int .i64 0]) ∧ RN W w' cb lo lb sb sc pv hv lv5 lr5 := by
  have := gStep_call W w cb lo lb sb sc pv hv lv4 lr4 li4 h te hlo hW lok4 (by decide) rfl (by decide) (by kernel_rfl) (by decide) (by kernel_rfl) rfl
  rw [show raP 2 lr4 = lr5 by kernel_rfl, show rnT lv4 lr4 = ⟨0, 16, 4009754631, 0, 0, 0, 0, false⟩ by kernel_rfl] at this
  exact this
set_option maxRecDepth 100000 in
def lvN (n : Nat) : Ln := [lv0, lv1, lv2, lv3].getD n lv4
def lrN (n : Nat) : List Int := [lr0, lr1, lr2, lr3].getD n lr4
theorem lstepN (n : Nat) (hn : n < 4) (pa pw : Int) (hp : lvW[n]? = some (pa, pw)) (W w : World) (cb lo lb sb : Nat) (sc : List Value) (pv hv : Value) (h : RN W w cb lo lb sb sc pv hv (lvN n) (lrN n)) (te : TE W) (hlo : 4 < lo) (hW : W.heap.size ≤ cb) : Calls Tryz.prog 16 #[.pointer (some ⟨cb, 0, none⟩), busV lb] w fun e w' => e = .returned (.tuple #[.agg #[.int .i64 0, .int .u32 pa, .int .u32 pw, .int .u32 0, .int .i64 0, .int .i64 0, .int .i64 0, .bool false], .int .i64 0]) ∧ RN W w' cb lo lb sb sc pv hv (lvN (n + 1)) (lrN (n + 1)) := by
  obtain rfl | rfl | rfl | rfl : n = 0 ∨ n = 1 ∨ n = 2 ∨ n = 3 := by omega
  · have hp : some ((0 : Int), (3818913797 : Int)) = some (pa, pw) := hp
    obtain ⟨rfl, rfl⟩ := Prod.mk.inj (Option.some.inj hp)
    exact lstep0 W w cb lo lb sb sc pv hv h te hlo hW
  · have hp : some ((4 : Int), (3796893701 : Int)) = some (pa, pw) := hp
    obtain ⟨rfl, rfl⟩ := Prod.mk.inj (Option.some.inj hp)
    exact lstep1 W w cb lo lb sb sc pv hv h te hlo hW
  · have hp : some ((8 : Int), (60821505 : Int)) = some (pa, pw) := hp
    obtain ⟨rfl, rfl⟩ := Prod.mk.inj (Option.some.inj hp)
    exact lstep2 W w cb lo lb sb sc pv hv h te hlo hW
  · have hp : some ((12 : Int), (3852410884 : Int)) = some (pa, pw) := hp
    obtain ⟨rfl, rfl⟩ := Prod.mk.inj (Option.some.inj hp)
    exact lstep3 W w cb lo lb sb sc pv hv h te hlo hW
set_option maxRecDepth 100000 in
theorem lback (W w : World) (cb lo lb sb : Nat) (sc : List Value) (pv hv : Value) (h : RN W w cb lo lb sb sc pv hv lv5 lr5) (hW : W.heap.size ≤ cb) : Calls Tryz.prog 18 #[.pointer (some ⟨cb, 0, none⟩), .int .u32 0] w fun e w' => e = .returned (.int .i64 0) ∧ RB w' cb 86 lr6 [.bool false] ∧ Below W.heap.size W w' := by
  have := gReturn_yes w cb lr5 _ 0 h.cpu (by decide) (by kernel_rfl)
  rw [show lvP lr5 ((gtR lr5 14 - 0) % 4294967296) = lr6 by kernel_rfl] at this
  refine this.mono ?_
  rintro e w' ⟨rfl, ht, hc⟩
  exact ⟨rfl, hc, h.bel.trans (Turn.to ht (fun x hx => by have e : x = cb := hx; omega) h.bel.size)⟩
theorem lreg (w : World) (cb : Nat) (h : RB w cb 86 lr6 [.bool false]) : Calls Tryz.prog 27 #[.pointer (some ⟨cb, 0, none⟩), .int .i64 15] w fun e w' => e = .returned (.int .u32 20) ∧ Below w.heap.size w w' := by
  have := gReg w cb lr6 _ 15 h (by decide)
  rw [show gtR lr6 15 = 20 by kernel_rfl] at this
  exact this
end Go.Proofs.YtilhceajhlaojaaGreatDoor
namespace Go.Proofs.YtilhceajhlaojaaGreatDoor
open Go.RowKit
set_option linter.unusedVariables false
set_option linter.unusedSimpArgs false
theorem appPut (w : World) (lo : Nat) (v x : Value) (L : List (Int × Int)) (k : Int × Int) (h : w.ownsRow lo 45 2 v L.length (L.flatMap ptL)) (hx : Src Tryz.prog 2 46 x 1 (ptL k) w) (hlo : lo ≤ w.heap.size) (hk : L.length ≤ 400000000000) :
    ∃ v' w', (∀ ty, (Builtin.append_ #[46, 46] ty #[v, x]).run Tryz.prog w = .ok v' w') ∧ w'.ownsRow lo 45 2 v' (L ++ [k]).length ((L ++ [k]).flatMap ptL) ∧ Turn (fun b => v.ownBlock = some b) w w' ∧ (∀ g, v'.ownBlock = some g → v.ownBlock = some g ∨ w.heap.size ≤ g) := by
  obtain ⟨i0, hi, hz0, hz1, hz2⟩ := info_parts infoPut
  have hm : maxLen = 9223372036854775807 := rfl
  obtain ⟨v', w', hr, ho', hg, hb⟩ := Mm.append_any (P := Tryz.prog) w 46 45 i0 _ Tryz.underlying46 hi hz0 (by rw [hz1]; rfl) lo L.length 1 v x (L.flatMap ptL) (ptL k) (by rw [hz1]; exact h) (by rw [hz1]; exact hx) hlo (by omega) (by rw [hz2]; omega)
  rw [hz1] at ho'
  refine ⟨v', w', hr, ?_, turn_grown hg, hb⟩
  rw [List.length_append, List.flatMap_append]
  simpa using ho'
/-- One word more. -/
theorem LX.put {w : World} {lo lb : Nat} {pv hv av : Value} {l : Ln} (h : LX w lo lb pv hv av l) (hlo : lo ≤ w.heap.size) (k : Int × Int) (x : Value) (hx : Src Tryz.prog 2 46 x 1 (ptL k) w) (hn : l.puts.length ≤ 400000000000) :
    ∃ pv' w', (∀ ty, (Builtin.append_ #[46, 46] ty #[pv, x]).run Tryz.prog w = .ok pv' w') ∧ Turn (fun b => pv.ownBlock = some b) w w' ∧
      LX (w'.setCell ⟨lb, 0, none⟩ pv') lo lb pv' hv av { l with puts := l.puts ++ [k] } ∧ Turn (LO lb pv hv av) w (w'.setCell ⟨lb, 0, none⟩ pv') ∧ (w'.cell? ⟨lb, 0, none⟩ = some pv ∧ w'.frozen? ⟨lb, 0, none⟩ = false) := by
  obtain ⟨pv', w', hr, ho, ht, hb⟩ := appPut w lo pv x l.puts k h.p hx hlo hn
  have hlb := h.bl.turn ht h.pl
  have hlt := h.bl.lt
  have hnl : pv'.ownBlock ≠ some lb := fun e => by
    rcases hb lb e with h1 | h1
    · exact h.pl h1
    · omega
  have ht2 : Turn (LO lb pv hv av) w w' := ⟨ht.os, ht.tape, ht.output, ht.size, fun j hj hn => ht.block j hj (fun e => hn (.inr (.inl e)))⟩
  have hT : Turn (LO lb pv hv av) w (w'.setCell ⟨lb, 0, none⟩ pv') := Turn.setCell ht2 (.inl (.inl rfl)) _
  have hS : Turn (fun b => b = lb) w' (w'.setCell ⟨lb, 0, none⟩ pv') := (TA.set (Turn.refl _ w') 0 pv')
  refine ⟨pv', w', hr, ht, ⟨?_, ?_, ?_, ?_, h.low, hnl, h.hl, h.al, ?_, ?_, h.ha⟩, hT, ?_, ?_⟩
  · exact hlb.set 0 pv'
  · exact own_turn ho hS (fun g hg e => hnl (e ▸ hg))
  · exact own_turn (own_turn h.h ht (fun g hg e => h.ph g e hg)) hS (fun g hg e => h.hl (e ▸ hg))
  · exact own_turn (own_turn h.a ht (fun g hg e => h.pa g e hg)) hS (fun g hg e => h.al (e ▸ hg))
  · intro g hg e
    rcases hb g hg with h1 | h1
    · exact h.ph g h1 e
    · have := (Mm.own_block_new h.h e).2; omega
  · intro g hg e
    rcases hb g hg with h1 | h1
    · exact h.pa g h1 e
    · have := (Mm.own_block_new h.a e).2; omega
  · exact hlb.cell 0
  · exact hlb.frozen 0
def nilS : Value := .slice none 0 0
/-- While the words are laid down: the processor, the list of the words, the line. -/
structure LV (W v : World) (cb sb lb : Nat) (pv : Value) (n : Nat) : Prop where
  lx : LX v lb lb pv nilS nilS ⟨lvW.take n, [], [], 0⟩
  cpu : RB v cb 86 lr0 [.bool false]
  sl : Bl v sb 22 (lvW.map (fun p => W32 p.2))
  bel : Below W.heap.size W v
  c0 : W.heap.size ≤ cb
  c1 : cb < sb
  c2 : sb < lb
theorem LV.step {W v v' : World} {cb sb lb n : Nat} {pv : Value} (h : LV W v cb sb lb pv n) (hb : Below v.heap.size v v') : LV W v' cb sb lb pv n := ⟨h.lx.below hb, h.cpu.below hb, h.sl.below hb, Below.step h.bel hb, h.c0, h.c1, h.c2⟩
theorem LV.drew {W v : World} {cb sb lb n : Nat} {pv : Value} (h : LV W v cb sb lb pv n) : LV W v.drew cb sb lb pv n := ⟨h.lx.drew, h.cpu.drew, h.sl.drew, below_drew h.bel, h.c0, h.c1, h.c2⟩
theorem LV.rn {W v : World} {cb sb lb : Nat} {pv : Value} (h : LV W v cb sb lb pv 7) : RN W v cb lb lb sb (lvW.map (fun p => W32 p.2)) pv nilS lv0 lr0 := by
  have h0 := h.c0
  have h1 := h.c1
  have h2 := h.c2
  exact ⟨⟨nilS, h.lx, fun e => by have := h.lx.ge e; omega, fun g hg => by have := h.lx.ge hg; omega⟩, h.cpu, h.bel, h.sl, h2, by omega⟩
theorem LV.put {W v : World} {cb sb lb n : Nat} {pv : Value} (h : LV W v cb sb lb pv n) (hn : n < 7) (p : Int × Int) (hp : lvW[n]? = some p) (qb : Nat) (hq : Bl v qb 45 (ptL p)) :
    ∃ pv' w', (∃ sa sn sc, pv' = .slice sa sn sc) ∧ (∀ ty, (Builtin.append_ #[46, 46] ty #[pv, .slice (some ⟨qb, 0, none⟩) 1 1]).run Tryz.prog v = .ok pv' w') ∧ LV W (w'.setCell ⟨lb, 0, none⟩ pv') cb sb lb pv' (n + 1) ∧ (w'.cell? ⟨lb, 0, none⟩ = some pv ∧ w'.frozen? ⟨lb, 0, none⟩ = false) ∧ w'.cell? ⟨sb, n, none⟩ = some (.int .u32 p.2) := by
  have h0 := h.c0
  have h1 := h.c1
  have h2 := h.c2
  have hlt := h.lx.bl.lt
  have hsrc : Src Tryz.prog 2 46 (.slice (some ⟨qb, 0, none⟩) 1 1) 1 (ptL p) v := Src.ofSlice _ Tryz.underlying46 ⟨qb, 0, none⟩ 1 1 _ rfl (fun j u hj => by rw [Addr.add_lit, Nat.zero_add]; exact (hq.cell j).trans hj) (by intro u hu; simp only [ptL, List.mem_cons, List.mem_nil_iff, or_false] at hu; rcases hu with rfl | rfl <;> rfl)
  have hlen : (lvW.take n).length ≤ 400000000000 := by rw [List.length_take]; omega
  obtain ⟨pv', w', hr, ht, hlx, hT, hc⟩ := h.lx.put (by omega) p _ hsrc hlen
  have ms : ¬ LO lb pv nilS nilS sb := fun e => by have := h.lx.ge e; omega
  have mc : ¬ LO lb pv nilS nilS cb := fun e => by have := h.lx.ge e; omega
  have et : lvW.take n ++ [p] = lvW.take (n + 1) := by rw [List.take_add_one, hp]; rfl
  have hlx2 : LX (w'.setCell ⟨lb, 0, none⟩ pv') lb lb pv' nilS nilS ⟨lvW.take (n + 1), [], [], 0⟩ := by rw [← et]; exact hlx
  have hs2 : Bl w' sb 22 (lvW.map (fun p => W32 p.2)) := h.sl.turn ht (fun e => ms (.inr (.inl e)))
  refine ⟨pv', w', (by obtain ⟨a, c, e⟩ := own_slice hlx.p; exact ⟨a, _, c, e⟩), hr, ⟨hlx2, RB.turn h.cpu hT mc, h.sl.turn hT ms, h.bel.trans (Turn.to hT (fun x hx => by have := h.lx.ge hx; omega) h.bel.size), h0, h1, h2⟩, hc, ?_⟩
  rw [hs2.cell n, List.getElem?_map, hp]
  rfl
theorem LV.first {W w1 : World} {cb : Nat} (hb : Below W.heap.size W w1) (hc : RB w1 cb 86 lr0 [.bool false]) (h0 : W.heap.size ≤ cb) : LV W ((w1.alloc (.cells (lvW.map (fun p => W32 p.2)).toArray 22)).alloc (.cells #[.slice none 0 0, .slice none 0 0, .slice none 0 0, .int .u32 0] 58)) cb w1.heap.size (w1.heap.size + 1) nilS 0 := by
  have b1 := below_new w1 (.cells (lvW.map (fun p => W32 p.2)).toArray 22)
  have b2 := below_new (w1.alloc (.cells (lvW.map (fun p => W32 p.2)).toArray 22)) (.cells #[.slice none 0 0, .slice none 0 0, .slice none 0 0, .int .u32 0] 58)
  have hl := Bl.new (w1.alloc (.cells (lvW.map (fun p => W32 p.2)).toArray 22)) 58 [.slice none 0 0, .slice none 0 0, .slice none 0 0, .int .u32 0]
  rw [World.size_alloc] at hl
  have hcl := hc.bl.lt
  refine ⟨⟨hl, World.ownsRow_nil _ _ _ _, World.ownsRow_nil _ _ _ _, World.ownsRow_nil _ _ _ _, Nat.le_refl _, by simp [nilS, Value.ownBlock], by simp [nilS, Value.ownBlock], by simp [nilS, Value.ownBlock], by simp [nilS, Value.ownBlock], by simp [nilS, Value.ownBlock], by simp [nilS, Value.ownBlock]⟩, hc.below (Below.step b1 b2), (Bl.new w1 22 _).below b2, Below.step hb (Below.step b1 b2) , h0, by omega, by omega⟩
end Go.Proofs.YtilhceajhlaojaaGreatDoor
namespace Go.Proofs.YtilhceajhlaojaaGreatDoor
open Go.RowKit
set_option linter.unusedVariables false
set_option linter.unusedSimpArgs false
theorem eqT (k a p : Int) (w : World) : (Op.equalIn 10000 50 (.agg #[.int .i64 k, .int .u32 a, .int .u32 p, .int .u32 0, .int .i64 0, .int .i64 0, .int .i64 0, .bool false]) (.agg #[.int .i64 k, .int .u32 a, .int .u32 p, .int .u32 0, .int .i64 0, .int .i64 0, .int .i64 0, .bool false])).run Tryz.prog w = .ok true w := by
  go_simp
theorem ex_mul (ev : Operand → Value) (o : Oper) (s : Nat) (ho : o.op = .binOp .mul 3 (.const (.int .i64 4)) (.tmp s) 3) (n : Nat) (hn : n < 7) (h : ev (.tmp s) = .int .i64 (n : Int)) (hc : ev (.const (.int .i64 4)) = .int .i64 4) (w : World) : (execOp ev o).run Tryz.prog w = .ok (.value (.int .i64 (4 * (n : Int)))) w := by
  have e : IntKind.i64.wrap (4 * (n : Int)) = 4 * (n : Int) := by rw [IntKind.wrap_i64]; omega
  unfold execOp
  simp only [ho, h, hc]
  go_simp
theorem ex_conv (ev : Operand → Value) (o : Oper) (s : Nat) (ho : o.op = .convert 3 22 (.tmp s)) (n : Nat) (hn : n < 7) (h : ev (.tmp s) = .int .i64 (4 * (n : Int))) (w : World) : (execOp ev o).run Tryz.prog w = .ok (.value (.int .u32 (4 * (n : Int)))) w := by
  have e : IntKind.u32.wrap (4 * (n : Int)) = 4 * (n : Int) := by rw [IntKind.wrap_u32']; omega
  unfold execOp
  simp only [ho, h]
  go_simp
theorem ex_neqT (ev : Operand → Value) (o : Oper) (s t : Nat) (ho : o.op = .binOp .neq 50 (.tmp s) (.tmp t) 50) (k a p : Int) (h1 : ev (.tmp s) = .agg #[.int .i64 k, .int .u32 a, .int .u32 p, .int .u32 0, .int .i64 0, .int .i64 0, .int .i64 0, .bool false]) (h2 : ev (.tmp t) = .agg #[.int .i64 k, .int .u32 a, .int .u32 p, .int .u32 0, .int .i64 0, .int .i64 0, .int .i64 0, .bool false]) (w : World) : (execOp ev o).run Tryz.prog w = .ok (.value (.bool false)) w := by
  have e := eqT k a p
  unfold execOp
  simp only [ho, h1, h2]
  go_simp
end Go.Proofs.YtilhceajhlaojaaGreatDoor

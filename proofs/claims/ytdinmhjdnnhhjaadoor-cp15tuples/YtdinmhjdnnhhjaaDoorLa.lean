import Derived.Test.YtdinmhjdnnhhjaaDoorPa
namespace Go.Proofs.YtdinmhjdnnhhjaaDoor
open Go.RowKit
set_option linter.unusedVariables false
set_option linter.unusedSimpArgs false
set_option maxRecDepth 100000 in
theorem no_any (x : Int) (w : World) : Calls Tryd.prog 13 #[.int .i64 x] w fun e w' => e = .returned (.int .i64 x) ∧ w = w' := by
  go_enter Tryd.func13, Tryd.ntmps13
  go_wp2
  go_ret
  exact ⟨rfl, rfl⟩
def hdF (F : List Nat) (k : Nat) : List Nat := F.take k ++ List.replicate (13 - k) 0
theorem hdF_len (F : List Nat) (k : Nat) (hF : F.length = 13) (hk : k ≤ 13) : (hdF F k).length = 13 := by simp [hdF]; omega
theorem hdF_set (F : List Nat) (k : Nat) (hF : F.length = 13) (hk : k < 13) : (hdF F k).set k (F.getD k 0) = hdF F (k + 1) := by
  unfold hdF
  rw [List.set_append_right _ _ (by simp; omega)]
  have e1 : k - (List.take k F).length = 0 := by simp; omega
  have e2 : 13 - k = (13 - (k + 1)) + 1 := by omega
  have hk2 : k < F.length := by omega
  rw [e1, e2, List.replicate_succ, List.set_cons_zero, List.take_succ_eq_append_getElem hk2, List.append_assoc]
  have e3 : F.getD k 0 = F[k] := by simp [List.getD, hk2]
  rw [e3]
  rfl
theorem hdF_all (F : List Nat) (hF : F.length = 13) : hdF F 13 = F := by
  unfold hdF
  rw [List.take_of_length_le (by omega)]
  simp
structure Hx (w wr : World) (g b : Nat) (F L : List Nat) : Prop where
  bel : Below w.heap.size w wr
  res : Fi 31 wr w.heap.size (List.replicate 13 0)
  loc : Fi 31 wr g L
  fi : Fi 63 wr b F
  ne : ¬ w.heap.size = g
  new : w.heap.size ≤ g
  old : b < w.heap.size
theorem Hx.set {w wr : World} {g b : Nat} {F L : List Nat} (h : Hx w wr g b F L) (r x : Nat) (hx : x < 4294967296) : Hx w (wr.setCell ⟨g, r, none⟩ (.int .u32 (x : Int))) g b F (L.set r x) :=
  ⟨h.bel.setCell h.new _, h.res.setO h.ne _ _, h.loc.set r x hx, h.fi.setO (by have := h.old; have := h.new; omega) _ _, h.ne, h.new, h.old⟩
theorem Hx.start (w : World) (b : Nat) (F : List Nat) (hF : Fi 63 w b F) : Hx w ((w.alloc (.cells (encF (List.replicate 13 0)).toArray 31)).alloc (.cells (encF (List.replicate 13 0)).toArray 31)) (w.heap.size + 1) b F (hdF F 0) := by
  have hb : Below w.heap.size w ((w.alloc (.cells (encF (List.replicate 13 0)).toArray 31)).alloc (.cells (encF (List.replicate 13 0)).toArray 31)) := (below_new _ _).alloc (by simp) _
  refine ⟨hb, ⟨(Bl.new _ _ _).below (below_new _ _), rfl, by simp⟩, ⟨?_, rfl, by simp [hdF]⟩, hF.below hb, by omega, by omega, hF.lt⟩
  have := Bl.new (w.alloc (.cells (encF (List.replicate 13 0)).toArray 31)) 31 (encF (List.replicate 13 0))
  rw [show hdF F 0 = List.replicate 13 0 by simp [hdF]]
  simpa using this
theorem encF_one (F : List Nat) : ∀ v ∈ encF F, v.oneCell' = true := by
  intro v hv
  simp only [encF, List.mem_map] at hv
  obtain ⟨x, _, rfl⟩ := hv
  rfl
theorem Fi.there {t : TypeId} {w : World} {b : Nat} {F : List Nat} (h : Fi t w b F) : w.there b 0 13 := fun j hj => by
  rw [Nat.zero_add, h.cell hj, h.frozen]
  exact ⟨rfl, rfl⟩
theorem below_cellsF {B b : Nat} {a : World} (hb : B ≤ b) : ∀ (vs : List Value) (o : Nat) (w : World), Below B a w → Below B a (w.setCells b o vs)
  | [], _, _, h => h
  | v :: r, o, w, h => below_cellsF hb r (o + 1) _ (h.setCell hb v)
theorem info31 : (Tryd.prog.info? 31).map (·.size) = some 13 := by kernel_rfl
theorem ret_cell2 {R : Ending → World → Prop} {a : Act} {V : World} {v : Value} {n : Nat} (h0 : a.tmps.getD 2 undef = .pointer (some ⟨n, 0, none⟩)) (hl : (loadVar 31 ⟨n, 0, none⟩).run Tryd.prog V = .ok v V) (hd : a.defers = []) (hR : R (.returned v) V) : bodyPost Tryd.prog Tryd.f10 R .ret a V := by
  refine bodyPost_ret (v := v) ?_ hd hR
  simp only [results, Tryd.results10]
  generalize loadVar = LV at *
  have h1 : a.tmps[2]?.getD undef = .pointer (some ⟨n, 0, none⟩) := by simpa using h0
  simp [h1, hl, asAddr]
set_option maxRecDepth 100000 in
set_option maxHeartbeats 4000000 in
theorem held_any (b : Nat) (F : List Nat) (w : World) (hF : Fi 63 w b F) :
    Calls Tryd.prog 10 #[.pointer (some ⟨b, 0, none⟩)] w fun e w' => e = .returned (.agg (encF F).toArray) ∧ Below w.heap.size w w' := by
  have HX0 : Hid _ := Hx.start w b F hF
  have hz : ∀ w, (zeroValue 31).run Tryd.prog w = .ok (.agg (encF (List.replicate 13 0)).toArray) w := fun w => by kernel_rfl
  have HL : Hid (F.length = 13) := hF.len
  have HG : Hid (∀ (r : Nat) (w : World), r < 13 → Fi 63 w b F → Calls Tryd.prog 15 #[.pointer (some ⟨b, 0, none⟩), .int .i64 (r : Int)] w fun e w' => e = .returned (.tuple #[.int .u32 ((F.getD r 0 : Nat) : Int), .int .i64 0]) ∧ w = w') := fun r w hr h => by
    have := get_any b F r w h
    rwa [gt_yes F r hr] at this
  clear hF
  generalize hZ0 : encF (List.replicate 13 0) = Z0 at *
  clear hZ0
  go_enter Tryd.func10, Tryd.ntmps10
  go_wp2
  clear hz
  generalize w.heap.size + 1 = g at *
  go_loopw [4] (fun i wr => ∃ (k : Nat), k ≤ 13 ∧ i = .int .i64 k ∧ Hx w wr g b F (hdF F k)) (fun i _ => 13 - (intOf i).toNat)
  case atStart => exact ⟨0, by omega, rfl, HX0.out⟩
  case round =>
    obtain ⟨k, hk, rfl, hX⟩ := hrel
    have HX : Hid (Hx w wr g b F (hdF F k)) := hX
    clear hX HX0
    by_cases h : k < 13
    · have hi : (k : Int) < 13 := by omega
      have hw : IntKind.i64.wrap ((k : Int) + 1) = ((k + 1 : Nat) : Int) := by rw [IntKind.wrap_i64]; omega
      have hg := HG.out k wr h HX.out.fi
      have c0 := HX.out.loc.cell h
      have f0 := HX.out.loc.frozen k
      have l0 := HX.out.loc.lt
      have HS : Hid (Hx w (wr.setCell ⟨g, k, none⟩ (.int .u32 ((F.getD k 0 : Nat) : Int))) g b F (hdF F (k + 1))) := by
        show Hx _ _ _ _ _ _
        rw [← hdF_set F k HL.out h]
        exact HX.out.set k _ (HX.out.fi.lt32 k)
      clear HX hk HG
      generalize F.getD k 0 = V at *
      generalize (hdF F k).getD k 0 = U at *
      go_wp2_with (go_at_call 15; refine hg.mono ?_; rintro e w' ⟨rfl, rfl⟩)
      go_roundw
      case rel => exact ⟨k + 1, by omega, rfl, HS.out⟩
      case measure => simp [intOf]; omega
    · obtain rfl : k = 13 := by omega
      have hX : Hx w wr g b F F := by have := HX.out; rwa [hdF_all F HL.out] at this
      have HR : Hid (wr.rangeAt g 0 (encF F)) := hX.loc.row.range
      have HI : Hid ((Tryd.prog.info? 31).map (·.size) = some (encF F).length) := by show _ = _; rw [encF_len, HL.out]; exact info31
      have HI2 : Hid ((Tryd.prog.info? 31).map (·.size) = some (encF F).toArray.size) := by show _ = _; rw [List.size_toArray, encF_len, HL.out]; exact info31
      have e13 : (encF F).toArray.size = 13 := by rw [List.size_toArray, encF_len, HL.out]
      have HT : Hid (wr.there w.heap.size 0 (encF F).toArray.size) := by show World.there _ _ _ _; rw [e13]; exact hX.res.there
      clear e13
      have HO : Hid ((encF F).toArray.all (·.oneCell') = true) := all_oneCell_toArray (encF_one F)
      have hE : (wr.setCells w.heap.size 0 (encF F).toArray.toList).rangeAt w.heap.size 0 (encF F) ∧ Below w.heap.size w (wr.setCells w.heap.size 0 (encF F).toArray.toList) :=
        ⟨by have := World.rangeAt_setCells_same wr w.heap.size 0 (encF F) (by have := HT.out; simpa using this); simpa using this, below_cellsF (Nat.le_refl _) _ _ _ hX.bel⟩
      have HE : Hid _ := hE
      clear hE hX HX HG h hk
      generalize hQ : encF F = L at *
      have HQ : Hid (encF F = L) := hQ
      clear hQ
      go_wp2_with (first
        | (guard_target =~ wpList _ _ _ (Oper.mk (some 20) _ _ _ _ _ :: _) _ _; refine wpList_load_mid rfl _ _ rfl g 0 rfl L _ HR.out Tryd.underlying31 rfl HI.out ?_)
        | (guard_target =~ wpList _ _ _ (Oper.mk none _ _ _ _ _ :: _) _ _; refine wpList_store_mid rfl 31 (.tmp 2) (.tmp 20) rfl w.heap.size 0 L.toArray rfl rfl HT.out HI2.out HO.out ?_; have hl := run_loadVar_mid (P := Tryd.prog) _ w.heap.size 0 31 L _ HE.out.1 Tryd.underlying31 rfl HI.out; have HL2 : Hid _ := hl; clear hl HT HO HI HI2; dsimp only at HE HL2 ⊢; generalize World.setCells _ w.heap.size 0 _ = V at *)
        | go_in)
      refine ret_cell2 (n := w.heap.size) rfl HL2.out rfl ⟨by rw [HQ.out], HE.out.2⟩
end Go.Proofs.YtdinmhjdnnhhjaaDoor

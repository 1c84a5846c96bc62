import Derived.Test.YtfgfjodajjfbaaaDoorSn
import Derived.Test.YtfgfjodajjfbaaaDoorPlF
namespace Go.Proofs.YtfgfjodajjfbaaaDoor
open Go.RowKit
set_option linter.unusedVariables false
/-- The names of the commands, in their table. -/
def NM (w : World) : Prop := ∀ j, j < 21 → w.cell? ⟨0, j, none⟩ = some (.string (nmW j))
theorem NM.below {w w' : World} (h : NM w) (hb : Below w.heap.size w w') : NM w' := fun j hj => cell_keep (h j hj) hb
set_option maxRecDepth 100000 in
set_option maxHeartbeats 400000 in
/-- script.kindOf, by the names alone. -/
theorem kindOf_nm (s : ByteArray) (w : World) (ht : NM w) : Calls Tryd.prog 15 #[.string s] w fun e w' => e = .returned (.int .i64 (kindN s)) ∧ w = w' := by
  have HT : Hid _ := ht
  clear ht
  go_enter Tryd.func15, Tryd.ntmps15
  go_wp2
  go_loopw [2, 3] (fun r i wr => ∃ (n : Nat), r = .int .i64 0 ∧ i = .int .i64 n ∧ w = wr ∧ 1 ≤ n ∧ n ≤ 21 ∧ Hid (∀ j, 1 ≤ j → j < n → nmW j ≠ s)) (fun _ i _ => 21 - (intOf i).toNat)
  case atStart => exact ⟨1, rfl, rfl, rfl, by omega, by omega, fun j h1 h2 => by omega⟩
  case round =>
    obtain ⟨n, rfl, rfl, rfl, h1, h21, HN⟩ := hrel
    by_cases hn : n ≤ 20
    · have hc := HT.out n (by omega)
      have b1 : (n : Int) ≤ 20 := by omega
      have b0 : (0 : Int) ≤ (n : Int) := by omega
      have b2 : (n : Int) < 21 := by omega
      by_cases he : nmW n = s
      · have hk : kindN s = n := by rw [← he]; exact kindN_at n h1 hn
        rw [he] at hc
        have HK : Hid (_ = _) := hk
        clear he hk
        go_wp2
        go_ret
        exact ⟨ret_int HK.out.symm, rfl⟩
      · have hq := s_ne he
        have HE : Hid (nmW n ≠ s) := he
        clear he
        obtain ⟨z, hz⟩ : ∃ z, nmW n = z := ⟨_, rfl⟩
        rw [hz] at hc hq
        clear hz
        go_wp2
        go_roundw
        case rel =>
          refine ⟨n + 1, by go_num, by go_num, trivial, by omega, by omega, fun j h1 h2 => ?_⟩
          rcases Nat.lt_or_eq_of_le (Nat.le_of_lt_succ h2) with h3 | rfl
          · exact HN.out j h1 h3
          · exact HE.out
        case measure =>
          simp [intOf]
          omega
    · have hn' : n = 21 := by omega
      subst hn'
      go_wp2
      go_ret
      exact ⟨ret_int (kindN_no (fun j h1 h2 => HN.out j h1 (by omega))).symm, rfl⟩
theorem zbox (w : World) : Bl (w.alloc (.cells zA 39)) w.heap.size 39 zA.toList := Bl.new w 39 (zC 0).cells
theorem z_len : zA.size = 32 := rfl
theorem z_all : zA.all (·.oneCell') = true := cells_all _
theorem z_info : (Tryd.prog.info? 39).map (·.size) = some zA.size := cmd_info
theorem z_there {w : World} {b : Nat} (h : Bl w b 39 zA.toList) : w.there b 0 zA.size := h.there _ (by simp)
theorem z_load {w : World} {b : Nat} (h : Bl w b 39 zA.toList) : (loadVar 39 ⟨b, 0, none⟩).run Tryd.prog w = .ok (.agg zA) w := load_cmd (c := zC 0) h
theorem z_val : (zC 0).val = .agg zA := rfl
set_option maxRecDepth 100000 in
theorem build_cmd (k : Int) (w : World) : (Instr.build 39 #[(0, .int .i64 k)]).run Tryd.prog w = .ok (.agg (zA.setIfInBounds 0 (.int .i64 k))) w := by kernel_rfl
theorem wpList_value {P : Program} {ops : Array Oper} {rest : List Oper} {op : Oper} {a : Act} {w : World} {Q : Exit → Act → World → Prop} (hgd : op.guard = none) (v : Value) (hr : (execOp a.eval op).run P w = .ok (.value v) w)
    (h : wpList P ops Q rest (a.put op.dst v) w) : wpList P ops Q (op :: rest) a w :=
  wpList_plain hgd fun _ hK => by unfold Oper.wp; rw [hr]; exact hK _ _ h
theorem exec_build {op : Oper} {a : Act} {w : World} (k : Int) (ho : op.op = .build 39 #[(0, .tmp 22)]) (hx : a.eval (.tmp 22) = .int .i64 k) : (execOp a.eval op).run Tryd.prog w = .ok (.value (.agg (zA.setIfInBounds 0 (.int .i64 k)))) w := by
  unfold execOp
  simp only [ho, hx, List.map_toArray, List.map_cons, List.map_nil, Sem.run_bind, build_cmd, Result.andThen_ok, Sem.run_pure]
theorem owns_cells {B : Nat} {w : World} {v : Value} {l : List ByteArray} (h : Owns B w v l) : ∃ a cap, v = .slice a l.length cap ∧ (l ≠ [] → ∃ g, a = some ⟨g, 0, none⟩ ∧ B ≤ g ∧ ∀ (j : Nat) z, l[j]? = some z → w.cell? ⟨g, j, none⟩ = some (.string z)) := by
  have h' := h
  obtain ⟨h1, h2⟩ := h
  rcases h2 with ⟨rfl, hn⟩ | ⟨g, cap, cur, rfl, hg, hh, hn, r⟩
  · exact ⟨none, 0, by rw [hn], fun h => absurd (List.eq_nil_of_length_eq_zero hn) h⟩
  · refine ⟨some ⟨g, 0, none⟩, cap, rfl, fun _ => ⟨g, rfl, hg, fun j z hz => ?_⟩⟩
    have hj : j < l.length := (List.getElem?_eq_some_iff.1 hz).1
    have := World.ownsRow.cellAt h' j (by omega)
    rw [this, List.getElem?_map, hz]
    rfl
/-- The zero command, its facts over a letter. -/
structure ZF (z : Array Value) : Prop where
  box : ∀ w : World, Bl (w.alloc (.cells z 39)) w.heap.size 39 z.toList
  all : z.all (·.oneCell') = true
  info : (Tryd.prog.info? 39).map (·.size) = some z.size
  there : ∀ (w : World) (b : Nat), Bl w b 39 z.toList → w.there b 0 z.size
  load : ∀ (w : World) (b : Nat), Bl w b 39 z.toList → (loadVar 39 ⟨b, 0, none⟩).run Tryd.prog w = .ok (.agg z) w
  kl : ∀ k : Int, (z.setIfInBounds 0 (.int .i64 k)).toList = (zC k).cells
  kall : ∀ k : Int, (z.setIfInBounds 0 (.int .i64 k)).all (·.oneCell') = true
  kinfo : ∀ k : Int, (Tryd.prog.info? 39).map (·.size) = some (z.setIfInBounds 0 (.int .i64 k)).size
  kthere : ∀ (k : Int) (w : World) (b : Nat), Bl w b 39 z.toList → w.there b 0 (z.setIfInBounds 0 (.int .i64 k)).size
  zl : z.toList.length = 32
  z0 : z.toList = (zC 0).cells
theorem zf : ZF zA := ⟨zbox, z_all, z_info, fun _ _ => z_there, fun _ _ => z_load, fun _ => rfl, fun k => cells_all (zC k), fun _ => cmd_info, fun k _ _ h => h.there _ rfl, rfl, rfl⟩
theorem kbox {z : Array Value} (hz : ZF z) (w1 : World) (k : Int) : Bl ((w1.alloc (.cells z 39)).setCells w1.heap.size 0 (z.setIfInBounds 0 (.int .i64 k)).toList) w1.heap.size 39 (zC k).cells ∧ Below w1.heap.size w1 ((w1.alloc (.cells z 39)).setCells w1.heap.size 0 (z.setIfInBounds 0 (.int .i64 k)).toList) := by
  have h := set_all (hz.box w1) (show (z.setIfInBounds 0 (.int .i64 k)).toList.length = _ by simp)
  refine ⟨?_, Turn.to (set_turn _ 0 w1 _ (TA.of (below_new _ _))) (fun _ h => Nat.le_of_eq h.symm) (Nat.le_refl _)⟩
  rw [hz.kl] at h ⊢
  exact h
theorem below_set {w w1 : World} (h : Below w.heap.size w w1) (o : Nat) (l : List Value) : Below w.heap.size w (w1.setCells w.heap.size o l) := Turn.to (set_turn l o w w1 (TA.of h)) (fun _ h => Nat.le_of_eq h.symm) (Nat.le_refl _)
set_option maxRecDepth 100000 in
set_option maxHeartbeats 2000000 in
theorem parse_long (s : ByteArray) (w : World) (h : 256 < s.size) (hs : s.size ≤ 4611686018427387904) :
    Calls Tryd.prog 9 #[.string s] w fun e w' => e = .returned (.tuple #[.agg zA, .iface 51 (.agg #[.int .i64 153, .int .i64 (-1)])]) ∧ Below w.heap.size w w' := by
  have hz := zero_cmd
  have HZ : Hid _ := zf
  have hd : decide ((s.size : Int) > 256) = true := by simp; omega
  have hd2 : 256 < (s.size : Int) := by omega
  generalize zA = z at *
  go_enter Tryd.func9, Tryd.ntmps9
  go_wp2_with (guard_target =~ wpList _ _ _ (Oper.mk none _ _ _ _ _ :: _) _ _; refine wpList_store_mid rfl _ _ _ rfl w.heap.size 0 z rfl rfl (HZ.out.there _ _ (HZ.out.box w)) HZ.out.info HZ.out.all ?_; have hl := HZ.out.load _ _ (set_all (new := z.toList) (HZ.out.box w) rfl))
  exact bodyPost_ret (v := .tuple #[.agg z, .iface 51 (.agg #[.int .i64 153, .int .i64 (-1)])]) (by simp [results, Tryd.results9, asAddr, hl]) rfl ⟨rfl, below_set (below_new _ _) 0 _⟩
set_option maxRecDepth 100000 in
set_option maxHeartbeats 2000000 in
theorem parse_none (s : ByteArray) (w : World) (h : ¬ 256 < s.size) (hn : fieldsB (ahead s) = []) :
    Calls Tryd.prog 9 #[.string s] w fun e w' => e = .returned (.tuple #[.agg zA, .nilIface]) ∧ Below w.heap.size w w' := by
  have hz := zero_cmd
  have HZ : Hid _ := zf
  have hd : decide ((s.size : Int) > 256) = false := by simp; omega
  have hd2 : ¬ 256 < (s.size : Int) := by omega
  have HF : Hid (∀ W, Calls Tryd.prog 14 #[.string s] W fun e w' => ∃ a cap, e = .returned (.slice a 0 cap) ∧ Below W.heap.size W w') := fun W => (fields_any s W (by omega)).mono (by
    rintro e w' ⟨v, rfl, ho, hb⟩
    obtain ⟨a, cap, rfl, -⟩ := owns_cells ho
    rw [hn]
    exact ⟨a, cap, rfl, hb⟩)
  generalize zA = z at *
  go_enter Tryd.func9, Tryd.ntmps9
  go_wp2_with (first | (go_at_call 14; refine (HF.out _).mono ?_; rintro e w1 ⟨a, cap, rfl, b1⟩; have HB : Hid _ := (HZ.out.box w).below b1) | (guard_target =~ wpList _ _ _ (Oper.mk none _ _ _ _ _ :: _) _ _; refine wpList_store_mid rfl _ _ _ rfl w.heap.size 0 z rfl rfl (HZ.out.there _ _ HB.out) HZ.out.info HZ.out.all ?_; have hl := HZ.out.load _ _ (set_all (new := z.toList) HB.out rfl)))
  exact bodyPost_ret (v := .tuple #[.agg z, .nilIface]) (by simp [results, Tryd.results9, asAddr, hl]) rfl ⟨rfl, below_set (Below.one b1) 0 _⟩
set_option maxRecDepth 100000 in
set_option maxHeartbeats 2000000 in
theorem parse_verb (s x : ByteArray) (ws : List ByteArray) (w : World) (ht : NM w) (h : ¬ 256 < s.size) (hn : fieldsB (ahead s) = x :: ws) (hk : kindN x = 0) :
    Calls Tryd.prog 9 #[.string s] w fun e w' => e = .returned (.tuple #[.agg zA, .iface 51 (.agg #[.int .i64 151, .int .i64 0])]) ∧ Below w.heap.size w w' := by
  have hz := zero_cmd
  have HZ : Hid _ := zf
  have hd : decide ((s.size : Int) > 256) = false := by simp; omega
  have hd2 : ¬ 256 < (s.size : Int) := by omega
  have HT : Hid (NM (w.alloc (.cells zA 39))) := ht.below (below_new w (.cells zA 39))
  have HF : Hid (∀ W, Calls Tryd.prog 14 #[.string s] W fun e w' => ∃ g cap, e = .returned (.slice (some ⟨g, 0, none⟩) (ws.length + 1) cap) ∧ w'.cell? ⟨g, 0, none⟩ = some (.string x) ∧ Below W.heap.size W w') := fun W => (fields_any s W (by omega)).mono (by
    rintro e w' ⟨v, rfl, ho, hb⟩
    obtain ⟨a, cap, rfl, hc⟩ := owns_cells ho
    rw [hn] at hc ⊢
    obtain ⟨g, rfl, -, hc⟩ := hc (by simp)
    exact ⟨g, cap, rfl, hc 0 x rfl, hb⟩)
  have hl0 : ((ws.length : Int) + 1 == 0) = false := by simp; omega
  have HK : Hid (_ = _) := hk
  clear hk ht
  have HBD : Hid (∀ (op : Oper) (a : Act) (w : World) (k : Int), op.op = .build 39 #[(0, .tmp 22)] → a.eval (.tmp 22) = .int .i64 k → (execOp a.eval op).run Tryd.prog w = .ok (.value (.agg (zA.setIfInBounds 0 (.int .i64 k)))) w) := fun op a w k => exec_build k
  generalize zA = z at *
  go_enter Tryd.func9, Tryd.ntmps9
  go_wp2_with (first | (go_at_call 14; refine (HF.out _).mono ?_; rintro e w1 ⟨g, cap, rfl, hc, b1⟩; have HB : Hid _ := (HZ.out.box w).below b1; have HT2 : Hid (NM w1) := NM.below HT.out b1) | (go_at_call 15; refine (kindOf_nm x _ HT2.out).mono ?_; rintro e w2 ⟨rfl, rfl⟩; rw [HK.out]) | (guard_target =~ wpList _ _ _ (Oper.mk (some 23) _ _ _ _ _ :: _) _ _; refine wpList_value rfl (.agg (z.setIfInBounds 0 (.int .i64 0))) (HBD.out _ _ _ 0 rfl rfl) ?_) | (guard_target =~ wpList _ _ _ (Oper.mk none _ _ _ _ _ :: _) _ _; (refine wpList_store_mid rfl _ _ _ rfl w1.heap.size 0 (z.setIfInBounds 0 (.int .i64 0)) rfl rfl (HZ.out.kthere 0 _ _ (HZ.out.box w1)) (HZ.out.kinfo 0) (HZ.out.kall 0) ?_; obtain ⟨h5, b5⟩ := kbox HZ.out w1 0; generalize (w1.alloc (.cells z 39)).setCells w1.heap.size 0 (z.setIfInBounds 0 (.int .i64 0)).toList = w5 at h5 b5 ⊢; have hp0 := (h5.cell 0).trans (show (zC 0).cells[0]? = some (.int .i64 0) from rfl); have HB3 : Hid _ := And.intro (Bl.below HB.out b5) (Below.step (Below.one b1) b5); clear h5 b5)) | (guard_target =~ wpList _ _ _ (Oper.mk none _ _ _ _ _ :: _) _ _; (refine wpList_store_mid rfl _ _ _ rfl w.heap.size 0 z rfl rfl (HZ.out.there _ _ HB3.out.1) HZ.out.info HZ.out.all ?_; have hl := HZ.out.load _ _ (set_all (new := z.toList) HB3.out.1 rfl))))
  exact bodyPost_ret (v := .tuple #[.agg z, .iface 51 (.agg #[.int .i64 151, .int .i64 0])]) (by simp [results, Tryd.results9, asAddr, hl]) rfl ⟨rfl, below_set HB3.out.2 0 _⟩
end Go.Proofs.YtfgfjodajjfbaaaDoor

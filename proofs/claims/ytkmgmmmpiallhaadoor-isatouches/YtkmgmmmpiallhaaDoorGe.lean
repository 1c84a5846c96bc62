import Derived.Test.YtkmgmmmpiallhaaDoorGb
namespace Go.Proofs.YtkmgmmmpiallhaaDoor
open Go.RowKit
set_option linter.unusedVariables false
set_option linter.unusedSimpArgs false
theorem put_step {w:World} {b:Nat} {i j:Ins} (h:Bl w b 28 (insL i)) (k:Nat) (v:Value) (e:(insL i).set k v=insL j):Bl (w.setCell ⟨b,k,none⟩ v) b 28 (insL j)∧TA b w (w.setCell ⟨b,k,none⟩ v):=by
  refine ⟨?_,TA.set (Turn.refl _ _) k v⟩
  have:=h.set k v
  rw [e] at this
  exact this
theorem v_is_one (v:Nat):((v:Int) == 1)=(v == 1):=by
  by_cases h:v=1
  · subst h; rfl
  · rw [beq_eq_false_iff_ne.2 h,beq_eq_false_iff_ne]; omega
set_option maxRecDepth 100000 in
theorem gput_0 (i:Ins) (v b:Nat) (w:World) (hb:Bl w b 28 (insL i)) (hv:v<4294967296) (hi:0≤i.imm∧i.imm<4294967296):Calls Tryd.prog 41 #[.pointer (some ⟨b,0,none⟩),.int .u8 0,.int .u32 (v:Int)] w fun e w'=>e= .returned (.tuple #[])∧Bl w' b 28 (insL (putP i 0 v))∧TA b w w':=by
  have HB:=hidW (put_step (j:=putP i 0 v) hb 1 (.int .i64 ((v:Int)+1)) rfl)
  have c:=hb.cell 1
  have f:=hb.frozen 1
  dsimp only [insL,List.getElem?_cons_zero,List.getElem?_cons_succ] at c
  generalize insL (putP i 0 v)=L at *
  clear hb
  go_enter Tryd.func41,Tryd.ntmps41
  go_wp2
  exact bodyPost_end (v:= .tuple #[]) (by simp [results,Tryd.results41,go_sem]) rfl ⟨rfl,HB.out⟩
set_option maxRecDepth 100000 in
theorem gput_1 (i:Ins) (v b:Nat) (w:World) (hb:Bl w b 28 (insL i)) (hv:v<4294967296) (hi:0≤i.imm∧i.imm<4294967296):Calls Tryd.prog 41 #[.pointer (some ⟨b,0,none⟩),.int .u8 1,.int .u32 (v:Int)] w fun e w'=>e= .returned (.tuple #[])∧Bl w' b 28 (insL (putP i 1 v))∧TA b w w':=by
  have HB:=hidW (put_step (j:=putP i 1 v) hb 2 (.bool (v == 1)) rfl)
  have c:=hb.cell 2
  have f:=hb.frozen 2
  dsimp only [insL,List.getElem?_cons_zero,List.getElem?_cons_succ] at c
  have hv1:=v_is_one v
  generalize hq:(v == 1)=q at *
  have hq:Hid _:=hq
  generalize insL (putP i 1 v)=L at *
  clear hb
  go_enter Tryd.func41,Tryd.ntmps41
  go_wp2
  exact bodyPost_end (v:= .tuple #[]) (by simp [results,Tryd.results41,go_sem]) rfl ⟨rfl,HB.out⟩
set_option maxRecDepth 100000 in
theorem gput_2 (i:Ins) (v b:Nat) (w:World) (hb:Bl w b 28 (insL i)) (hv:v<4294967296) (hi:0≤i.imm∧i.imm<4294967296):Calls Tryd.prog 41 #[.pointer (some ⟨b,0,none⟩),.int .u8 2,.int .u32 (v:Int)] w fun e w'=>e= .returned (.tuple #[])∧Bl w' b 28 (insL (putP i 2 v))∧TA b w w':=by
  have HB:=hidW (put_step (j:=putP i 2 v) hb 4 (.int .i64 (v:Int)) rfl)
  have c:=hb.cell 4
  have f:=hb.frozen 4
  dsimp only [insL,List.getElem?_cons_zero,List.getElem?_cons_succ] at c
  generalize insL (putP i 2 v)=L at *
  clear hb
  go_enter Tryd.func41,Tryd.ntmps41
  go_wp2
  exact bodyPost_end (v:= .tuple #[]) (by simp [results,Tryd.results41,go_sem]) rfl ⟨rfl,HB.out⟩
set_option maxRecDepth 100000 in
theorem gput_3 (i:Ins) (v b:Nat) (w:World) (hb:Bl w b 28 (insL i)) (hv:v<4294967296) (hi:0≤i.imm∧i.imm<4294967296):Calls Tryd.prog 41 #[.pointer (some ⟨b,0,none⟩),.int .u8 3,.int .u32 (v:Int)] w fun e w'=>e= .returned (.tuple #[])∧Bl w' b 28 (insL (putP i 3 v))∧TA b w w':=by
  have HB:=hidW (put_step (j:=putP i 3 v) hb 5 (.int .i64 (v:Int)) rfl)
  have c:=hb.cell 5
  have f:=hb.frozen 5
  dsimp only [insL,List.getElem?_cons_zero,List.getElem?_cons_succ] at c
  generalize insL (putP i 3 v)=L at *
  clear hb
  go_enter Tryd.func41,Tryd.ntmps41
  go_wp2
  exact bodyPost_end (v:= .tuple #[]) (by simp [results,Tryd.results41,go_sem]) rfl ⟨rfl,HB.out⟩
set_option maxRecDepth 100000 in
theorem gput_4 (i:Ins) (v b:Nat) (w:World) (hb:Bl w b 28 (insL i)) (hv:v<4294967296) (hi:0≤i.imm∧i.imm<4294967296):Calls Tryd.prog 41 #[.pointer (some ⟨b,0,none⟩),.int .u8 4,.int .u32 (v:Int)] w fun e w'=>e= .returned (.tuple #[])∧Bl w' b 28 (insL (putP i 4 v))∧TA b w w':=by
  have HB:=hidW (put_step (j:=putP i 4 v) hb 6 (.int .i64 (v:Int)) rfl)
  have c:=hb.cell 6
  have f:=hb.frozen 6
  dsimp only [insL,List.getElem?_cons_zero,List.getElem?_cons_succ] at c
  generalize insL (putP i 4 v)=L at *
  clear hb
  go_enter Tryd.func41,Tryd.ntmps41
  go_wp2
  exact bodyPost_end (v:= .tuple #[]) (by simp [results,Tryd.results41,go_sem]) rfl ⟨rfl,HB.out⟩
set_option maxRecDepth 100000 in
theorem gput_5 (i:Ins) (v b:Nat) (w:World) (hb:Bl w b 28 (insL i)) (hv:v<4294967296) (hi:0≤i.imm∧i.imm<4294967296):Calls Tryd.prog 41 #[.pointer (some ⟨b,0,none⟩),.int .u8 5,.int .u32 (v:Int)] w fun e w'=>e= .returned (.tuple #[])∧Bl w' b 28 (insL (putP i 5 v))∧TA b w w':=by
  have HB:=hidW (put_step (j:=putP i 5 v) hb 7 (.int .i64 (v:Int)) rfl)
  have c:=hb.cell 7
  have f:=hb.frozen 7
  dsimp only [insL,List.getElem?_cons_zero,List.getElem?_cons_succ] at c
  generalize insL (putP i 5 v)=L at *
  clear hb
  go_enter Tryd.func41,Tryd.ntmps41
  go_wp2
  exact bodyPost_end (v:= .tuple #[]) (by simp [results,Tryd.results41,go_sem]) rfl ⟨rfl,HB.out⟩
set_option maxRecDepth 100000 in
theorem gput_6 (i:Ins) (v b:Nat) (w:World) (hb:Bl w b 28 (insL i)) (hv:v<4294967296) (hi:0≤i.imm∧i.imm<4294967296):Calls Tryd.prog 41 #[.pointer (some ⟨b,0,none⟩),.int .u8 6,.int .u32 (v:Int)] w fun e w'=>e= .returned (.tuple #[])∧Bl w' b 28 (insL (putP i 6 v))∧TA b w w':=by
  have HB:=hidW (put_step (j:=putP i 6 v) hb 8 (.int .i64 (v:Int)) rfl)
  have c:=hb.cell 8
  have f:=hb.frozen 8
  dsimp only [insL,List.getElem?_cons_zero,List.getElem?_cons_succ] at c
  generalize insL (putP i 6 v)=L at *
  clear hb
  go_enter Tryd.func41,Tryd.ntmps41
  go_wp2
  exact bodyPost_end (v:= .tuple #[]) (by simp [results,Tryd.results41,go_sem]) rfl ⟨rfl,HB.out⟩
set_option maxRecDepth 100000 in
theorem gput_7 (i:Ins) (v b:Nat) (w:World) (hb:Bl w b 28 (insL i)) (hv:v<4294967296) (hi:0≤i.imm∧i.imm<4294967296):Calls Tryd.prog 41 #[.pointer (some ⟨b,0,none⟩),.int .u8 7,.int .u32 (v:Int)] w fun e w'=>e= .returned (.tuple #[])∧Bl w' b 28 (insL (putP i 7 v))∧TA b w w':=by
  have HB:=hidW (put_step (j:=putP i 7 v) hb 9 (.int .u32 ((i.imm.toNat ||| v:Nat):Int)) rfl)
  have c:=hb.cell 9
  have f:=hb.frozen 9
  dsimp only [insL,List.getElem?_cons_zero,List.getElem?_cons_succ] at c
  have hor:bits .or .u32 i.imm (v:Int)=((i.imm.toNat ||| v:Nat):Int):=by rw [u32_or _ _ hi.1 hi.2 (by omega) (by omega),Int.toNat_natCast]
  generalize insL (putP i 7 v)=L at *
  clear hb
  go_enter Tryd.func41,Tryd.ntmps41
  go_wp2
  exact bodyPost_end (v:= .tuple #[]) (by simp [results,Tryd.results41,go_sem]) rfl ⟨rfl,HB.out⟩
set_option maxRecDepth 100000 in
theorem gput_8 (i:Ins) (v b:Nat) (w:World) (hb:Bl w b 28 (insL i)) (hv:v<4294967296) (hi:0≤i.imm∧i.imm<4294967296):Calls Tryd.prog 41 #[.pointer (some ⟨b,0,none⟩),.int .u8 8,.int .u32 (v:Int)] w fun e w'=>e= .returned (.tuple #[])∧Bl w' b 28 (insL (putP i 8 v))∧TA b w w':=by
  have HB:=hidW (put_step (j:=putP i 8 v) hb 10 (.int .i64 (v:Int)) rfl)
  have c:=hb.cell 10
  have f:=hb.frozen 10
  dsimp only [insL,List.getElem?_cons_zero,List.getElem?_cons_succ] at c
  generalize insL (putP i 8 v)=L at *
  clear hb
  go_enter Tryd.func41,Tryd.ntmps41
  go_wp2
  exact bodyPost_end (v:= .tuple #[]) (by simp [results,Tryd.results41,go_sem]) rfl ⟨rfl,HB.out⟩
set_option maxRecDepth 100000 in
theorem gput_9 (i:Ins) (v b:Nat) (w:World) (hb:Bl w b 28 (insL i)) (hv:v<4294967296) (hi:0≤i.imm∧i.imm<4294967296):Calls Tryd.prog 41 #[.pointer (some ⟨b,0,none⟩),.int .u8 9,.int .u32 (v:Int)] w fun e w'=>e= .returned (.tuple #[])∧Bl w' b 28 (insL (putP i 9 v))∧TA b w w':=by
  have HB:=hidW (put_step (j:=putP i 9 v) hb 11 (.int .i64 (v:Int)) rfl)
  have c:=hb.cell 11
  have f:=hb.frozen 11
  dsimp only [insL,List.getElem?_cons_zero,List.getElem?_cons_succ] at c
  generalize insL (putP i 9 v)=L at *
  clear hb
  go_enter Tryd.func41,Tryd.ntmps41
  go_wp2
  exact bodyPost_end (v:= .tuple #[]) (by simp [results,Tryd.results41,go_sem]) rfl ⟨rfl,HB.out⟩
set_option maxRecDepth 100000 in
theorem gput_10 (i:Ins) (v b:Nat) (w:World) (hb:Bl w b 28 (insL i)) (hv:v<4294967296) (hi:0≤i.imm∧i.imm<4294967296):Calls Tryd.prog 41 #[.pointer (some ⟨b,0,none⟩),.int .u8 10,.int .u32 (v:Int)] w fun e w'=>e= .returned (.tuple #[])∧Bl w' b 28 (insL (putP i 10 v))∧TA b w w':=by
  have HB:=hidW (put_step (j:=putP i 10 v) hb 12 (.bool (v == 1)) rfl)
  have c:=hb.cell 12
  have f:=hb.frozen 12
  dsimp only [insL,List.getElem?_cons_zero,List.getElem?_cons_succ] at c
  have hv1:=v_is_one v
  generalize hq:(v == 1)=q at *
  have hq:Hid _:=hq
  generalize insL (putP i 10 v)=L at *
  clear hb
  go_enter Tryd.func41,Tryd.ntmps41
  go_wp2
  exact bodyPost_end (v:= .tuple #[]) (by simp [results,Tryd.results41,go_sem]) rfl ⟨rfl,HB.out⟩
set_option maxRecDepth 100000 in
theorem gput_11 (i:Ins) (v b:Nat) (w:World) (hb:Bl w b 28 (insL i)) (hv:v<4294967296) (hi:0≤i.imm∧i.imm<4294967296):Calls Tryd.prog 41 #[.pointer (some ⟨b,0,none⟩),.int .u8 11,.int .u32 (v:Int)] w fun e w'=>e= .returned (.tuple #[])∧Bl w' b 28 (insL (putP i 11 v))∧TA b w w':=by
  have HB:=hidW (put_step (j:=putP i 11 v) hb 13 (.bool (v == 1)) rfl)
  have c:=hb.cell 13
  have f:=hb.frozen 13
  dsimp only [insL,List.getElem?_cons_zero,List.getElem?_cons_succ] at c
  have hv1:=v_is_one v
  generalize hq:(v == 1)=q at *
  have hq:Hid _:=hq
  generalize insL (putP i 11 v)=L at *
  clear hb
  go_enter Tryd.func41,Tryd.ntmps41
  go_wp2
  exact bodyPost_end (v:= .tuple #[]) (by simp [results,Tryd.results41,go_sem]) rfl ⟨rfl,HB.out⟩
set_option maxRecDepth 100000 in
theorem gput_12 (i:Ins) (v b:Nat) (w:World) (hb:Bl w b 28 (insL i)) (hv:v<4294967296) (hi:0≤i.imm∧i.imm<4294967296):Calls Tryd.prog 41 #[.pointer (some ⟨b,0,none⟩),.int .u8 12,.int .u32 (v:Int)] w fun e w'=>e= .returned (.tuple #[])∧Bl w' b 28 (insL (putP i 12 v))∧TA b w w':=by
  have HB:=hidW (put_step (j:=putP i 12 v) hb 14 (.bool (v == 1)) rfl)
  have c:=hb.cell 14
  have f:=hb.frozen 14
  dsimp only [insL,List.getElem?_cons_zero,List.getElem?_cons_succ] at c
  have hv1:=v_is_one v
  generalize hq:(v == 1)=q at *
  have hq:Hid _:=hq
  generalize insL (putP i 12 v)=L at *
  clear hb
  go_enter Tryd.func41,Tryd.ntmps41
  go_wp2
  exact bodyPost_end (v:= .tuple #[]) (by simp [results,Tryd.results41,go_sem]) rfl ⟨rfl,HB.out⟩
set_option maxRecDepth 100000 in
theorem gput_13 (i:Ins) (v b:Nat) (w:World) (hb:Bl w b 28 (insL i)) (hv:v<4294967296) (hi:0≤i.imm∧i.imm<4294967296):Calls Tryd.prog 41 #[.pointer (some ⟨b,0,none⟩),.int .u8 13,.int .u32 (v:Int)] w fun e w'=>e= .returned (.tuple #[])∧Bl w' b 28 (insL (putP i 13 v))∧TA b w w':=by
  have HB:=hidW (put_step (j:=putP i 13 v) hb 15 (.int .u16 ((v%65536:Nat):Int)) rfl)
  have c:=hb.cell 15
  have f:=hb.frozen 15
  dsimp only [insL,List.getElem?_cons_zero,List.getElem?_cons_succ] at c
  have hw:IntKind.u16.wrap (v:Int)=((v%65536:Nat):Int):=by rw [IntKind.wrap_u16]; omega
  generalize insL (putP i 13 v)=L at *
  clear hb
  go_enter Tryd.func41,Tryd.ntmps41
  go_wp2
  exact bodyPost_end (v:= .tuple #[]) (by simp [results,Tryd.results41,go_sem]) rfl ⟨rfl,HB.out⟩
set_option maxRecDepth 100000 in
theorem gput_14 (i:Ins) (v b:Nat) (w:World) (hb:Bl w b 28 (insL i)) (hv:v<4294967296) (hi:0≤i.imm∧i.imm<4294967296):Calls Tryd.prog 41 #[.pointer (some ⟨b,0,none⟩),.int .u8 14,.int .u32 (v:Int)] w fun e w'=>e= .returned (.tuple #[])∧Bl w' b 28 (insL (putP i 14 v))∧TA b w w':=by
  have HB:=hidW (put_step (j:=putP i 14 v) hb 16 (.int .i64 (v:Int)) rfl)
  have c:=hb.cell 16
  have f:=hb.frozen 16
  dsimp only [insL,List.getElem?_cons_zero,List.getElem?_cons_succ] at c
  generalize insL (putP i 14 v)=L at *
  clear hb
  go_enter Tryd.func41,Tryd.ntmps41
  go_wp2
  exact bodyPost_end (v:= .tuple #[]) (by simp [results,Tryd.results41,go_sem]) rfl ⟨rfl,HB.out⟩
set_option maxRecDepth 100000 in
theorem gput_15 (i:Ins) (v b:Nat) (w:World) (hb:Bl w b 28 (insL i)) (hv:v<4294967296) (hi:0≤i.imm∧i.imm<4294967296):Calls Tryd.prog 41 #[.pointer (some ⟨b,0,none⟩),.int .u8 15,.int .u32 (v:Int)] w fun e w'=>e= .returned (.tuple #[])∧Bl w' b 28 (insL (putP i 15 v))∧TA b w w':=by
  have HB:=hidW (put_step (j:=putP i 15 v) hb 17 (.int .i64 (v:Int)) rfl)
  have c:=hb.cell 17
  have f:=hb.frozen 17
  dsimp only [insL,List.getElem?_cons_zero,List.getElem?_cons_succ] at c
  generalize insL (putP i 15 v)=L at *
  clear hb
  go_enter Tryd.func41,Tryd.ntmps41
  go_wp2
  exact bodyPost_end (v:= .tuple #[]) (by simp [results,Tryd.results41,go_sem]) rfl ⟨rfl,HB.out⟩
set_option maxRecDepth 100000 in
theorem gput_16 (i:Ins) (v b:Nat) (w:World) (hb:Bl w b 28 (insL i)) (hv:v<4294967296) (hi:0≤i.imm∧i.imm<4294967296):Calls Tryd.prog 41 #[.pointer (some ⟨b,0,none⟩),.int .u8 16,.int .u32 (v:Int)] w fun e w'=>e= .returned (.tuple #[])∧Bl w' b 28 (insL (putP i 16 v))∧TA b w w':=by
  have HB:=hidW (put_step (j:=putP i 16 v) hb 18 (.int .i64 (v:Int)) rfl)
  have c:=hb.cell 18
  have f:=hb.frozen 18
  dsimp only [insL,List.getElem?_cons_zero,List.getElem?_cons_succ] at c
  generalize insL (putP i 16 v)=L at *
  clear hb
  go_enter Tryd.func41,Tryd.ntmps41
  go_wp2
  exact bodyPost_end (v:= .tuple #[]) (by simp [results,Tryd.results41,go_sem]) rfl ⟨rfl,HB.out⟩
set_option maxRecDepth 100000 in
theorem gput_17 (i:Ins) (v b:Nat) (w:World) (hb:Bl w b 28 (insL i)) (hv:v<4294967296) (hi:0≤i.imm∧i.imm<4294967296):Calls Tryd.prog 41 #[.pointer (some ⟨b,0,none⟩),.int .u8 17,.int .u32 (v:Int)] w fun e w'=>e= .returned (.tuple #[])∧Bl w' b 28 (insL (putP i 17 v))∧TA b w w':=by
  have HB:=hidW (put_step (j:=putP i 17 v) hb 19 (.int .i64 (v:Int)) rfl)
  have c:=hb.cell 19
  have f:=hb.frozen 19
  dsimp only [insL,List.getElem?_cons_zero,List.getElem?_cons_succ] at c
  generalize insL (putP i 17 v)=L at *
  clear hb
  go_enter Tryd.func41,Tryd.ntmps41
  go_wp2
  exact bodyPost_end (v:= .tuple #[]) (by simp [results,Tryd.results41,go_sem]) rfl ⟨rfl,HB.out⟩
theorem gput_any (i:Ins) (f v b:Nat) (w:World) (hb:Bl w b 28 (insL i)) (hv:v<4294967296) (hi:0≤i.imm∧i.imm<4294967296) (hf:f<18):Calls Tryd.prog 41 #[.pointer (some ⟨b,0,none⟩),.int .u8 (f:Int),.int .u32 (v:Int)] w fun e w'=>e= .returned (.tuple #[])∧Bl w' b 28 (insL (putP i f v))∧TA b w w':=by
  have:f=0∨f=1∨f=2∨f=3∨f=4∨f=5∨f=6∨f=7∨f=8∨f=9∨f=10∨f=11∨f=12∨f=13∨f=14∨f=15∨f=16∨f=17:=by omega
  rcases this with rfl|rfl|rfl|rfl|rfl|rfl|rfl|rfl|rfl|rfl|rfl|rfl|rfl|rfl|rfl|rfl|rfl|rfl
  · exact gput_0 i v b w hb hv hi
  · exact gput_1 i v b w hb hv hi
  · exact gput_2 i v b w hb hv hi
  · exact gput_3 i v b w hb hv hi
  · exact gput_4 i v b w hb hv hi
  · exact gput_5 i v b w hb hv hi
  · exact gput_6 i v b w hb hv hi
  · exact gput_7 i v b w hb hv hi
  · exact gput_8 i v b w hb hv hi
  · exact gput_9 i v b w hb hv hi
  · exact gput_10 i v b w hb hv hi
  · exact gput_11 i v b w hb hv hi
  · exact gput_12 i v b w hb hv hi
  · exact gput_13 i v b w hb hv hi
  · exact gput_14 i v b w hb hv hi
  · exact gput_15 i v b w hb hv hi
  · exact gput_16 i v b w hb hv hi
  · exact gput_17 i v b w hb hv hi
end Go.Proofs.YtkmgmmmpiallhaaDoor

import Derived.Test.YtkmgmmmpiallhaaDoorGb
namespace Go.Proofs.YtkmgmmmpiallhaaDoor
open Go.RowKit
set_option linter.unusedVariables false
set_option linter.unusedSimpArgs false
structure ROk (r:RowP):Prop where
  op:r.op<256
  form:r.form<256
  mask:r.mask<4294967296
  bits:r.bits<4294967296
  parts:r.parts<4294967296
theorem low_ok:∀r∈lowL,ROk r:=by
  have h:lowL.all (fun r=>decide (r.op<256) && decide (r.form<256) && decide (r.mask<4294967296) && decide (r.bits<4294967296) && decide (r.parts<4294967296))=true:=by decide
  intro r hr
  have:=List.all_eq_true.1 h r hr
  simp only [Bool.and_eq_true,decide_eq_true_eq] at this
  obtain ⟨⟨⟨⟨a,b⟩,c⟩,d⟩,e⟩:=this
  exact ⟨a,b,c,d,e⟩
theorem high_ok:∀r∈highL,ROk r:=by
  have h:highL.all (fun r=>decide (r.op<256) && decide (r.form<256) && decide (r.mask<4294967296) && decide (r.bits<4294967296) && decide (r.parts<4294967296))=true:=by decide
  intro r hr
  have:=List.all_eq_true.1 h r hr
  simp only [Bool.and_eq_true,decide_eq_true_eq] at this
  obtain ⟨⟨⟨⟨a,b⟩,c⟩,d⟩,e⟩:=this
  exact ⟨a,b,c,d,e⟩
theorem fit_bits (x:Nat) (r:RowP) (hx:x<4294967296) (hr:ROk r):(bits .and .u32 (x:Int) (r.mask:Int) == (r.bits:Int))=fitR x r:=by
  have h1:=hr.mask
  rw [u32_and _ _ (by omega) (by omega) (by omega) (by omega),Int.toNat_natCast,Int.toNat_natCast,fitR]
  by_cases h:x &&& r.mask=r.bits
  · rw [h]; simp
  · rw [beq_eq_false_iff_ne.2 h,beq_eq_false_iff_ne]; omega
theorem low_len:lowL.length=37:=rfl
theorem high_len:highL.length=20:=rfl
theorem top_bits (x:Nat) (hx:x<4294967296):(bits .and .u32 ((x:Int) / 67108864) 3 == 0)=decide (x / 67108864%4=0):=by
  rw [band_mod 2 3 _ (by decide) (by decide) ⟨by omega,by omega⟩,show (2:Int)^2=4 from rfl]
  by_cases h:x / 67108864%4=0
  · rw [decide_eq_true h]; simp; omega
  · rw [decide_eq_false h,beq_eq_false_iff_ne]; simp; omega
theorem find_at {p:RowP→Bool} {l:List RowP} {n:Nat} {r:RowP} (h:l[n]? =some r):(l.drop n).find? p=if p r then some r else (l.drop (n+1)).find? p:=by
  obtain ⟨hn,rfl⟩:=List.getElem?_eq_some_iff.1 h
  rw [List.drop_eq_getElem_cons hn,List.find?_cons]
  cases p l[n] <;>rfl
theorem range_row {w:World} {b o:Nat} {r:RowP} (h:w.rangeAt b o (rowL r)):w.cell? ⟨b,o,none⟩=some (.int .u8 (r.op:Int))∧w.cell? ⟨b,o+1,none⟩=some (.int .u8 (r.form:Int))∧w.cell? ⟨b,o+2,none⟩=some (.int .u32 (r.mask:Int))∧w.cell? ⟨b,o+3,none⟩=some (.int .u32 (r.bits:Int))∧w.cell? ⟨b,o+4,none⟩=some (.int .u32 (r.parts:Int)) :=
  ⟨h 0 _ rfl,h 1 _ rfl,h 2 _ rfl,h 3 _ rfl,h 4 _ rfl⟩
theorem row_info:(Tryd.prog.info? 40).map (·.size)=some 5:=by kernel_rfl
theorem row_load {w:World} {b:Nat} {l:List Value} (h:Bl w b 40 l) (hl:l.length=5):(loadVar 40 ⟨b,0,none⟩).run Tryd.prog w= .ok (.agg l.toArray) w :=
  run_loadVar_mid w b 0 40 l _ h.range Tryd.underlying40 rfl (by rw [hl]; exact row_info)
theorem row_all (r:RowP):(rowL r).toArray.all (·.oneCell')=true:=all_oneCell_toArray fun v hv=>by
  simp only [rowL,List.mem_cons,List.not_mem_nil,or_false] at hv
  rcases hv with rfl|rfl|rfl|rfl|rfl <;>rfl
structure RX (W w:World):Prop where
  bel:Below W.heap.size W w
  box:Bl w W.heap.size 40 (rowL rowZ)
  tp:TP w
theorem RX.drew {W w:World} (h:RX W w):RX W w.drew:=⟨below_drew h.bel,h.box.drew,⟨h.tp.low,h.tp.high,h.tp.pl,h.tp.db⟩⟩
theorem RX.drewN {W w:World} (h:RX W w) (q:Nat):RX W (w.drewN q):=⟨below_drewN h.bel q,h.box.drewN q,⟨h.tp.low,h.tp.high,h.tp.pl,h.tp.db⟩⟩
theorem RX.step {W w w':World} (h:RX W w) (hb:Below w.heap.size w w'):RX W w':=⟨Below.step h.bel hb,h.box.below hb,h.tp.below hb⟩
theorem RX.put {W w:World} (h:RX W w) (r:RowP):Bl (w.setCells W.heap.size 0 (rowL r)) W.heap.size 40 (rowL r)∧Below W.heap.size W (w.setCells W.heap.size 0 (rowL r)) :=
  ⟨set_all h.box rfl,Turn.to (set_turn _ 0 W w (TA.of h.bel)) (fun _ e=>Nat.le_of_eq e.symm) (Nat.le_refl _)⟩
theorem RX.first {W:World} (h:TP W):RX W (W.alloc (.cells (rowL rowZ).toArray 40)):=⟨below_new _ _,Bl.new _ _ _,h.below (below_new _ _)⟩
set_option maxRecDepth 100000 in
set_option maxHeartbeats 1000000 in
theorem growW_low (x:Nat) (w:World) (ht:TP w) (hx:x<4294967296) (h0:x / 67108864%4=0):Calls Tryd.prog 20 #[.int .u32 (x:Int)] w fun e w'=>e= .returned (.tuple #[.agg (rowL ((lowL.find? (fitR x)).getD rowZ)).toArray,.bool (lowL.find? (fitR x)).isSome])∧Below w.heap.size w w':=by
  have ht0:=top_bits x hx
  rw [decide_eq_true h0] at ht0
  have HX:=hidW (RX.first ht)
  clear h0 ht
  have hx:Hid _:=hx
  go_enter Tryd.func20,Tryd.ntmps20
  go_wp2
  go_loopw [10] (fun k wr=>∃(n:Nat),n≤37∧k= .int .i64 (n:Int)∧(lowL.drop n).find? (fitR x)=lowL.find? (fitR x)∧RX w wr) (fun k _=>(37-intOf k).toNat)
  case atStart=>exact ⟨0,by omega,rfl,rfl,HX.out⟩
  case round =>
    clear HX
    obtain ⟨n,h1,rfl,hf,hX⟩:=hrel
    have HX:=hidW hX
    have hf:Hid _:=hf
    clear hX
    by_cases h:n<37
    · obtain ⟨r,hr⟩:∃r,lowL[n]? =some r:=⟨_,List.getElem?_eq_getElem (by rw [low_len]; exact h)⟩
      have hok:=low_ok r (List.mem_of_getElem? hr)
      have HR:=hidW (HX.out.tp.low n r hr)
      obtain ⟨c0,c1,c2,c3,c4⟩:=range_row HR.out
      have hfit:=fit_bits x r hx.out hok
      have hm1:=hok.mask
      have hm2:=hok.bits
      have HF:Hid ((lowL.drop n).find? (fitR x)=if fitR x r then some r else (lowL.drop (n+1)).find? (fitR x)):=find_at hr
      clear hok hr
      have b1:(n:Int)<37:=by omega
      have b0:(0:Int)≤(n:Int):=by omega
      have b2:decide ((n:Int)<37)=true:=decide_eq_true b1
      have HD:=fun q=>hidW (HX.out.drewN q)
      clear HX
      cases hq:fitR x r
      · rw [hq] at hfit
        have HG:Hid ((lowL.drop (n+1)).find? (fitR x)=lowL.find? (fitR x)):=by show _=_; rw [←hf.out,HF.out,hq]; rfl
        clear hf HF hq HR
        go_wp2
        go_quiet (fail)
        go_wp2
        go_roundw
        case rel=>exact ⟨n+1,by omega,by go_num,HG.out,(HD _).out⟩
        case measure=>simp [intOf]; omega
      · rw [hq] at hfit
        have HG:Hid (lowL.find? (fitR x)=some r):=by show _=_; rw [←hf.out,HF.out,hq]; rfl
        clear hf HF hq
        go_wp2
        go_quiet (fail)
        go_wp2_with (first|(guard_target =~ wpList _ _ _ (Oper.mk (some 26) _ _ _ _ _::_) _ _; refine wpList_load_mid rfl _ _ rfl 0 (n*5) rfl (rowL r) _ (HR.out:World.rangeAt (World.drewN _ _) _ _ _) Tryd.underlying40 rfl row_info ?_)|(guard_target =~ wpList _ _ _ (Oper.mk none _ _ _ _ _::_) _ _; refine wpList_store_mid rfl _ _ _ rfl w.heap.size 0 (rowL r).toArray rfl rfl ((HD _).out.box.there _ rfl) row_info (row_all r) ?_))
        have hl:=fun q=>row_load ((HD q).out.put r).1 rfl
        rw [HG.out]
        exact bodyPost_ret (v:= .tuple #[.agg (rowL r).toArray,.bool true]) (by simp [results,Tryd.results20,asAddr,hl]) rfl ⟨rfl,((HD _).out.put r).2⟩
    · obtain rfl:n=37:=by omega
      have HG:Hid (lowL.find? (fitR x)=none):=by show _=_; rw [←hf.out]; rfl
      clear h1 hf h
      go_wp2_with (first|(guard_target =~ wpList _ _ _ (Oper.mk none _ _ _ _ _::_) _ _; refine wpList_store_mid rfl _ _ _ rfl w.heap.size 0 (rowL rowZ).toArray rfl rfl (HX.out.box.there _ rfl) row_info (row_all rowZ) ?_))
      have hl:=row_load (HX.out.put rowZ).1 rfl
      rw [HG.out]
      exact bodyPost_ret (v:= .tuple #[.agg (rowL rowZ).toArray,.bool false]) (by simp [results,Tryd.results20,asAddr,hl]) rfl ⟨rfl,(HX.out.put rowZ).2⟩
set_option maxRecDepth 100000 in
set_option maxHeartbeats 1000000 in
theorem growW_high (x:Nat) (w:World) (ht:TP w) (hx:x<4294967296) (h0:¬x / 67108864%4=0):Calls Tryd.prog 20 #[.int .u32 (x:Int)] w fun e w'=>e= .returned (.tuple #[.agg (rowL ((highL.find? (fitR x)).getD rowZ)).toArray,.bool (highL.find? (fitR x)).isSome])∧Below w.heap.size w w':=by
  have ht0:=top_bits x hx
  rw [decide_eq_false h0] at ht0
  have HX:=hidW (RX.first ht)
  clear h0 ht
  have hx:Hid _:=hx
  go_enter Tryd.func20,Tryd.ntmps20
  go_wp2
  go_loopw [29] (fun k wr=>∃(n:Nat),n≤20∧k= .int .i64 (n:Int)∧(highL.drop n).find? (fitR x)=highL.find? (fitR x)∧RX w wr) (fun k _=>(20-intOf k).toNat)
  case atStart=>exact ⟨0,by omega,rfl,rfl,HX.out⟩
  case round =>
    clear HX
    obtain ⟨n,h1,rfl,hf,hX⟩:=hrel
    have HX:=hidW hX
    have hf:Hid _:=hf
    clear hX
    by_cases h:n<20
    · obtain ⟨r,hr⟩:∃r,highL[n]? =some r:=⟨_,List.getElem?_eq_getElem (by rw [high_len]; exact h)⟩
      have hok:=high_ok r (List.mem_of_getElem? hr)
      have HR:=hidW (HX.out.tp.high n r hr)
      obtain ⟨c0,c1,c2,c3,c4⟩:=range_row HR.out
      have hfit:=fit_bits x r hx.out hok
      have hm1:=hok.mask
      have hm2:=hok.bits
      have HF:Hid ((highL.drop n).find? (fitR x)=if fitR x r then some r else (highL.drop (n+1)).find? (fitR x)):=find_at hr
      clear hok hr
      have b1:(n:Int)<20:=by omega
      have b0:(0:Int)≤(n:Int):=by omega
      have b2:decide ((n:Int)<20)=true:=decide_eq_true b1
      have HD:=fun q=>hidW (HX.out.drewN q)
      clear HX
      cases hq:fitR x r
      · rw [hq] at hfit
        have HG:Hid ((highL.drop (n+1)).find? (fitR x)=highL.find? (fitR x)):=by show _=_; rw [←hf.out,HF.out,hq]; rfl
        clear hf HF hq HR
        go_wp2
        go_quiet (fail)
        go_wp2
        go_roundw
        case rel=>exact ⟨n+1,by omega,by go_num,HG.out,(HD _).out⟩
        case measure=>simp [intOf]; omega
      · rw [hq] at hfit
        have HG:Hid (highL.find? (fitR x)=some r):=by show _=_; rw [←hf.out,HF.out,hq]; rfl
        clear hf HF hq
        go_wp2
        go_quiet (fail)
        go_wp2_with (first|(guard_target =~ wpList _ _ _ (Oper.mk (some 45) _ _ _ _ _::_) _ _; refine wpList_load_mid rfl _ _ rfl 1 (n*5) rfl (rowL r) _ (HR.out:World.rangeAt (World.drewN _ _) _ _ _) Tryd.underlying40 rfl row_info ?_)|(guard_target =~ wpList _ _ _ (Oper.mk none _ _ _ _ _::_) _ _; refine wpList_store_mid rfl _ _ _ rfl w.heap.size 0 (rowL r).toArray rfl rfl ((HD _).out.box.there _ rfl) row_info (row_all r) ?_))
        have hl:=fun q=>row_load ((HD q).out.put r).1 rfl
        rw [HG.out]
        exact bodyPost_ret (v:= .tuple #[.agg (rowL r).toArray,.bool true]) (by simp [results,Tryd.results20,asAddr,hl]) rfl ⟨rfl,((HD _).out.put r).2⟩
    · obtain rfl:n=20:=by omega
      have HG:Hid (highL.find? (fitR x)=none):=by show _=_; rw [←hf.out]; rfl
      clear h1 hf h
      go_wp2_with (first|(guard_target =~ wpList _ _ _ (Oper.mk none _ _ _ _ _::_) _ _; refine wpList_store_mid rfl _ _ _ rfl w.heap.size 0 (rowL rowZ).toArray rfl rfl (HX.out.box.there _ rfl) row_info (row_all rowZ) ?_))
      have hl:=row_load (HX.out.put rowZ).1 rfl
      rw [HG.out]
      exact bodyPost_ret (v:= .tuple #[.agg (rowL rowZ).toArray,.bool false]) (by simp [results,Tryd.results20,asAddr,hl]) rfl ⟨rfl,(HX.out.put rowZ).2⟩
theorem growW_any (x:Nat) (w:World) (ht:TP w) (hx:x<4294967296):Calls Tryd.prog 20 #[.int .u32 (x:Int)] w fun e w'=>e= .returned (.tuple #[.agg (rowL ((rowW x).getD rowZ)).toArray,.bool (rowW x).isSome])∧Below w.heap.size w w':=by
  by_cases h:x / 67108864%4=0
  · have:=growW_low x w ht hx h
    rw [rowW,if_pos h]
    exact this
  · have:=growW_high x w ht hx h
    rw [rowW,if_neg h]
    exact this
end Go.Proofs.YtkmgmmmpiallhaaDoor

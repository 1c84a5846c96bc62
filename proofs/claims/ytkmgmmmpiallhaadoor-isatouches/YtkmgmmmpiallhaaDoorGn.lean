import Derived.Test.YtkmgmmmpiallhaaDoorGd
namespace Go.Proofs.YtkmgmmmpiallhaaDoor
open Go.RowKit
set_option linter.unusedVariables false
set_option linter.unusedSimpArgs false
theorem find_two (p:RowP→Bool) (l m:List RowP) (h:l.find? p=none):(l++m).find? p=m.find? p:=by rw [List.find?_append,h]; rfl
theorem find_one (p:RowP→Bool) (l m:List RowP) (r:RowP) (h:l.find? p=some r):(l++m).find? p=some r:=by rw [List.find?_append,h]; rfl
set_option maxRecDepth 100000 in
set_option maxHeartbeats 2000000 in
theorem growN_any (op form:Int) (w:World) (ht:TP w):Calls Tryd.prog 23 #[.int .i64 op,.int .i64 form] w fun e w'=>e= .returned (.tuple #[.agg (rowL ((rowN op form).getD rowZ)).toArray,.bool (rowN op form).isSome])∧Below w.heap.size w w':=by
  have HA:Hid (∀w,Calls Tryd.prog 46 #[.int .i64 op] w fun e w'=>e= .returned (.int .i64 (alikeP op))∧w'=w):=fun w=>galike_any op w
  have HX:=hidW (RX.first ht)
  unfold rowN
  clear ht
  generalize alikeP op=A at *
  have HI:Hid (∀r w,ROk r→Calls Tryd.prog 47 #[.agg (rowL r).toArray,.int .i64 A,.int .i64 form] w fun e w'=>e= .returned (.bool (isOfR A form r))∧Below w.heap.size w w'):=fun r w h=>gisOf_any r A form w h.op h.form
  generalize hP:isOfR A form=P at *
  clear hP
  go_enter Tryd.func23,Tryd.ntmps23
  go_wp2_with (go_at_call 46; refine (HA.out _).mono ?_; rintro e w' ⟨rfl,rfl⟩)
  clear HA
  go_loopw [10] (fun k wr=>∃(n:Nat),n≤37∧k= .int .i64 (n:Int)∧(lowL.drop n).find? P=lowL.find? P∧RX w wr) (fun k _=>(37-intOf k).toNat)
  case atStart=>exact ⟨0,by omega,rfl,rfl,HX.out⟩
  case round =>
    clear HX
    obtain ⟨n,h1,rfl,hf,hX⟩:=hrel
    have HX:=hidW hX
    have hf:Hid _:=hf
    clear hX
    by_cases h:n<37
    · obtain ⟨r,hr⟩:∃r,lowL[n]? =some r:=⟨_,List.getElem?_eq_getElem (by rw [low_len]; exact h)⟩
      have hok:=low_ok r (List.mem_of_getElem? hr)
      have HR:=hidW (HX.out.tp.low n r hr)
      have HF:Hid ((lowL.drop n).find? P=if P r then some r else (lowL.drop (n+1)).find? P):=find_at hr
      have HJ:Hid (∀w,Calls Tryd.prog 47 #[.agg (rowL r).toArray,.int .i64 A,.int .i64 form] w fun e w'=>e= .returned (.bool (P r))∧Below w.heap.size w w'):=fun w=>HI.out r w hok
      clear hok hr
      have b1:(n:Int)<37:=by omega
      have b0:(0:Int)≤(n:Int):=by omega
      have b2:decide ((n:Int)<37)=true:=decide_eq_true b1
      cases hq:P r
      · have HG:Hid ((lowL.drop (n+1)).find? P=lowL.find? P):=by show _=_; rw [←hf.out,HF.out,hq]; rfl
        rw [hq] at HJ
        clear hf HF hq
        go_wp2_with (guard_target =~ wpList _ _ _ (Oper.mk (some 15) _ _ _ _ _::_) _ _; refine wpList_load_mid rfl _ _ rfl 0 (n*5) rfl (rowL r) _ HR.out Tryd.underlying40 rfl row_info ?_)
        go_at_call 47
        refine (HJ.out _).mono ?_
        rintro e w5 ⟨rfl,hb⟩
        have HY:=hidW (HX.out.step hb)
        clear hb HX HJ HR
        go_wp2
        go_roundw
        case rel=>exact ⟨n+1,by omega,by go_num,HG.out,HY.out⟩
        case measure=>simp [intOf]; omega
      · have HG:Hid (lowL.find? P=some r):=by show _=_; rw [←hf.out,HF.out,hq]; rfl
        rw [hq] at HJ
        clear hf HF hq
        go_wp2_with (guard_target =~ wpList _ _ _ (Oper.mk (some 15) _ _ _ _ _::_) _ _; refine wpList_load_mid rfl _ _ rfl 0 (n*5) rfl (rowL r) _ HR.out Tryd.underlying40 rfl row_info ?_)
        go_at_call 47
        refine (HJ.out _).mono ?_
        rintro e w5 ⟨rfl,hb⟩
        have HY:=hidW (HX.out.step hb)
        have HS:=hidW (range_keep HR.out hb)
        clear hb HX HJ HR
        go_wp2_with (first|(guard_target =~ wpList _ _ _ (Oper.mk (some 21) _ _ _ _ _::_) _ _; refine wpList_load_mid rfl _ _ rfl 0 (n*5) rfl (rowL r) _ HS.out Tryd.underlying40 rfl row_info ?_)|(guard_target =~ wpList _ _ _ (Oper.mk none _ _ _ _ _::_) _ _; refine wpList_store_mid rfl _ _ _ rfl w.heap.size 0 (rowL r).toArray rfl rfl (HY.out.box.there _ rfl) row_info (row_all r) ?_))
        have hl:=row_load (HY.out.put r).1 rfl
        rw [find_one _ _ _ _ HG.out]
        exact bodyPost_ret (v:= .tuple #[.agg (rowL r).toArray,.bool true]) (by simp [results,Tryd.results23,asAddr,hl]) rfl ⟨rfl,(HY.out.put r).2⟩
    · obtain rfl:n=37:=by omega
      have HG:Hid (lowL.find? P=none):=by show _=_; rw [←hf.out]; rfl
      clear h1 hf h
      have HL:=HG
      clear HG
      generalize wr=wz at *
      go_wp2_with fail
      go_loopw [23] (fun k wr=>∃(n:Nat),n≤20∧k= .int .i64 (n:Int)∧(highL.drop n).find? P=highL.find? P∧RX w wr) (fun k _=>(20-intOf k).toNat)
      case atStart=>exact ⟨0,by omega,rfl,rfl,HX.out⟩
      case round =>
        clear HX
        obtain ⟨n,h1,rfl,hf,hX⟩:=hrel
        have HX:=hidW hX
        have hf:Hid _:=hf
        clear hX
        by_cases h:n<20
        · obtain ⟨r,hr⟩:∃r,highL[n]? =some r:=⟨_,List.getElem?_eq_getElem (by rw [high_len]; exact h)⟩
          have hok:=high_ok r (List.mem_of_getElem? hr)
          have HR:=hidW (HX.out.tp.high n r hr)
          have HF:Hid ((highL.drop n).find? P=if P r then some r else (highL.drop (n+1)).find? P):=find_at hr
          have HJ:Hid (∀w,Calls Tryd.prog 47 #[.agg (rowL r).toArray,.int .i64 A,.int .i64 form] w fun e w'=>e= .returned (.bool (P r))∧Below w.heap.size w w'):=fun w=>HI.out r w hok
          clear hok hr
          have b1:(n:Int)<20:=by omega
          have b0:(0:Int)≤(n:Int):=by omega
          have b2:decide ((n:Int)<20)=true:=decide_eq_true b1
          cases hq:P r
          · have HG:Hid ((highL.drop (n+1)).find? P=highL.find? P):=by show _=_; rw [←hf.out,HF.out,hq]; rfl
            rw [hq] at HJ
            clear hf HF hq
            go_wp2_with (guard_target =~ wpList _ _ _ (Oper.mk (some 28) _ _ _ _ _::_) _ _; refine wpList_load_mid rfl _ _ rfl 1 (n*5) rfl (rowL r) _ HR.out Tryd.underlying40 rfl row_info ?_)
            go_at_call 47
            refine (HJ.out _).mono ?_
            rintro e w5 ⟨rfl,hb⟩
            have HY:=hidW (HX.out.step hb)
            clear hb HX HJ HR
            go_wp2
            go_roundw
            case rel=>exact ⟨_,_,_,_,_,_,_,_,_,_,_,_,_,_,_,⟨n+1,by omega,by go_num,HG.out,HY.out⟩,rfl⟩
            case measure=>simp [intOf]; omega
          · have HG:Hid (highL.find? P=some r):=by show _=_; rw [←hf.out,HF.out,hq]; rfl
            rw [hq] at HJ
            clear hf HF hq
            go_wp2_with (guard_target =~ wpList _ _ _ (Oper.mk (some 28) _ _ _ _ _::_) _ _; refine wpList_load_mid rfl _ _ rfl 1 (n*5) rfl (rowL r) _ HR.out Tryd.underlying40 rfl row_info ?_)
            go_at_call 47
            refine (HJ.out _).mono ?_
            rintro e w5 ⟨rfl,hb⟩
            have HY:=hidW (HX.out.step hb)
            have HS:=hidW (range_keep HR.out hb)
            clear hb HX HJ HR
            go_wp2_with (first|(guard_target =~ wpList _ _ _ (Oper.mk (some 34) _ _ _ _ _::_) _ _; refine wpList_load_mid rfl _ _ rfl 1 (n*5) rfl (rowL r) _ HS.out Tryd.underlying40 rfl row_info ?_)|(guard_target =~ wpList _ _ _ (Oper.mk none _ _ _ _ _::_) _ _; refine wpList_store_mid rfl _ _ _ rfl w.heap.size 0 (rowL r).toArray rfl rfl (HY.out.box.there _ rfl) row_info (row_all r) ?_))
            have hl:=row_load (HY.out.put r).1 rfl
            rw [find_two _ _ _ HL.out,HG.out]
            exact bodyPost_ret (v:= .tuple #[.agg (rowL r).toArray,.bool true]) (by simp [results,Tryd.results23,asAddr,hl]) rfl ⟨rfl,(HY.out.put r).2⟩
        · obtain rfl:n=20:=by omega
          have HG:Hid (highL.find? P=none):=by show _=_; rw [←hf.out]; rfl
          clear h1 hf h
          go_wp2_with (first|(guard_target =~ wpList _ _ _ (Oper.mk none _ _ _ _ _::_) _ _; refine wpList_store_mid rfl _ _ _ rfl w.heap.size 0 (rowL rowZ).toArray rfl rfl (HX.out.box.there _ rfl) row_info (row_all rowZ) ?_))
          have hl:=row_load (HX.out.put rowZ).1 rfl
          rw [find_two _ _ _ HL.out,HG.out]
          exact bodyPost_ret (v:= .tuple #[.agg (rowL rowZ).toArray,.bool false]) (by simp [results,Tryd.results23,asAddr,hl]) rfl ⟨rfl,(HX.out.put rowZ).2⟩
end Go.Proofs.YtkmgmmmpiallhaaDoor

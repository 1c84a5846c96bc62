import Derived.Test.YtnjlajjjcmhfgaaGreatDoorTA09
import Derived.Test.YtnjlajjjcmhfgaaGreatDoorTA08
namespace Go.Proofs.YtnjlajjjcmhfgaaGreatDoor
open Go.RowKit
set_option linter.unusedVariables false
set_option linter.unusedSimpArgs false
theorem trans_any (e:Ent) (dm va:Int) (W:World) (ht:TT W) (hO:Ok e) (hva:0≤va∧va<4294967296) :
    Calls Tryz.prog 63 #[.agg #[.int .i64 e.kind,.int .u64 e.base,.int .i64 e.dom,.bool e.ns,.int .i64 e.ap,.int .u32 e.bits,.bool e.ng,.bool e.xn],.int .i64 dm,.int .u32 va] W fun r w'=>r= .returned (.agg #[.int .i64 (trF e dm va).size,.int .u32 (trF e dm va).va,.int .u64 (trF e dm va).pa,.int .i64 (trF e dm va).dom,.int .i64 (trF e dm va).ap,.int .u32 (trF e dm va).bits,.bool (trF e dm va).ng,.bool (trF e dm va).xn])∧Below W.heap.size W w':=by
  have HS:=fun ww (hh:TE ww)=>saysBlock_any e ww hh hO
  cases hs:sb e with
  | false =>
    rw [hs] at HS
    rw [show trF e dm va=tZ by unfold trF; rw [if_neg (by rw [hs]; simp)]]
    exact trans_no _ _ _ _ _ _ _ _ dm va W ht HS
  | true =>
    rw [hs] at HS
    by_cases h0:domOf e dm<0
    · rw [show trF e dm va=tZ by unfold trF; rw [if_neg (by omega)]]
      rcases sb_kind hs with h|h|h|h
      · have hD:domOf e dm=e.dom:=by unfold domOf; rw [if_pos (.inl h)]
        rw [hD] at h0
        rw [h] at HS ⊢
        exact trans_2lo _ _ _ _ _ _ _ dm va W ht (decide_eq_true h0) HS
      · have hD:domOf e dm=e.dom:=by unfold domOf; rw [if_pos (.inr h)]
        rw [hD] at h0
        rw [h] at HS ⊢
        exact trans_3lo _ _ _ _ _ _ _ dm va W ht (decide_eq_true h0) HS
      · have hD:domOf e dm=dm:=by unfold domOf; rw [if_neg (by omega)]
        rw [hD] at h0
        rw [h] at HS ⊢
        exact trans_4lo _ _ _ _ _ _ _ dm va W ht (decide_eq_true h0) HS
      · have hD:domOf e dm=dm:=by unfold domOf; rw [if_neg (by omega)]
        rw [hD] at h0
        rw [h] at HS ⊢
        exact trans_5lo _ _ _ _ _ _ _ dm va W ht (decide_eq_true h0) HS
    · by_cases h1:15<domOf e dm
      · rw [show trF e dm va=tZ by unfold trF; rw [if_neg (by omega)]]
        rcases sb_kind hs with h|h|h|h
        · have hD:domOf e dm=e.dom:=by unfold domOf; rw [if_pos (.inl h)]
          rw [hD] at h0 h1
          rw [h] at HS ⊢
          exact trans_2hi _ _ _ _ _ _ _ dm va W ht (decide_eq_false h0) (decide_eq_true h1) HS
        · have hD:domOf e dm=e.dom:=by unfold domOf; rw [if_pos (.inr h)]
          rw [hD] at h0 h1
          rw [h] at HS ⊢
          exact trans_3hi _ _ _ _ _ _ _ dm va W ht (decide_eq_false h0) (decide_eq_true h1) HS
        · have hD:domOf e dm=dm:=by unfold domOf; rw [if_neg (by omega)]
          rw [hD] at h0 h1
          rw [h] at HS ⊢
          exact trans_4hi _ _ _ _ _ _ _ dm va W ht (decide_eq_false h0) (decide_eq_true h1) HS
        · have hD:domOf e dm=dm:=by unfold domOf; rw [if_neg (by omega)]
          rw [hD] at h0 h1
          rw [h] at HS ⊢
          exact trans_5hi _ _ _ _ _ _ _ dm va W ht (decide_eq_false h0) (decide_eq_true h1) HS
      · rw [show trF e dm va=⟨szK e.kind,va / byN (szK e.kind)*byN (szK e.kind),e.base,domOf e dm,e.ap,e.bits,e.ng,e.xn⟩ by unfold trF; rw [if_pos ⟨hs,by omega,by omega⟩]]
        rcases sb_kind hs with h|h|h|h
        · have hD:domOf e dm=e.dom:=by unfold domOf; rw [if_pos (.inl h)]
          rw [hD] at h0 h1 ⊢
          rw [h] at HS ⊢
          exact trans_2 _ _ _ _ _ _ _ dm va W ht hva (decide_eq_false h0) (decide_eq_false h1) HS
        · have hD:domOf e dm=e.dom:=by unfold domOf; rw [if_pos (.inr h)]
          rw [hD] at h0 h1 ⊢
          rw [h] at HS ⊢
          exact trans_3 _ _ _ _ _ _ _ dm va W ht hva (decide_eq_false h0) (decide_eq_false h1) HS
        · have hD:domOf e dm=dm:=by unfold domOf; rw [if_neg (by omega)]
          rw [hD] at h0 h1 ⊢
          rw [h] at HS ⊢
          exact trans_4 _ _ _ _ _ _ _ dm va W ht hva (decide_eq_false h0) (decide_eq_false h1) HS
        · have hD:domOf e dm=dm:=by unfold domOf; rw [if_neg (by omega)]
          rw [hD] at h0 h1 ⊢
          rw [h] at HS ⊢
          exact trans_5 _ _ _ _ _ _ _ dm va W ht hva (decide_eq_false h0) (decide_eq_false h1) HS
end Go.Proofs.YtnjlajjjcmhfgaaGreatDoor
namespace Go.Proofs.YtnjlajjjcmhfgaaGreatDoor
open Go.RowKit
open Mm (Turn gr RM valV errV)
set_option linter.unusedVariables false
set_option linter.unusedSimpArgs false
theorem Bl.other {w:World} {b b':Nat} {t:TypeId} {l:List Value} (h:Bl w b t l) (hn:b≠b') (j:Nat) (v:Value):Bl (w.setCell ⟨b',j,none⟩ v) b t l:=by
  show (w.setCell ⟨b',j,none⟩ v).heap[b]? =_
  rw [Below.heap_setCell _ _ _ _ hn]
  exact h
theorem Bl.keep8 {w:World} {b y:Nat} {t:TypeId} {l:List Value} (h:Bl w b t l) (hn:b≠y) (v0 v1 v2 v3 v4 v5 v6 v7:Value):Bl ((((((((w.setCell ⟨y,0,none⟩ v0).setCell ⟨y,1,none⟩ v1).setCell ⟨y,2,none⟩ v2).setCell ⟨y,3,none⟩ v3).setCell ⟨y,4,none⟩ v4).setCell ⟨y,5,none⟩ v5).setCell ⟨y,6,none⟩ v6).setCell ⟨y,7,none⟩ v7) b t l :=
  (((((((h.other hn 0 v0).other hn 1 v1).other hn 2 v2).other hn 3 v3).other hn 4 v4).other hn 5 v5).other hn 6 v6).other hn 7 v7
theorem Bl.keep3 {w:World} {b y:Nat} {t:TypeId} {l:List Value} (h:Bl w b t l) (hn:b≠y) (v0 v1 v2:Value):Bl (((w.setCell ⟨y,0,none⟩ v0).setCell ⟨y,1,none⟩ v1).setCell ⟨y,2,none⟩ v2) b t l :=
  ((h.other hn 0 v0).other hn 1 v1).other hn 2 v2
theorem Fin.drew {H:Nat} {M:Mo} {iv:Value} {St:List Int→(Nat→Prop)→World→Prop} (A:Asker H M iv St) {w W:World} {Z:Nat→Prop} {L:List Int} (h:Fin H St w Z L W):Fin H St w Z L W.drew :=
  ⟨A.keep (X:=fun _=>False) h.1 (Turn.below (below_drew (Below.refl _ _))) (fun _ h=>h.elim),h.2.drewN 1⟩
set_option maxRecDepth 100000 in
set_option maxHeartbeats 2000000 in
theorem second_bus {H:Nat} {M:Mo} {iv:Value} {St:List Int→(Nat→Prop)→World→Prop} (A:Asker H M iv St) (t:Ent) (va:Int) (L:List Int) (Z:Nat→Prop) (w:World) (hs:St L Z w) (hL:L.length≤8) (hr:0≤t.base∧t.base<4294967296) (hv:0≤va∧va<4294967296) (x er:Int) (hx:M.wd (sA t va)=x) (he:M.er (sA t va)=er) (hne:¬er=0) :
    Calls Tryz.prog 62 #[iv,.agg #[.int .i64 t.kind,.int .u64 t.base,.int .i64 t.dom,.bool t.ns,.int .i64 t.ap,.int .u32 t.bits,.bool t.ng,.bool t.xn],.int .u32 va] w fun e w'=>e= .returned (.tuple #[.agg #[.int .i64 tZ.size,.int .u32 tZ.va,.int .u64 tZ.pa,.int .i64 tZ.dom,.int .i64 tZ.ap,.int .u32 tZ.bits,.bool tZ.ng,.bool tZ.xn],.agg #[.int .i64 4,.int .i64 0,.int .i64 t.dom]])∧Fin H St w Z (L++[sA t va]) w':=by
  have hA:0≤sA t va∧sA t va<18446744073709551616:=by unfold sA; omega
  have HK:Hid (∀(Z:Nat→Prop) (w:World),St L Z w→Calls Tryz.prog 99 #[iv,.int .u64 (sA t va)] w fun e w'=>e= .returned (.tuple #[.int .u32 x,.int .i64 er])∧St (L++[sA t va]) (gr Z w w') w'∧Turn (hot H Z) w w'):=fun Z w h=>by rw [←hx,←he]; exact A.ask L Z w (sA t va) hL hA.1 hA.2 h
  have hx0:0≤x∧x<4294967296:=by rw [←hx]; exact A.ok _
  clear hx he
  have hq:(er !=0)=true:=by simp [hne]
  have HX1:=hidW (F3.new A hs 140 43 88 [.int .i64 t.kind,.int .u64 t.base,.int .i64 t.dom,.bool t.ns,.int .i64 t.ap,.int .u32 t.bits,.bool t.ng,.bool t.xn] [.int .i64 0,.int .u32 0,.int .u64 0,.int .i64 0,.int .i64 0,.int .u32 0,.bool false,.bool false] [.int .i64 0,.int .i64 0,.int .i64 0])
  clear hs
  have wm:IntKind.u64.wrap (4*(va / 4096%256))=4*(va / 4096%256):=by rw [IntKind.wrap_u64]; omega
  have ws:IntKind.u64.wrap (t.base+4*(va / 4096%256))=sA t va:=by rw [IntKind.wrap_u64]; unfold sA; omega
  have tm:(va / 4096).tmod 256=va / 4096%256:=Int.tmod_eq_emod_of_nonneg (by omega)
  go_enter Tryz.func62,Tryz.ntmps62
  go_wp2_with fail
  go_at_call 99
  refine (HK.out _ _ HX1.out.f.st).mono ?_
  rintro e wb ⟨rfl,hs2,T2⟩
  have HX2:=hidW (HX1.out.call hs2 T2)
  clear hs2 T2 HX1 HK
  generalize w.heap.size+1+1=z at *
  generalize w.heap.size+1=y at *
  have c1:=HX2.out.b.bl.cell
  have f1:=HX2.out.b.bl.frozen
  have l1:=HX2.out.b.bl.lt
  have c2:=HX2.out.c.bl.cell
  have f2:=HX2.out.c.bl.frozen
  have l2:=HX2.out.c.bl.lt
  have n1:¬y=z:=by have:=HX2.out.hz; omega
  have n2:¬z=y:=by have:=HX2.out.hz; omega
  have n3:¬w.heap.size=y:=by have:=HX2.out.hy; omega
  have n4:¬w.heap.size=z:=by have:=HX2.out.hy; have:=HX2.out.hz; omega
  have cx:wb.drew.cell? ⟨w.heap.size,2,none⟩=some (.int .i64 t.dom):=HX2.out.a.bl.drew.cell 2
  go_wp2
  go_region_held3 (fun w'=>w'.cell? ⟨w.heap.size,2,none⟩=some (.int .i64 t.dom)) (first|(with_reducible exact cx)|((with_reducible refine Eq.trans ((Bl.keep8 HX2.out.a.bl n3 _ _ _ _ _ _ _ _).drew.cell 2) ?_); rfl)|((with_reducible refine Eq.trans ((Bl.keep3 (Bl.keep8 HX2.out.a.bl n3 _ _ _ _ _ _ _ _) n4 _ _ _).drew.cell 2) ?_); rfl)) (first|fail)
  go_wp2
  refine bodyPost_ret (v:= .tuple #[.agg #[.int .i64 tZ.size,.int .u32 tZ.va,.int .u64 tZ.pa,.int .i64 tZ.dom,.int .i64 tZ.ap,.int .u32 tZ.bits,.bool tZ.ng,.bool tZ.xn],.agg #[.int .i64 4,.int .i64 0,.int .i64 t.dom]]) (by simp [results,Tryz.results62,go_sem,c1,f1,l1,c2,f2,l2,n1,n2,tZ]) rfl ⟨rfl,?_⟩
  exact (HX2.out.fin11 A _ _ _ _ _ _ _ _ _ _ _).drew A
set_option maxRecDepth 100000 in
set_option maxHeartbeats 2000000 in
theorem second_zero {H:Nat} {M:Mo} {iv:Value} {St:List Int→(Nat→Prop)→World→Prop} (A:Asker H M iv St) (t:Ent) (va:Int) (L:List Int) (Z:Nat→Prop) (w:World) (hs:St L Z w) (hL:L.length≤8) (hr:0≤t.base∧t.base<4294967296) (hv:0≤va∧va<4294967296) (x er:Int) (hx:M.wd (sA t va)=x) (he:M.er (sA t va)=er) (h0:er=0) (k1 k2 k3:Int) (k4:Bool) (k5 k6:Int) (k7 k8:Bool) (hd:D2 x=⟨k1,k2,k3,k4,k5,k6,k7,k8⟩) (hk:k1=0) :
    Calls Tryz.prog 62 #[iv,.agg #[.int .i64 t.kind,.int .u64 t.base,.int .i64 t.dom,.bool t.ns,.int .i64 t.ap,.int .u32 t.bits,.bool t.ng,.bool t.xn],.int .u32 va] w fun e w'=>e= .returned (.tuple #[.agg #[.int .i64 tZ.size,.int .u32 tZ.va,.int .u64 tZ.pa,.int .i64 tZ.dom,.int .i64 tZ.ap,.int .u32 tZ.bits,.bool tZ.ng,.bool tZ.xn],.agg #[.int .i64 5,.int .i64 0,.int .i64 t.dom]])∧Fin H St w Z (L++[sA t va]) w':=by
  have hA:0≤sA t va∧sA t va<18446744073709551616:=by unfold sA; omega
  have HK:Hid (∀(Z:Nat→Prop) (w:World),St L Z w→Calls Tryz.prog 99 #[iv,.int .u64 (sA t va)] w fun e w'=>e= .returned (.tuple #[.int .u32 x,.int .i64 er])∧St (L++[sA t va]) (gr Z w w') w'∧Turn (hot H Z) w w'):=fun Z w h=>by rw [←hx,←he]; exact A.ask L Z w (sA t va) hL hA.1 hA.2 h
  have hx0:0≤x∧x<4294967296:=by rw [←hx]; exact A.ok _
  clear hx he
  subst h0
  have HD:=hidW (fun ww ht=>Decode2_any x ww ht hx0)
  rw [hd] at HD
  clear hd
  subst hk
  have HX1:=hidW (F3.new A hs 140 43 88 [.int .i64 t.kind,.int .u64 t.base,.int .i64 t.dom,.bool t.ns,.int .i64 t.ap,.int .u32 t.bits,.bool t.ng,.bool t.xn] [.int .i64 0,.int .u32 0,.int .u64 0,.int .i64 0,.int .i64 0,.int .u32 0,.bool false,.bool false] [.int .i64 0,.int .i64 0,.int .i64 0])
  clear hs
  have wm:IntKind.u64.wrap (4*(va / 4096%256))=4*(va / 4096%256):=by rw [IntKind.wrap_u64]; omega
  have ws:IntKind.u64.wrap (t.base+4*(va / 4096%256))=sA t va:=by rw [IntKind.wrap_u64]; unfold sA; omega
  have tm:(va / 4096).tmod 256=va / 4096%256:=Int.tmod_eq_emod_of_nonneg (by omega)
  go_enter Tryz.func62,Tryz.ntmps62
  go_wp2_with fail
  go_at_call 99
  refine (HK.out _ _ HX1.out.f.st).mono ?_
  rintro e wb ⟨rfl,hs2,T2⟩
  have HX2:=hidW (HX1.out.call hs2 T2)
  clear hs2 T2 HX1 HK
  generalize w.heap.size+1+1=z at *
  generalize w.heap.size+1=y at *
  go_wp2_with fail
  go_at_call 101
  refine (HD.out _ (A.tab HX2.out.f.st).r.toTD).mono ?_
  rintro e wc ⟨rfl,hb⟩
  have HX3:=hidW (HX2.out.below A hb)
  clear hb HX2 HD
  have HX4:=hidW (HX3.out.below A (below_new wc (.cells #[.int .i64 0,.int .u64 k2,.int .i64 k3,.bool k4,.int .i64 k5,.int .u32 k6,.bool k7,.bool k8] 140)))
  have c1:=HX4.out.b.bl.cell
  have f1:=HX4.out.b.bl.frozen
  have c2:=HX4.out.c.bl.cell
  have f2:=HX4.out.c.bl.frozen
  have n1:¬y=z:=by have:=HX4.out.hz; omega
  have n2:¬z=y:=by have:=HX4.out.hz; omega
  have n3:¬w.heap.size=y:=by have:=HX4.out.hy; omega
  have n4:¬w.heap.size=z:=by have:=HX4.out.hy; have:=HX4.out.hz; omega
  have cx:=(HX4.out.a.bl.drew.cell 2)
  simp only [List.getElem?_cons_succ,List.getElem?_cons_zero] at cx
  go_wp2
  go_region_held3 (fun w'=>w'.cell? ⟨w.heap.size,2,none⟩=some (.int .i64 t.dom)) (first|(with_reducible exact cx)|((with_reducible refine Eq.trans ((Bl.keep8 HX4.out.a.bl n3 _ _ _ _ _ _ _ _).drew.cell 2) ?_); rfl)|((with_reducible refine Eq.trans ((Bl.keep3 (Bl.keep8 HX4.out.a.bl n3 _ _ _ _ _ _ _ _) n4 _ _ _).drew.cell 2) ?_); rfl)) (first|fail)
  go_wp2
  refine bodyPost_ret (v:= .tuple #[.agg #[.int .i64 tZ.size,.int .u32 tZ.va,.int .u64 tZ.pa,.int .i64 tZ.dom,.int .i64 tZ.ap,.int .u32 tZ.bits,.bool tZ.ng,.bool tZ.xn],.agg #[.int .i64 5,.int .i64 0,.int .i64 t.dom]]) (by simp [results,Tryz.results62,go_sem,c1,f1,c2,f2,n1,n2,tZ]) rfl ⟨rfl,?_⟩
  exact (HX4.out.fin11 A _ _ _ _ _ _ _ _ _ _ _).drew A
set_option maxRecDepth 100000 in
set_option maxHeartbeats 2000000 in
theorem second_ok {H:Nat} {M:Mo} {iv:Value} {St:List Int→(Nat→Prop)→World→Prop} (A:Asker H M iv St) (t:Ent) (va:Int) (L:List Int) (Z:Nat→Prop) (w:World) (hs:St L Z w) (hL:L.length≤8) (hr:0≤t.base∧t.base<4294967296) (hv:0≤va∧va<4294967296) (x er:Int) (hx:M.wd (sA t va)=x) (he:M.er (sA t va)=er) (h0:er=0) (k1 k2 k3:Int) (k4:Bool) (k5 k6:Int) (k7 k8:Bool) (hd:D2 x=⟨k1,k2,k3,k4,k5,k6,k7,k8⟩) (hk:¬k1=0) (u:Tra) (hu:trF ⟨k1,k2,k3,k4,k5,k6,k7,k8⟩ t.dom va=u) :
    Calls Tryz.prog 62 #[iv,.agg #[.int .i64 t.kind,.int .u64 t.base,.int .i64 t.dom,.bool t.ns,.int .i64 t.ap,.int .u32 t.bits,.bool t.ng,.bool t.xn],.int .u32 va] w fun e w'=>e= .returned (.tuple #[.agg #[.int .i64 u.size,.int .u32 u.va,.int .u64 u.pa,.int .i64 u.dom,.int .i64 u.ap,.int .u32 u.bits,.bool u.ng,.bool u.xn],.agg #[.int .i64 0,.int .i64 0,.int .i64 0]])∧Fin H St w Z (L++[sA t va]) w':=by
  have hA:0≤sA t va∧sA t va<18446744073709551616:=by unfold sA; omega
  have HK:Hid (∀(Z:Nat→Prop) (w:World),St L Z w→Calls Tryz.prog 99 #[iv,.int .u64 (sA t va)] w fun e w'=>e= .returned (.tuple #[.int .u32 x,.int .i64 er])∧St (L++[sA t va]) (gr Z w w') w'∧Turn (hot H Z) w w'):=fun Z w h=>by rw [←hx,←he]; exact A.ask L Z w (sA t va) hL hA.1 hA.2 h
  have hx0:0≤x∧x<4294967296:=by rw [←hx]; exact A.ok _
  clear hx he
  subst h0
  have HD:=hidW (fun ww ht=>Decode2_any x ww ht hx0)
  rw [hd] at HD
  have HT:=hidW (fun ww ht=>trans_any (D2 x) t.dom va ww ht (ok_D2 x hx0).1 hv)
  rw [hd,hu] at HT
  clear hd hu
  have hq:(k1 == 0)=false:=by simp [hk]
  have HX1:=hidW (F3.new A hs 140 43 88 [.int .i64 t.kind,.int .u64 t.base,.int .i64 t.dom,.bool t.ns,.int .i64 t.ap,.int .u32 t.bits,.bool t.ng,.bool t.xn] [.int .i64 0,.int .u32 0,.int .u64 0,.int .i64 0,.int .i64 0,.int .u32 0,.bool false,.bool false] [.int .i64 0,.int .i64 0,.int .i64 0])
  clear hs
  have wm:IntKind.u64.wrap (4*(va / 4096%256))=4*(va / 4096%256):=by rw [IntKind.wrap_u64]; omega
  have ws:IntKind.u64.wrap (t.base+4*(va / 4096%256))=sA t va:=by rw [IntKind.wrap_u64]; unfold sA; omega
  have tm:(va / 4096).tmod 256=va / 4096%256:=Int.tmod_eq_emod_of_nonneg (by omega)
  go_enter Tryz.func62,Tryz.ntmps62
  go_wp2_with fail
  go_at_call 99
  refine (HK.out _ _ HX1.out.f.st).mono ?_
  rintro e wb ⟨rfl,hs2,T2⟩
  have HX2:=hidW (HX1.out.call hs2 T2)
  clear hs2 T2 HX1 HK
  generalize w.heap.size+1+1=z at *
  generalize w.heap.size+1=y at *
  go_wp2_with fail
  go_at_call 101
  refine (HD.out _ (A.tab HX2.out.f.st).r.toTD).mono ?_
  rintro e wc ⟨rfl,hb⟩
  have HX3:=hidW (HX2.out.below A hb)
  clear hb HX2 HD
  have HX4:=hidW (HX3.out.below A (below_new wc (.cells #[.int .i64 k1,.int .u64 k2,.int .i64 k3,.bool k4,.int .i64 k5,.int .u32 k6,.bool k7,.bool k8] 140)))
  have cx:=HX4.out.a.bl.cell 2
  simp only [List.getElem?_cons_succ,List.getElem?_cons_zero] at cx
  go_wp2_with fail
  go_at_call 63
  refine (HT.out _ (A.tab HX4.out.f.st).r).mono ?_
  rintro e wd ⟨rfl,hb⟩
  have HX5:=hidW (HX4.out.below A hb)
  clear hb HX3 HX4 HT cx
  have c1:=HX5.out.b.bl.cell
  have f1:=HX5.out.b.bl.frozen
  have c2:=HX5.out.c.bl.cell
  have f2:=HX5.out.c.bl.frozen
  have n1:¬y=z:=by have:=HX5.out.hz; omega
  have n2:¬z=y:=by have:=HX5.out.hz; omega
  have n3:¬w.heap.size=y:=by have:=HX5.out.hy; omega
  have n4:¬w.heap.size=z:=by have:=HX5.out.hy; have:=HX5.out.hz; omega
  have l1:=HX5.out.b.bl.lt
  have l2:=HX5.out.c.bl.lt
  go_wp2
  refine bodyPost_ret (v:= .tuple #[.agg #[.int .i64 u.size,.int .u32 u.va,.int .u64 u.pa,.int .i64 u.dom,.int .i64 u.ap,.int .u32 u.bits,.bool u.ng,.bool u.xn],.agg #[.int .i64 0,.int .i64 0,.int .i64 0]]) (by simp [results,Tryz.results62,go_sem,c1,f1,c2,f2,n1,n2,l1,l2]) rfl ⟨rfl,?_⟩
  exact HX5.out.fin11 A _ _ _ _ _ _ _ _ _ _ _
theorem second_any {H:Nat} {M:Mo} {iv:Value} {St:List Int→(Nat→Prop)→World→Prop} (A:Asker H M iv St) (t:Ent) (va:Int) (L:List Int) (Z:Nat→Prop) (w:World) (hs:St L Z w) (hL:L.length≤8) (hr:0≤t.base∧t.base<4294967296) (hv:0≤va∧va<4294967296) :
    Calls Tryz.prog 62 #[iv,.agg #[.int .i64 t.kind,.int .u64 t.base,.int .i64 t.dom,.bool t.ns,.int .i64 t.ap,.int .u32 t.bits,.bool t.ng,.bool t.xn],.int .u32 va] w fun e w'=>e= .returned (.tuple #[.agg #[.int .i64 ((w2 M t va).1).size,.int .u32 ((w2 M t va).1).va,.int .u64 ((w2 M t va).1).pa,.int .i64 ((w2 M t va).1).dom,.int .i64 ((w2 M t va).1).ap,.int .u32 ((w2 M t va).1).bits,.bool ((w2 M t va).1).ng,.bool ((w2 M t va).1).xn],.agg #[.int .i64 ((w2 M t va).2).k,.int .i64 ((w2 M t va).2).l,.int .i64 ((w2 M t va).2).d]])∧Fin H St w Z (L++[sA t va]) w':=by
  unfold w2
  by_cases he:M.er (sA t va)=0
  · by_cases hk:(D2 (M.wd (sA t va))).kind=0
    · have h:=second_zero A t va L Z w hs hL hr hv _ _ rfl rfl he (D2 (M.wd (sA t va))).kind (D2 (M.wd (sA t va))).base (D2 (M.wd (sA t va))).dom (D2 (M.wd (sA t va))).ns (D2 (M.wd (sA t va))).ap (D2 (M.wd (sA t va))).bits (D2 (M.wd (sA t va))).ng (D2 (M.wd (sA t va))).xn rfl hk
      simpa [he,hk] using h
    · have h:=second_ok A t va L Z w hs hL hr hv _ _ rfl rfl he (D2 (M.wd (sA t va))).kind (D2 (M.wd (sA t va))).base (D2 (M.wd (sA t va))).dom (D2 (M.wd (sA t va))).ns (D2 (M.wd (sA t va))).ap (D2 (M.wd (sA t va))).bits (D2 (M.wd (sA t va))).ng (D2 (M.wd (sA t va))).xn rfl hk _ rfl
      simpa [he,hk,fZ] using h
  · have h:=second_bus A t va L Z w hs hL hr hv _ _ rfl rfl he
    simpa [he] using h
end Go.Proofs.YtnjlajjjcmhfgaaGreatDoor
namespace Go.Proofs.YtnjlajjjcmhfgaaGreatDoor
open Go.RowKit
open Mm (Turn gr RM valV errV)
set_option linter.unusedVariables false
set_option linter.unusedSimpArgs false
set_option maxRecDepth 100000 in
set_option maxHeartbeats 2000000 in
theorem walk_off {H:Nat} {M:Mo} {iv:Value} {St:List Int→(Nat→Prop)→World→Prop} (A:Asker H M iv St) (c:Ctx) (va:Int) (L:List Int) (Z:Nat→Prop) (w:World) (hs:St L Z w) (hL:L.length≤7) (hc:c.Ok) (hv:0≤va∧va<4294967296) (hon:c.on=false) :
    Calls Tryz.prog 32 #[iv,.agg #[.bool c.on,.bool c.tre,.bool c.afe,.int .i64 c.n,.bool c.pd0,.bool c.pd1,.int .u64 c.b0,.int .u64 c.b1,.int .u32 c.dacr,.int .u32 c.prrr,.int .u32 c.nmrr,.int .i64 c.asid],.int .u32 va] w fun e w'=>e= .returned (.tuple #[.agg #[.int .i64 (itF va).size,.int .u32 (itF va).va,.int .u64 (itF va).pa,.int .i64 (itF va).dom,.int .i64 (itF va).ap,.int .u32 (itF va).bits,.bool (itF va).ng,.bool (itF va).xn],.agg #[.int .i64 0,.int .i64 0,.int .i64 0]])∧Fin H St w Z L w':=by
  have HI:=hidW (fun ww=>itself_any va ww hv)
  have HX:=hidW (F3.new A hs 47 43 88 [.bool c.on,.bool c.tre,.bool c.afe,.int .i64 c.n,.bool c.pd0,.bool c.pd1,.int .u64 c.b0,.int .u64 c.b1,.int .u32 c.dacr,.int .u32 c.prrr,.int .u32 c.nmrr,.int .i64 c.asid] [.int .i64 0,.int .u32 0,.int .u64 0,.int .i64 0,.int .i64 0,.int .u32 0,.bool false,.bool false] [.int .i64 0,.int .i64 0,.int .i64 0])
  clear hs
  rw [hon] at HX ⊢
  go_enter Tryz.func32,Tryz.ntmps32
  go_wp2_with fail
  go_at_call 60
  refine (HI.out _).mono ?_
  rintro e wa ⟨rfl,hb⟩
  have HX1:=hidW (HX.out.below A hb)
  clear hb HX HI
  generalize w.heap.size+1+1=z at *
  generalize w.heap.size+1=y at *
  have c1:=HX1.out.b.bl.cell
  have f1:=HX1.out.b.bl.frozen
  have c2:=HX1.out.c.bl.cell
  have f2:=HX1.out.c.bl.frozen
  have n1:¬y=z:=by have:=HX1.out.hz; omega
  have n2:¬z=y:=by have:=HX1.out.hz; omega
  have l1:=HX1.out.b.bl.lt
  have l2:=HX1.out.c.bl.lt
  go_wp2
  refine bodyPost_ret (v:= .tuple #[.agg #[.int .i64 (itF va).size,.int .u32 (itF va).va,.int .u64 (itF va).pa,.int .i64 (itF va).dom,.int .i64 (itF va).ap,.int .u32 (itF va).bits,.bool (itF va).ng,.bool (itF va).xn],.agg #[.int .i64 0,.int .i64 0,.int .i64 0]]) (by simp [results,Tryz.results32,go_sem,c1,f1,c2,f2,n1,n2,l1,l2,tZ]) rfl ⟨rfl,?_⟩
  exact HX1.out.fin11 A _ _ _ _ _ _ _ _ _ _ _
set_option maxRecDepth 100000 in
set_option maxHeartbeats 2000000 in
theorem walk_f1 {H:Nat} {M:Mo} {iv:Value} {St:List Int→(Nat→Prop)→World→Prop} (A:Asker H M iv St) (c:Ctx) (va:Int) (L:List Int) (Z:Nat→Prop) (w:World) (hs:St L Z w) (hL:L.length≤7) (hc:c.Ok) (hv:0≤va∧va<4294967296) (hon:c.on=true) (k1 k2 k3:Int) (k4:Bool) (k5 k6:Int) (k7 k8:Bool) (q1 q2 q3:Int) (hw1:w1 M c va=(⟨k1,k2,k3,k4,k5,k6,k7,k8⟩,⟨q1,q2,q3⟩)) (hk:¬q1=0) :
    Calls Tryz.prog 32 #[iv,.agg #[.bool c.on,.bool c.tre,.bool c.afe,.int .i64 c.n,.bool c.pd0,.bool c.pd1,.int .u64 c.b0,.int .u64 c.b1,.int .u32 c.dacr,.int .u32 c.prrr,.int .u32 c.nmrr,.int .i64 c.asid],.int .u32 va] w fun e w'=>e= .returned (.tuple #[.agg #[.int .i64 tZ.size,.int .u32 tZ.va,.int .u64 tZ.pa,.int .i64 tZ.dom,.int .i64 tZ.ap,.int .u32 tZ.bits,.bool tZ.ng,.bool tZ.xn],.agg #[.int .i64 q1,.int .i64 q2,.int .i64 q3]])∧Fin H St w Z (L++r1 c va) w':=by
  have HF:=hidW (fun Z ww h=>first_any A c va L Z ww h (by omega) hc hv)
  rw [hw1,hon] at HF
  clear hw1
  have hq:(q1 !=0)=true:=by simp [hk]
  have HX:=hidW (F3.new A hs 47 43 88 [.bool c.on,.bool c.tre,.bool c.afe,.int .i64 c.n,.bool c.pd0,.bool c.pd1,.int .u64 c.b0,.int .u64 c.b1,.int .u32 c.dacr,.int .u32 c.prrr,.int .u32 c.nmrr,.int .i64 c.asid] [.int .i64 0,.int .u32 0,.int .u64 0,.int .i64 0,.int .i64 0,.int .u32 0,.bool false,.bool false] [.int .i64 0,.int .i64 0,.int .i64 0])
  clear hs
  rw [hon] at HX ⊢
  go_enter Tryz.func32,Tryz.ntmps32
  go_wp2_with fail
  go_at_call 61
  refine (HF.out _ _ HX.out.f.st).mono ?_
  rintro e wa ⟨rfl,hs2,T2⟩
  have HX1:=hidW (HX.out.call hs2 T2)
  clear hs2 T2 HX HF
  generalize w.heap.size+1+1=z at *
  generalize w.heap.size+1=y at *
  have HX2:=hidW ((HX1.out.below A (below_new wa (.cells #[.int .i64 k1,.int .u64 k2,.int .i64 k3,.bool k4,.int .i64 k5,.int .u32 k6,.bool k7,.bool k8] 140))).below A (below_new _ (.cells #[.int .i64 q1,.int .i64 q2,.int .i64 q3] 88)))
  have HN:=hidW (Bl.new (wa.alloc (.cells #[.int .i64 k1,.int .u64 k2,.int .i64 k3,.bool k4,.int .i64 k5,.int .u32 k6,.bool k7,.bool k8] 140)) 88 [.int .i64 q1,.int .i64 q2,.int .i64 q3])
  rw [show (wa.alloc (.cells #[.int .i64 k1,.int .u64 k2,.int .i64 k3,.bool k4,.int .i64 k5,.int .u32 k6,.bool k7,.bool k8] 140)).heap.size=wa.heap.size+1 by simp] at HN
  have n3:¬wa.heap.size+1=y:=by have:=HX1.out.b.bl.lt; omega
  have n4:¬wa.heap.size+1=z:=by have:=HX1.out.c.bl.lt; omega
  go_wp2
  generalize ((wa.alloc (.cells #[.int .i64 k1,.int .u64 k2,.int .i64 k3,.bool k4,.int .i64 k5,.int .u32 k6,.bool k7,.bool k8] 140)).alloc (.cells #[.int .i64 q1,.int .i64 q2,.int .i64 q3] 88))=wx at *
  generalize wa.heap.size+1=b at *
  have c1:=HX2.out.b.bl.cell
  have f1:=HX2.out.b.bl.frozen
  have c2:=HX2.out.c.bl.cell
  have f2:=HX2.out.c.bl.frozen
  have n1:¬y=z:=by have:=HX2.out.hz; omega
  have n2:¬z=y:=by have:=HX2.out.hz; omega
  have l1:=HX2.out.b.bl.lt
  have l2:=HX2.out.c.bl.lt
  have d0:wx.drew.cell? ⟨b,0,none⟩=some (.int .i64 q1):=HN.out.drew.cell 0
  have d1:wx.drew.cell? ⟨b,1,none⟩=some (.int .i64 q2):=HN.out.drew.cell 1
  have d2:wx.drew.cell? ⟨b,2,none⟩=some (.int .i64 q3):=HN.out.drew.cell 2
  go_region_held3 (fun w'=>w'.cell? ⟨b,0,none⟩=some (.int .i64 q1)∧w'.cell? ⟨b,1,none⟩=some (.int .i64 q2)∧w'.cell? ⟨b,2,none⟩=some (.int .i64 q3)) (first|(with_reducible exact ⟨d0,d1,d2⟩)|((refine ⟨?_,?_,?_⟩); ((with_reducible refine Eq.trans ((Bl.keep8 HN.out n3 _ _ _ _ _ _ _ _).drew.cell 0) ?_); rfl); ((with_reducible refine Eq.trans ((Bl.keep8 HN.out n3 _ _ _ _ _ _ _ _).drew.cell 1) ?_); rfl); ((with_reducible refine Eq.trans ((Bl.keep8 HN.out n3 _ _ _ _ _ _ _ _).drew.cell 2) ?_); rfl))|((refine ⟨?_,?_,?_⟩); ((with_reducible refine Eq.trans ((Bl.keep3 (Bl.keep8 HN.out n3 _ _ _ _ _ _ _ _) n4 _ _ _).drew.cell 0) ?_); rfl); ((with_reducible refine Eq.trans ((Bl.keep3 (Bl.keep8 HN.out n3 _ _ _ _ _ _ _ _) n4 _ _ _).drew.cell 1) ?_); rfl); ((with_reducible refine Eq.trans ((Bl.keep3 (Bl.keep8 HN.out n3 _ _ _ _ _ _ _ _) n4 _ _ _).drew.cell 2) ?_); rfl))) (first|fail)
  go_wp2
  refine bodyPost_ret (v:= .tuple #[.agg #[.int .i64 tZ.size,.int .u32 tZ.va,.int .u64 tZ.pa,.int .i64 tZ.dom,.int .i64 tZ.ap,.int .u32 tZ.bits,.bool tZ.ng,.bool tZ.xn],.agg #[.int .i64 q1,.int .i64 q2,.int .i64 q3]]) (by simp [results,Tryz.results32,go_sem,c1,f1,c2,f2,n1,n2,l1,l2,tZ]) rfl ⟨rfl,?_⟩
  exact (HX2.out.fin11 A _ _ _ _ _ _ _ _ _ _ _).drew A
set_option maxRecDepth 100000 in
set_option maxHeartbeats 2000000 in
theorem walk_tab {H:Nat} {M:Mo} {iv:Value} {St:List Int→(Nat→Prop)→World→Prop} (A:Asker H M iv St) (c:Ctx) (va:Int) (L:List Int) (Z:Nat→Prop) (w:World) (hs:St L Z w) (hL:L.length≤7) (hc:c.Ok) (hv:0≤va∧va<4294967296) (hon:c.on=true) (k1 k2 k3:Int) (k4:Bool) (k5 k6:Int) (k7 k8:Bool) (hw1:w1 M c va=(⟨k1,k2,k3,k4,k5,k6,k7,k8⟩,⟨0,0,0⟩)) (hk:k1=1) (hr:0≤k2∧k2<4294967296) (u:Tra) (f:Fa) (hu:w2 M ⟨k1,k2,k3,k4,k5,k6,k7,k8⟩ va=(u,f)) :
    Calls Tryz.prog 32 #[iv,.agg #[.bool c.on,.bool c.tre,.bool c.afe,.int .i64 c.n,.bool c.pd0,.bool c.pd1,.int .u64 c.b0,.int .u64 c.b1,.int .u32 c.dacr,.int .u32 c.prrr,.int .u32 c.nmrr,.int .i64 c.asid],.int .u32 va] w fun e w'=>e= .returned (.tuple #[.agg #[.int .i64 u.size,.int .u32 u.va,.int .u64 u.pa,.int .i64 u.dom,.int .i64 u.ap,.int .u32 u.bits,.bool u.ng,.bool u.xn],.agg #[.int .i64 f.k,.int .i64 f.l,.int .i64 f.d]])∧Fin H St w Z (L++r1 c va++[sA ⟨k1,k2,k3,k4,k5,k6,k7,k8⟩ va]) w':=by
  have HF:=hidW (fun Z ww h=>first_any A c va L Z ww h (by omega) hc hv)
  rw [hw1,hon] at HF
  clear hw1
  have hr1:(r1 c va).length≤1:=by unfold r1; split <;>simp
  have HS:=hidW (fun Z ww h=>second_any A ⟨k1,k2,k3,k4,k5,k6,k7,k8⟩ va (L++r1 c va) Z ww h (by rw [List.length_append]; omega) hr hv)
  rw [hu] at HS
  clear hu
  subst hk
  have HX:=hidW (F3.new A hs 47 43 88 [.bool c.on,.bool c.tre,.bool c.afe,.int .i64 c.n,.bool c.pd0,.bool c.pd1,.int .u64 c.b0,.int .u64 c.b1,.int .u32 c.dacr,.int .u32 c.prrr,.int .u32 c.nmrr,.int .i64 c.asid] [.int .i64 0,.int .u32 0,.int .u64 0,.int .i64 0,.int .i64 0,.int .u32 0,.bool false,.bool false] [.int .i64 0,.int .i64 0,.int .i64 0])
  clear hs
  rw [hon] at HX ⊢
  go_enter Tryz.func32,Tryz.ntmps32
  go_wp2_with fail
  go_at_call 61
  refine (HF.out _ _ HX.out.f.st).mono ?_
  rintro e wa ⟨rfl,hs2,T2⟩
  have HX1:=hidW (HX.out.call hs2 T2)
  clear hs2 T2 HX HF
  generalize w.heap.size+1+1=z at *
  generalize w.heap.size+1=y at *
  have HX2:=hidW ((HX1.out.below A (below_new wa (.cells #[.int .i64 1,.int .u64 k2,.int .i64 k3,.bool k4,.int .i64 k5,.int .u32 k6,.bool k7,.bool k8] 140))).below A (below_new _ (.cells #[.int .i64 0,.int .i64 0,.int .i64 0] 88)))
  go_wp2_with fail
  generalize ((wa.alloc (.cells #[.int .i64 1,.int .u64 k2,.int .i64 k3,.bool k4,.int .i64 k5,.int .u32 k6,.bool k7,.bool k8] 140)).alloc (.cells #[.int .i64 0,.int .i64 0,.int .i64 0] 88))=wx at *
  go_at_call 62
  refine (HS.out _ _ HX2.out.f.st).mono ?_
  rintro e wb ⟨rfl,hs2,T2⟩
  have HX3:=hidW (HX2.out.call hs2 T2)
  clear hs2 T2 HX1 HX2 HS
  have c1:=HX3.out.b.bl.cell
  have f1:=HX3.out.b.bl.frozen
  have c2:=HX3.out.c.bl.cell
  have f2:=HX3.out.c.bl.frozen
  have n1:¬y=z:=by have:=HX3.out.hz; omega
  have n2:¬z=y:=by have:=HX3.out.hz; omega
  have l1:=HX3.out.b.bl.lt
  have l2:=HX3.out.c.bl.lt
  go_wp2
  refine bodyPost_ret (v:= .tuple #[.agg #[.int .i64 u.size,.int .u32 u.va,.int .u64 u.pa,.int .i64 u.dom,.int .i64 u.ap,.int .u32 u.bits,.bool u.ng,.bool u.xn],.agg #[.int .i64 f.k,.int .i64 f.l,.int .i64 f.d]]) (by simp [results,Tryz.results32,go_sem,c1,f1,c2,f2,n1,n2,l1,l2]) rfl ⟨rfl,?_⟩
  exact HX3.out.fin11 A _ _ _ _ _ _ _ _ _ _ _
set_option maxRecDepth 100000 in
set_option maxHeartbeats 2000000 in
theorem walk_blk {H:Nat} {M:Mo} {iv:Value} {St:List Int→(Nat→Prop)→World→Prop} (A:Asker H M iv St) (c:Ctx) (va:Int) (L:List Int) (Z:Nat→Prop) (w:World) (hs:St L Z w) (hL:L.length≤7) (hc:c.Ok) (hv:0≤va∧va<4294967296) (hon:c.on=true) (k1 k2 k3:Int) (k4:Bool) (k5 k6:Int) (k7 k8:Bool) (hw1:w1 M c va=(⟨k1,k2,k3,k4,k5,k6,k7,k8⟩,⟨0,0,0⟩)) (hk:¬k1=1) (hO:Ok ⟨k1,k2,k3,k4,k5,k6,k7,k8⟩) (u:Tra) (hu:trF ⟨k1,k2,k3,k4,k5,k6,k7,k8⟩ 0 va=u) :
    Calls Tryz.prog 32 #[iv,.agg #[.bool c.on,.bool c.tre,.bool c.afe,.int .i64 c.n,.bool c.pd0,.bool c.pd1,.int .u64 c.b0,.int .u64 c.b1,.int .u32 c.dacr,.int .u32 c.prrr,.int .u32 c.nmrr,.int .i64 c.asid],.int .u32 va] w fun e w'=>e= .returned (.tuple #[.agg #[.int .i64 u.size,.int .u32 u.va,.int .u64 u.pa,.int .i64 u.dom,.int .i64 u.ap,.int .u32 u.bits,.bool u.ng,.bool u.xn],.agg #[.int .i64 0,.int .i64 0,.int .i64 0]])∧Fin H St w Z (L++r1 c va) w':=by
  have HF:=hidW (fun Z ww h=>first_any A c va L Z ww h (by omega) hc hv)
  rw [hw1,hon] at HF
  clear hw1
  have HT:=hidW (fun ww ht=>trans_any ⟨k1,k2,k3,k4,k5,k6,k7,k8⟩ 0 va ww ht hO hv)
  rw [hu] at HT
  clear hu hO
  have hq:(k1 == 1)=false:=by simp [hk]
  have HX:=hidW (F3.new A hs 47 43 88 [.bool c.on,.bool c.tre,.bool c.afe,.int .i64 c.n,.bool c.pd0,.bool c.pd1,.int .u64 c.b0,.int .u64 c.b1,.int .u32 c.dacr,.int .u32 c.prrr,.int .u32 c.nmrr,.int .i64 c.asid] [.int .i64 0,.int .u32 0,.int .u64 0,.int .i64 0,.int .i64 0,.int .u32 0,.bool false,.bool false] [.int .i64 0,.int .i64 0,.int .i64 0])
  clear hs
  rw [hon] at HX ⊢
  go_enter Tryz.func32,Tryz.ntmps32
  go_wp2_with fail
  go_at_call 61
  refine (HF.out _ _ HX.out.f.st).mono ?_
  rintro e wa ⟨rfl,hs2,T2⟩
  have HX1:=hidW (HX.out.call hs2 T2)
  clear hs2 T2 HX HF
  generalize w.heap.size+1+1=z at *
  generalize w.heap.size+1=y at *
  have HX2:=hidW ((HX1.out.below A (below_new wa (.cells #[.int .i64 k1,.int .u64 k2,.int .i64 k3,.bool k4,.int .i64 k5,.int .u32 k6,.bool k7,.bool k8] 140))).below A (below_new _ (.cells #[.int .i64 0,.int .i64 0,.int .i64 0] 88)))
  go_wp2_with fail
  generalize ((wa.alloc (.cells #[.int .i64 k1,.int .u64 k2,.int .i64 k3,.bool k4,.int .i64 k5,.int .u32 k6,.bool k7,.bool k8] 140)).alloc (.cells #[.int .i64 0,.int .i64 0,.int .i64 0] 88))=wx at *
  go_at_call 63
  refine (HT.out _ (A.tab HX2.out.f.st).r).mono ?_
  rintro e wb ⟨rfl,hb⟩
  have HX3:=hidW (HX2.out.below A hb)
  clear hb HX1 HX2 HT
  have c1:=HX3.out.b.bl.cell
  have f1:=HX3.out.b.bl.frozen
  have c2:=HX3.out.c.bl.cell
  have f2:=HX3.out.c.bl.frozen
  have n1:¬y=z:=by have:=HX3.out.hz; omega
  have n2:¬z=y:=by have:=HX3.out.hz; omega
  have l1:=HX3.out.b.bl.lt
  have l2:=HX3.out.c.bl.lt
  go_wp2
  refine bodyPost_ret (v:= .tuple #[.agg #[.int .i64 u.size,.int .u32 u.va,.int .u64 u.pa,.int .i64 u.dom,.int .i64 u.ap,.int .u32 u.bits,.bool u.ng,.bool u.xn],.agg #[.int .i64 0,.int .i64 0,.int .i64 0]]) (by simp [results,Tryz.results32,go_sem,c1,f1,c2,f2,n1,n2,l1,l2]) rfl ⟨rfl,?_⟩
  exact HX3.out.fin11 A _ _ _ _ _ _ _ _ _ _ _
theorem walk_any {H:Nat} {M:Mo} {iv:Value} {St:List Int→(Nat→Prop)→World→Prop} (A:Asker H M iv St) (c:Ctx) (va:Int) (L:List Int) (Z:Nat→Prop) (w:World) (hs:St L Z w) (hL:L.length≤7) (hc:c.Ok) (hv:0≤va∧va<4294967296) :
    Calls Tryz.prog 32 #[iv,.agg #[.bool c.on,.bool c.tre,.bool c.afe,.int .i64 c.n,.bool c.pd0,.bool c.pd1,.int .u64 c.b0,.int .u64 c.b1,.int .u32 c.dacr,.int .u32 c.prrr,.int .u32 c.nmrr,.int .i64 c.asid],.int .u32 va] w fun e w'=>e= .returned (.tuple #[.agg #[.int .i64 ((wk M c va).1).size,.int .u32 ((wk M c va).1).va,.int .u64 ((wk M c va).1).pa,.int .i64 ((wk M c va).1).dom,.int .i64 ((wk M c va).1).ap,.int .u32 ((wk M c va).1).bits,.bool ((wk M c va).1).ng,.bool ((wk M c va).1).xn],.agg #[.int .i64 ((wk M c va).2).k,.int .i64 ((wk M c va).2).l,.int .i64 ((wk M c va).2).d]])∧Fin H St w Z (L++rdL M c va) w':=by
  unfold wk rdL
  cases hon:c.on
  · have h:=walk_off A c va L Z w hs hL hc hv hon
    rw [hon] at h
    simpa [fZ] using h
  · by_cases hf:(w1 M c va).2.k=0
    · obtain ⟨ho,he,hw,hk⟩:=w1_kind hf
      have hx:=A.ok (fA c va)
      by_cases h1:(w1 M c va).1.kind=1
      · have hb:0≤(w1 M c va).1.base∧(w1 M c va).1.base<4294967296:=by
          rw [hw] at h1 ⊢
          dsimp only at h1 ⊢
          have:=D1_base _ hx h1
          omega
        have h:=walk_tab A c va L Z w hs hL hc hv hon (w1 M c va).1.kind (w1 M c va).1.base (w1 M c va).1.dom (w1 M c va).1.ns (w1 M c va).1.ap (w1 M c va).1.bits (w1 M c va).1.ng (w1 M c va).1.xn (by rw [hw]; rfl) h1 hb (w2 M (w1 M c va).1 va).1 (w2 M (w1 M c va).1 va).2 rfl
        rw [hon] at h
        change Calls _ _ _ _ (fun e w'=>e=_∧Fin H St w Z (L++r1 c va++[sA (w1 M c va).1 va]) w') at h
        simpa [hf,h1] using h
      · have h:=walk_blk A c va L Z w hs hL hc hv hon (w1 M c va).1.kind (w1 M c va).1.base (w1 M c va).1.dom (w1 M c va).1.ns (w1 M c va).1.ap (w1 M c va).1.bits (w1 M c va).1.ng (w1 M c va).1.xn (by rw [hw]; rfl) h1 (by rw [hw]; exact (ok_D1 _ hx).1) _ rfl
        rw [hon] at h
        simpa [hf,h1,fZ] using h
    · have h:=walk_f1 A c va L Z w hs hL hc hv hon (w1 M c va).1.kind (w1 M c va).1.base (w1 M c va).1.dom (w1 M c va).1.ns (w1 M c va).1.ap (w1 M c va).1.bits (w1 M c va).1.ng (w1 M c va).1.xn (w1 M c va).2.k (w1 M c va).2.l (w1 M c va).2.d rfl hf
      rw [hon] at h
      simpa [hf] using h
end Go.Proofs.YtnjlajjjcmhfgaaGreatDoor

import Derived.Test.YtkmgmmmpiallhaaDoorQg
import Derived.Test.YtkmgmmmpiallhaaDoorQh
import Derived.Test.YtkmgmmmpiallhaaDoorGb
namespace Go.Proofs.YtkmgmmmpiallhaaDoor
set_option linter.unusedVariables false
set_option maxRecDepth 100000
def wordK (q:RowJ):Bool :=
  (nb q.pat == 32 && decide (cnt 49 q.pat≤32)) && (q.pat.all (fun x=>lettersJ.contains x || (x == 48 || (x == 49 || x == 32))) && (lettersJ.all (fun c=>decide (cnt c q.pat≤32)) && (decide (cnt 108 q.pat≤16) && ((decide (cnt 112 q.pat≤1) && (decide (cnt 117 q.pat≤1) && (decide (cnt 119 q.pat≤1) && decide (cnt 115 q.pat≤1)))) && ((cnt 115 q.pat == 0 || q.ops.all (fun o=> !tests o)) && (q.ops.all (fun o=> !isB o) || cnt 105 q.pat == 24))))))
theorem wordK_all:∀q∈rowsJ,wordK q=true:=by
  have:rowsJ.all wordK=true:=by decide
  exact List.all_eq_true.1 this
theorem sumJ_eq (p:List UInt8) (w:Nat):∀(L:List UInt8) (V:List Nat) (x:Nat),x<4294967296→L.length=V.length→(∀a∈L.zip V,mkP a.1 a.2 p=seP a.1 w p)→sumJ p L V x=(x+suP (fun c=>seP c w p) L)%4294967296
  | [],[],x,hx,_,_=>by show x=(x+0)%4294967296; omega
  | c::L,v::V,x,hx,hl,h=>by
    have e:mkP c v p=seP c w p:=h (c,v) (List.mem_cons_self ..)
    have ih:=sumJ_eq p w L V ((x+seP c w p)%4294967296) (Nat.mod_lt _ (by decide)) (by simpa using hl) (fun a ha=>h a (List.mem_cons_of_mem _ ha))
    show sumJ p L V ((x+mkP c v p)%4294967296)=(x+(seP c w p+suP (fun c=>seP c w p) L))%4294967296
    rw [e,ih]
    generalize suP (fun c=>seP c w p) L=S
    generalize seP c w p=T
    omega
  | [],v::V,x,hx,hl,_=>by cases hl
  | c::L,[],x,hx,hl,_=>by cases hl
theorem se_num {p:List UInt8} {w:Nat} {c:UInt8} {v:Nat} (hc:cnt c p≤32) (hv:v=(((fvP c w p:Nat):Int)%4294967296).toNat):mkP c v p=seP c w p:=by
  refine mk_se c w p v ?_
  have h1:=fvP_lt c w p
  have h2:2^cnt c p≤2^32:=Nat.pow_le_pow_right (by decide) hc
  have h3:(2:Nat)^32=4294967296:=by decide
  have:v=fvP c w p:=by omega
  rw [this]; exact Nat.mod_eq_of_lt h1
theorem se_bool {p:List UInt8} {w:Nat} {c:UInt8} {v:Nat} (hc:cnt c p≤1) (hv:v=(fvP c w p == 1).toNat):mkP c v p=seP c w p:=by
  refine mk_se c w p v ?_
  have h1:=fvP_lt c w p
  have h2:2^cnt c p≤2^1:=Nat.pow_le_pow_right (by decide) hc
  have:v=fvP c w p:=by
    rcases (by omega:fvP c w p=0∨fvP c w p=1) with e|e <;>rw [hv,e] <;>rfl
  rw [this]; exact Nat.mod_eq_of_lt h1
theorem se_zero {p:List UInt8} {w:Nat} {c:UInt8} {v:Nat} (hc:cnt c p=0):mkP c v p=seP c w p:=by
  refine mk_se c w p v ?_
  rw [hc,fv_none c p w hc,Nat.pow_zero,Nat.mod_one]
theorem reach_back (x:Nat) (h:x<16777216):(if 33554432≤x*4%4294967296 then (((x*4+4227858432)%4294967296:Nat):Int) else ((x*4%4294967296:Nat):Int)).toNat / 4%16777216=x:=by
  by_cases h1:33554432≤x*4%4294967296
  · rw [if_pos h1,Int.toNat_natCast]; omega
  · rw [if_neg h1,Int.toNat_natCast]; omega
theorem word_say {q:RowJ} {w:Nat} (hq:q∈rowsJ) (hw:w<4294967296) (hf:fiP w q.pat=true) (ho:q.ops.contains (opJ q w)=true):wordJ q (sayJ q w)=w:=by
  have hk:=wordK_all q hq
  simp only [wordK,Bool.and_eq_true,decide_eq_true_eq,beq_iff_eq] at hk
  obtain ⟨⟨k1,k2⟩,k3,k4,k5,⟨k6,k7,k8,k9⟩,k10,k11⟩:=hk
  have hmem:opJ q w∈q.ops:=by simpa using ho
  have hc:∀c∈lettersJ,cnt c q.pat≤32:=fun c h=>by simpa using List.all_eq_true.1 k4 c h
  have hall:=all_se lettersJ (by decide) (by decide) (by decide) (by decide) w q.pat (fun x hx=>by
    have:=List.all_eq_true.1 k3 x hx
    simpa [or_assoc] using this) hf
  rw [k1] at hall
  have hon:onP q.pat<4294967296:=by
    have:w%2^32<2^32:=Nat.mod_lt _ (by decide)
    have h3:(2:Nat)^32=4294967296:=by decide
    omega
  rw [wordJ,mk_on q.pat k2,sumJ_eq q.pat w lettersJ _ _ hon rfl ?_,hall]
  · have h3:(2:Nat)^32=4294967296:=by decide
    rw [h3]; omega
  · show ∀a∈[((99:UInt8),(((sayJ q w).cond%4294967296).toNat)),(111,((((sayJ q w).op-1)%4294967296).toNat)),(100,(((sayJ q w).rd%4294967296).toNat)),(110,(((sayJ q w).rn%4294967296).toNat)),(109,(((sayJ q w).rm%4294967296).toNat)),(114,(((sayJ q w).rs%4294967296).toNat)),(97,(((sayJ q w).ra%4294967296).toNat)),(116,(((sayJ q w).shift%4294967296).toNat)),(107,(((sayJ q w).amount%4294967296).toNat)),(120,(((sayJ q w).crn%4294967296).toNat)),(121,(((sayJ q w).op1%4294967296).toNat)),(122,(((sayJ q w).crm%4294967296).toNat)),(118,(((sayJ q w).op2%4294967296).toNat)),(108,(sayJ q w).list.toNat),(105,(if isB (sayJ q w).op then (sayJ q w).imm.toNat / 4 else (sayJ q w).imm.toNat)),(115,(sayJ q w).s.toNat),(112,(sayJ q w).pre.toNat),(117,(sayJ q w).up.toNat),(119,(sayJ q w).write.toNat)],mkP a.1 a.2 q.pat=seP a.1 w q.pat
    simp only [List.forall_mem_cons]
    refine ⟨se_num (hc _ (by decide)) rfl,?_,se_num (hc _ (by decide)) rfl,se_num (hc _ (by decide)) rfl,se_num (hc _ (by decide)) rfl,se_num (hc _ (by decide)) rfl,se_num (hc _ (by decide)) rfl,se_num (hc _ (by decide)) rfl,se_num (hc _ (by decide)) rfl,se_num (hc _ (by decide)) rfl,se_num (hc _ (by decide)) rfl,se_num (hc _ (by decide)) rfl,se_num (hc _ (by decide)) rfl,?_,?_,?_,se_bool k6 rfl,se_bool k7 rfl,se_bool k8 rfl,fun p h=>by cases h⟩
    · by_cases h0:0<cnt 111 q.pat
      · refine se_num (hc 111 (by decide)) ?_
        show (((opJ q w)-1)%4294967296).toNat=_
        rw [opJ,if_pos h0,Int.add_sub_cancel]
      · exact se_zero (by omega)
    · refine mk_se 108 w q.pat _ ?_
      have h1:=fvP_lt 108 w q.pat
      have h2:2^cnt 108 q.pat≤2^16:=Nat.pow_le_pow_right (by decide) k5
      have h3:(2:Nat)^16=65536:=by decide
      show (((fvP 108 w q.pat%65536:Nat):Int)).toNat%2^cnt 108 q.pat=_
      rw [Int.toNat_natCast,Nat.mod_eq_of_lt (by omega:fvP 108 w q.pat<65536)]
      exact Nat.mod_eq_of_lt h1
    · have h1:=fvP_lt 105 w q.pat
      refine mk_se 105 w q.pat _ ?_
      show (if isB (opJ q w) then (immJ (opJ q w) (fvP 105 w q.pat)).toNat / 4 else (immJ (opJ q w) (fvP 105 w q.pat)).toNat)%2^cnt 105 q.pat=_
      cases hb:isB (opJ q w) with
      | false =>
        rw [immJ_no hb]
        exact Nat.mod_eq_of_lt h1
      | true =>
        have h24:cnt 105 q.pat=24:=by
          rw [Bool.or_eq_true] at k11
          rcases k11 with h|h
          · have:=List.all_eq_true.1 h _ hmem
            rw [hb] at this; cases this
          · simpa using h
        rw [h24] at h1 ⊢
        rw [if_pos rfl,immJ,if_pos hb]
        rw [show (2:Nat)^24=16777216 from rfl] at h1 ⊢
        exact reach_back _ h1
    · rw [Bool.or_eq_true] at k10
      rcases k10 with h|h
      · exact se_zero (by simpa using h)
      · refine se_bool k9 ?_
        show (fvP 115 w q.pat == 1 || tests (opJ q w)).toNat=_
        have:=List.all_eq_true.1 h _ hmem
        have ht:tests (opJ q w)=false:=by simpa using this
        rw [ht,Bool.or_false]
set_option linter.unusedVariables false
set_option maxRecDepth 100000
def eqO (o:Option RowP) (r:RowP):Bool:=match o with|none=>false|some q=>eqP q r
theorem eqO_eq {o:Option RowP} {r:RowP} (h:eqO o r=true):o=some r:=by
  cases o with
  | none=>cases h
  | some q=>rw [eqP_eq (a:=q) (b:=r) h]
def nameK (r:RowP) (q:RowJ):Bool :=
  if o16 q then fgK 111 q.pat 0 && (List.range 16).all (fun v=>notK r.mask r.bits 31457280 (v*2097152) || eqO (rowN ((v:Int)+1) q.form) r)
  else eqO (rowN (q.ops.headD 0) q.form) r
theorem names:∀p∈prL,nameK p.1 p.2=true:=by
  have:prL.all (fun p=>nameK p.1 p.2)=true:=by decide
  exact fun p hp=>List.all_eq_true.1 this p hp
theorem name_of {r:RowP} {q:RowJ} {w:Nat} (hp:(r,q)∈prL) (hf:fitR w r=true):rowN (opJ q w) q.form=some r:=by
  have hk:=names _ hp
  have hs:=(pairs _ hp).sub
  simp only [nameK] at hk
  by_cases h:o16 q=true
  · rw [if_pos h,Bool.and_eq_true] at hk
    have h0:0<cnt 111 q.pat:=by simpa [o16] using h
    have e:getP w 0=w / 2^21%2^4:=by rw [getP_eq w 0 (by decide)]; exact Nat.mul_one _
    have h16:w / 2^21%2^4<16:=Nat.mod_lt _ (by decide)
    have:=List.all_eq_true.1 hk.2 (w / 2^21%2^4) (List.mem_range.2 h16)
    rw [Bool.or_eq_true,kb_not ((fit_kb w r hs).1 hf) (kb_opv w)] at this
    rw [opJ,if_pos h0,fg w hk.1,e]
    rcases this with x|x
    · cases x
    · exact eqO_eq x
  · rw [if_neg h] at hk
    have h0:cnt 111 q.pat=0:=by
      have:¬0<cnt 111 q.pat:=by simpa [o16] using h
      omega
    rw [opJ_1 h0]; exact eqO_eq hk
theorem dec_enc {w:Nat} (hw:w<4294967296) {i:Ins} (h:decP w=some i):encP i=some w:=by
  obtain ⟨r,q,hr,hp,hq,hh,hi,hi'⟩:=dec_hit hw h
  have hf:=(row_fit hr).1
  have hn:rowN i.op i.form=some r:=by rw [hi]; exact name_of hp hf
  have hl:layP r i=w:=by rw [hi']; exact lays _ hp w hw hf
  unfold encP
  rw [hn]
  show (match decP (layP r i) with|none=>none|some j=>if j.same i then some (layP r i) else none)=some w
  rw [hl,h]
  show (if i.same i then some w else none)=some w
  rw [Ins.same_self]; rfl
theorem or_lt32 {a b:Nat} (ha:a<4294967296) (hb:b<4294967296):a ||| b<4294967296:=by
  have h3:(2:Nat)^32=4294967296:=by decide
  rw [←h3] at *
  exact Nat.or_lt_two_pow ha hb
theorem layF_lt (i:Ins):∀(l:List Nat) (w:Nat),w<4294967296→layF i w l<4294967296
  | [],w,h=>h
  | k::l,w,h=>layF_lt i l _ (or_lt32 h (Nat.mod_lt _ (by decide)))
theorem layP_lt {r:RowP} (hr:r.bits<4294967296) (i:Ins):layP r i<4294967296:=layF_lt i _ _ (or_lt32 hr (by omega))
theorem rows_lt:∀r∈lowL++highL,r.bits<4294967296:=by
  have:(lowL++highL).all (fun r=>decide (r.bits<4294967296))=true:=by decide
  intro r hr
  simpa using List.all_eq_true.1 this r hr
theorem rowN_mem {op form:Int} {r:RowP} (h:rowN op form=some r):r∈lowL++highL:=List.mem_of_find?_eq_some h
theorem enc_dec {i:Ins} {w:Nat} (h:encP i=some w):decP w=some i∧w<4294967296:=by
  unfold encP at h
  cases hn:rowN i.op i.form with
  | none=>rw [hn] at h; cases h
  | some r =>
    rw [hn] at h
    have h:(match decP (layP r i) with|none=>none|some j=>if j.same i then some (layP r i) else none)=some w:=h
    cases hd:decP (layP r i) with
    | none=>rw [hd] at h; cases h
    | some j =>
      rw [hd] at h
      have h:(if j.same i then some (layP r i) else none)=some w:=h
      cases hs:j.same i with
      | false=>rw [hs] at h; cases h
      | true =>
        rw [hs,if_pos rfl] at h
        have e:=Option.some.inj h
        have hj:=(Ins.same_iff j i).1 hs
        rw [←e,hd,hj]
        exact ⟨rfl,layP_lt (rows_lt r (rowN_mem hn)) i⟩
theorem sumJ_lt (p:List UInt8):∀(L:List UInt8) (V:List Nat) (x:Nat),x<4294967296→sumJ p L V x<4294967296
  | [],[],x,h=>h
  | [],_::_,x,h=>h
  | _::_,[],x,h=>h
  | c::L,v::V,x,h=>sumJ_lt p L V _ (Nat.mod_lt _ (by decide))
theorem on_lt:∀q∈rowsJ,mkP 49 4294967295 q.pat<4294967296:=by
  have:rowsJ.all (fun q=>decide (mkP 49 4294967295 q.pat<4294967296))=true:=by decide
  intro q hq
  simpa using List.all_eq_true.1 this q hq
theorem wordJ_lt {q:RowJ} (hq:q∈rowsJ) (i:Ins):wordJ q i<4294967296:=sumJ_lt _ _ _ _ (on_lt q hq)
theorem try_some {i:Ins} {q:RowJ} (hq:q∈rowsJ) (h:tryJ i q=true):decP (wordJ q i)=some i:=by
  rw [tryJ,Bool.and_eq_true,Bool.and_eq_true] at h
  have h2:=h.2.2
  rw [dec_eq (wordJ_lt hq i)]
  cases hd:decJ (wordJ q i) with
  | none=>rw [hd] at h2; cases h2
  | some j =>
    rw [hd] at h2
    rw [(Ins.same_iff j i).1 h2]
theorem say_try {w:Nat} (hw:w<4294967296) {i:Ins} {q:RowJ} (hq:q∈rowsJ) (hh:hitJ w q=true) (hi:i=sayJ q w) (hd:decP w=some i):tryJ i q=true:=by
  have hh':=hh
  rw [hitJ,Bool.and_eq_true,Bool.and_eq_true] at hh'
  have hw':wordJ q i=w:=by rw [hi]; exact word_say hq hw hh'.1 hh'.2.1
  rw [tryJ,hw',←dec_eq hw,hd]
  show (q.ops.contains i.op && (q.form == i.form && i.same i))=true
  rw [Ins.same_self,hi]
  show (q.ops.contains (opJ q w) && (q.form == q.form && true))=true
  rw [hh'.2.1,beq_self_eq_true]; rfl
theorem enc_eq (i:Ins):encP i=encJ i:=by
  unfold encJ
  cases hf:rowsJ.find? (tryJ i) with
  | some q =>
    have hq:=List.mem_of_find?_eq_some hf
    exact dec_enc (wordJ_lt hq i) (try_some hq (List.find?_some hf))
  | none =>
    rw [List.find?_eq_none] at hf
    cases he:encP i with
    | none=>rfl
    | some w =>
      obtain ⟨hd,hw⟩:=enc_dec he
      obtain ⟨r,q,_,_,hq,hh,hi,_⟩:=dec_hit hw hd
      exact absurd (say_try hw hq hh hi hd) (hf q hq)
theorem dec_inj {w v:Nat} (hw:w<4294967296) (hv:v<4294967296) {i:Ins} (h1:decP w=some i) (h2:decP v=some i):w=v:=by
  have a:=dec_enc hw h1
  have b:=dec_enc hv h2
  rw [a] at b
  exact Option.some.inj b
set_option linter.unusedVariables false
set_option maxRecDepth 100000
def onlyN (b:Bool) (n:Int):Nat:=if b then 2^n.toNat else 0
def readsR (r:RowP) (i:Ins):Nat :=
  let n:=((onlyN (hasR r 5) i.rn ||| onlyN (hasR r 6) i.rm) ||| onlyN (hasR r 7) i.rs) ||| (onlyN (rRaP i.op) i.ra ||| onlyN (rRdP i.op) i.rd)
  if i.op=40 then n ||| i.list.toNat else n
def readsP (i:Ins):Nat:=match encP i with|none=>0|some _=>readsR ((rowN i.op i.form).getD rowZ) i
def writesR (r:RowP) (i:Ins):Nat :=
  let n:=(onlyN ((hasR r 3 || hasR r 4) && !sendsP i.op) i.rd ||| onlyN (isLongP i.op) i.ra) ||| ((onlyN (movesP i) i.rn ||| onlyN (goesP i.op) 15) ||| onlyN (comesP i.op) 14)
  if i.op=39 then n ||| i.list.toNat else n
def writesP (i:Ins):Nat:=match encP i with|none=>0|some _=>writesR ((rowN i.op i.form).getD rowZ) i
def raJ (op:Int):Bool:=[20,22,24].contains op
def rdJ (op:Int):Bool:=[18,22,24,32,34,36,49].contains op
def readsQ (q:RowJ) (i:Ins):Nat :=
  let n:=(((onlyN (hasJ q 110) i.rn ||| onlyN (hasJ q 109) i.rm) ||| onlyN (hasJ q 114) i.rs) ||| onlyN (raJ i.op) i.ra) ||| onlyN (rdJ i.op) i.rd
  if i.op=40 then n ||| i.list.toNat else n
def rowJZ:RowJ:=⟨[],0,[]⟩
def readsJ (i:Ins):Nat:=match encJ i with|none=>0|some w=>readsQ ((findJ w).getD rowJZ) i
def wrdJ (op:Int):Bool:=decide (op≤8) || (decide (13≤op) && decide (op≤31) || [33,35,37,38,47,50].contains op)
def backJ (i:Ins):Bool:=(decide (31≤i.op) && decide (i.op≤38)) && (i.write || !i.pre) || (i.op == 39 || i.op == 40) && i.write
def writesQ (i:Ins):Nat :=
  let n:=(((onlyN (wrdJ i.op) i.rd ||| onlyN (isLongP i.op) i.ra) ||| onlyN (backJ i) i.rn) ||| onlyN (i.op == 42 || i.op == 44) 14) ||| onlyN (decide (41≤i.op) && decide (i.op≤44)) 15
  if i.op=39 then n ||| i.list.toNat else n
def writesJ (i:Ins):Nat:=match encJ i with|none=>0|some _=>writesQ i
def touchK (r:RowP) (q:RowJ):Bool :=
  ((hasR r 5 == hasJ q 110 && (hasR r 6 == hasJ q 109 && hasR r 7 == hasJ q 114)) &&
  (q.ops.all (fun o=>rRaP o == raJ o && rRdP o == rdJ o) &&
  (q.ops.all (fun o=>((hasR r 3 || hasR r 4) && !sendsP o) == wrdJ o && (goesP o == (decide (41≤o) && decide (o≤44)) && comesP o == (o == 42 || o == 44))) &&
  (cnt 119 q.pat == 0 || q.ops.all (fun o=>decide (31≤o) && decide (o≤40))))))
theorem touches:∀p∈prL,touchK p.1 p.2=true:=by
  have:prL.all (fun p=>touchK p.1 p.2)=true:=by decide
  exact fun p hp=>List.all_eq_true.1 this p hp
theorem enc_row {i:Ins} {w:Nat} (h:encP i=some w):∃r q,rowN i.op i.form=some r∧(r,q)∈prL∧findJ w=some q∧q.ops.contains i.op=true∧i=sayJ q w:=by
  obtain ⟨hd,hw⟩:=enc_dec h
  obtain ⟨r,q,hr,hp,hq,hh,hi,hi'⟩:=dec_hit hw hd
  have hj:=dec_eq hw
  rw [hd] at hj
  unfold decJ at hj
  cases hf:findJ w with
  | none=>rw [hf] at hj; cases hj
  | some q' =>
    have hf':rowsJ.find? (hitJ w)=some q':=hf
    have hq':=List.mem_of_find?_eq_some hf'
    have hh':=List.find?_some hf'
    obtain ⟨r',hr',hp'⟩:=to_all w q' hq' hh'
    rw [hr] at hr'
    obtain rfl:=Option.some.inj hr'
    have hi2:i=sayJ q' w:=by
      rw [hf] at hj
      exact Option.some.inj hj
    have hfit:=(row_fit hr).1
    refine ⟨r,q',?_,hp',rfl,?_,hi2⟩
    · rw [hi2]; exact name_of hp' hfit
    · rw [hi2]; exact (pairs _ hp').ops w hfit
theorem or_five (a b c d e:Nat):((a ||| b) ||| c) ||| (d ||| e)=(((a ||| b) ||| c) ||| d) ||| e:=(Nat.or_assoc _ _ _).symm
theorem reads_eq (i:Ins):readsP i=readsJ i:=by
  unfold readsP readsJ
  rw [←enc_eq]
  cases he:encP i with
  | none=>rfl
  | some w =>
    obtain ⟨r,q,hn,hp,hf,ho,hi⟩:=enc_row he
    have hk:=touches _ hp
    simp only [touchK,Bool.and_eq_true,beq_iff_eq] at hk
    obtain ⟨⟨k5,k6,k7⟩,ka,_,_⟩:=hk
    have h2:=List.all_eq_true.1 ka i.op (by simpa using ho)
    simp only [Bool.and_eq_true,beq_iff_eq] at h2
    show readsR ((rowN i.op i.form).getD rowZ) i=readsQ ((findJ w).getD rowJZ) i
    rw [hn,hf]
    show readsR r i=readsQ q i
    unfold readsR readsQ
    rw [k5,k6,k7,h2.1,h2.2,or_five]
theorem or_six (a b c d e:Nat):(a ||| b) ||| ((c ||| d) ||| e)=(((a ||| b) ||| c) ||| e) ||| d:=by
  rw [←Nat.or_assoc,←Nat.or_assoc,Nat.or_assoc (a ||| b ||| c),Nat.or_comm d e,←Nat.or_assoc]
theorem writes_eq (i:Ins):writesP i=writesJ i:=by
  unfold writesP writesJ
  rw [←enc_eq]
  cases he:encP i with
  | none=>rfl
  | some w =>
    obtain ⟨r,q,hn,hp,hf,ho,hi⟩:=enc_row he
    have hk:=touches _ hp
    simp only [touchK,Bool.and_eq_true] at hk
    obtain ⟨_,_,kb,kc⟩:=hk
    have h2:=List.all_eq_true.1 kb i.op (by simpa using ho)
    simp only [Bool.and_eq_true,beq_iff_eq] at h2
    have hm:movesP i=backJ i:=by
      unfold movesP backJ
      have hz:¬(31≤i.op∧i.op≤40)→i.write=false:=by
        intro hn
        rw [Bool.or_eq_true] at kc
        rcases kc with k|k
        · rw [hi]
          show (fvP 119 w q.pat == 1)=false
          rw [fv_none 119 q.pat w (by simpa using k)]; rfl
        · have:=List.all_eq_true.1 k i.op (by simpa using ho)
          simp only [Bool.and_eq_true,decide_eq_true_eq] at this
          exact absurd this hn
      by_cases h:31≤i.op∧i.op≤38
      · rw [isOneP,decide_eq_true h.1,decide_eq_true h.2,beq_eq_false_iff_ne.2 (show i.op≠39 by omega),beq_eq_false_iff_ne.2 (show i.op≠40 by omega)]
        simp
      · have h1:isOneP i.op=false:=by rw [isOneP]; by_cases x:31≤i.op <;>by_cases y:i.op≤38 <;>simp [x,y] <;>omega
        have h1':(decide (31≤i.op) && decide (i.op≤38))=false:=h1
        rw [h1,h1',Bool.false_and,Bool.false_and,Bool.or_false,Bool.false_or]
        by_cases h4:i.op=39∨i.op=40
        · have:(i.op == 39 || i.op == 40)=true:=by rcases h4 with e|e <;>rw [e] <;>rfl
          rw [this,Bool.true_and]
        · rw [hz (by omega),Bool.and_false]
    show writesR ((rowN i.op i.form).getD rowZ) i=writesQ i
    rw [hn]
    show writesR r i=writesQ i
    unfold writesR writesQ
    rw [h2.1,h2.2.1,h2.2.2,hm,or_six]
theorem onlyP_N (b:Bool) (n:Int):onlyP b n=((onlyN b n:Nat):Int):=by
  cases b
  · rfl
  · show (2:Int)^n.toNat=((2^n.toNat:Nat):Int)
    rw [pow_nat]
end Go.Proofs.YtkmgmmmpiallhaaDoor

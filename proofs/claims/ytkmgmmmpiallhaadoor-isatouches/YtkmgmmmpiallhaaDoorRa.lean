import Derived.Test.YtkmgmmmpiallhaaDoorBa
import Derived.Test.YtkmgmmmpiallhaaDoorPl
namespace Go.Proofs.YtkmgmmmpiallhaaDoor
open Go.RowKit
set_option linter.unusedVariables false
structure Sl (w:World) (b:Nat) (l:List Int):Prop where
  bl:Bl w b 3 (l.map fun n=> .int .i64 n)
  len:l.length≤100
theorem Sl.below {w w':World} {b:Nat} {l:List Int} (h:Sl w b l) (hb:Below w.heap.size w w'):Sl w' b l:=⟨h.bl.below hb,h.len⟩
theorem Sl.cell {w:World} {b:Nat} {l:List Int} (h:Sl w b l) {j:Nat} (hj:j<l.length):w.cell? ⟨b,j,none⟩=some (.int .i64 l[j]):=by
  rw [h.bl.cell j]; simp [hj]
theorem any_drop {l:List Int} {n:Int} {j:Nat} (hj:j<l.length):(l.drop j).contains n=(l[j] == n || (l.drop (j+1)).contains n):=by
  rw [List.drop_eq_getElem_cons hj,List.contains_cons]
  congr 1
  exact Bool.eq_iff_iff.2 ⟨fun h=>by simpa using (beq_iff_eq.1 h).symm,fun h=>by simpa using (beq_iff_eq.1 h).symm⟩
open Go.RowKit
set_option linter.unusedVariables false
set_option linter.unusedSimpArgs false
structure Pat (s:ByteArray) (l:List UInt8):Prop where
  data:s.data.toList=l
  places:nb l=32
  len:l.length≤100
theorem Pat.size {s:ByteArray} {l:List UInt8} (h:Pat s l):s.size=l.length:=by
  rw [←h.data,Array.length_toList]; rfl
theorem cnt_le (c:UInt8) (hc:c≠32) (l:List UInt8):cnt c l≤nb l:=by
  induction l with
  | nil=>simp [cnt,nb]
  | cons x l ih =>
    simp only [cnt,nb]
    split <;>split <;>simp_all <;>omega
theorem drop_at {l:List UInt8} {j:Nat} (h:j<l.length):l.drop j=l[j]::l.drop (j+1):=List.drop_eq_getElem_cons h
theorem nb_drop (l:List UInt8) (j:Nat):nb (l.drop j)≤nb l:=by
  induction l generalizing j with
  | nil=>simp [nb]
  | cons x l ih =>
    cases j with
    | zero=>simp
    | succ j =>
      have:=ih j
      simp only [List.drop_succ_cons,nb]
      split <;>omega
theorem Pat.get {s:ByteArray} {l:List UInt8} (h:Pat s l) {j:Nat} (hj:j<l.length) (hj':j<s.size):s[j]=l[j]:=by
  have e:s[j]=s.data[j]'hj':=rfl
  rw [e]
  have:=h.data
  subst this
  simp
theorem nat_u8 {x y:UInt8}:((x.toNat:Int) == (y.toNat:Int))=decide (x=y):=by
  by_cases h:x=y
  · subst h; simp
  · have:x.toNat≠y.toNat:=fun e=>h (UInt8.toNat_inj.1 e)
    rw [decide_eq_false h,beq_eq_false_iff_ne]; omega
theorem nat_u8k {x y:UInt8} {k:Int} (hk:k=(y.toNat:Int)):((x.toNat:Int) == k)=decide (x=y):=by rw [hk]; exact nat_u8
theorem wrap_pred (a:Nat) (h1:0<a) (h2:a≤32):wrap64 ((a:Int)-1)=((a-1:Nat):Int):=by
  (unfold wrap64; omega)
theorem bit_at (x a:Nat) (h2:a<32):((x:Int) / 2^min (IntKind.u64.wrap (a:Int)).toNat 32).tmod 2=(bN x a:Nat):=by
  have e:(IntKind.u64.wrap (a:Int)).toNat=a:=by rw [IntKind.wrap_u64]; omega
  rw [e,Nat.min_eq_left (by omega),←pow_nat,←Int.natCast_ediv,bN]
  rw [Int.tmod_eq_emod_of_nonneg (Int.natCast_nonneg _)]
  rfl
theorem fv_yes {c:UInt8} {x V M:Nat} {l t:List UInt8} {j:Nat} (e:l.drop j=c::t) (hc:c≠32) (hv:V*2^cnt c (l.drop j)+fvP c x (l.drop j)=fvP c x l) (hm:M+cnt c (l.drop j)=cnt c l) (hl:nb l=32) :
    nb (l.drop j)=nb t+1∧nb t<32∧(2*V+bN x (nb t))*2^cnt c t+fvP c x t=fvP c x l∧M+1+cnt c t=cnt c l∧2*V+bN x (nb t)<4294967296∧M≤32:=by
  have hn:=nb_drop l j
  have hlt:=fvP_lt c x l
  have hcl:=cnt_le c hc l
  rw [e] at hv hm hn ⊢
  simp only [nb,if_neg hc,cnt,if_true,fvP] at hv hm hn ⊢
  have e2:(2*V+bN x (nb t))*2^cnt c t+fvP c x t=fvP c x l:=by
    rw [←hv,Nat.pow_succ,Nat.add_mul,Nat.mul_comm 2 V,Nat.mul_assoc V 2,Nat.mul_comm 2 (2^cnt c t)]; omega
  refine ⟨trivial,by omega,e2,by omega,?_,by omega⟩
  have h1:2^cnt c l≤2^32:=Nat.pow_le_pow_right (by decide) (by omega)
  have h2:=Nat.le_mul_of_pos_right (2*V+bN x (nb t)) (Nat.two_pow_pos (cnt c t))
  have h3:(2:Nat)^32=4294967296:=by decide
  omega
theorem fv_no {c y:UInt8} {x:Nat} {t:List UInt8} (hc:y≠c):cnt c (y::t)=cnt c t∧fvP c x (y::t)=fvP c x t:=by
  simp only [cnt,fvP,if_neg hc,and_self]
set_option maxRecDepth 100000 in
set_option maxHeartbeats 1000000 in
theorem jfield_any (s:ByteArray) (l:List UInt8) (c:UInt8) (x:Nat) (w:World) (hp:Pat s l) (hc:c≠32) (hx:x<4294967296) :
    Calls Tryd.prog 57 #[.string s,.int .u8 (c.toNat:Int),.int .u32 x] w fun e w'=>e= .returned (.tuple #[.int .u32 (fvP c x l:Nat),.int .i64 (cnt c l:Nat)])∧w'=w:=by
  have hsz:=hp.size
  have hp:Hid _:=hp
  have hlen:=hp.out.len
  have hpl:Hid _:=hp.out.places
  have hc:Hid _:=hc
  go_enter Tryd.func57,Tryd.ntmps57
  go_wp2
  go_loopw [8,9,10,11] (fun v n a k wr=>∃(j V M:Nat),j≤l.length∧v= .int .u32 (V:Int)∧n= .int .i64 (M:Int)∧a= .int .i64 (nb (l.drop j):Int)∧k= .int .i64 (j:Int)∧V*2^cnt c (l.drop j)+fvP c x (l.drop j)=fvP c x l∧M+cnt c (l.drop j)=cnt c l∧wr=w) (fun _ _ _ k _=>(l.length-intOf k).toNat)
  case atStart=>exact ⟨0,0,0,by omega,rfl,rfl,by rw [List.drop_zero,hpl.out]; rfl,rfl,by simp,by simp,rfl⟩
  case round =>
    obtain ⟨j,V,M,h1,rfl,rfl,rfl,rfl,hv,hm,rfl⟩:=hrel
    have hv:Hid _:=hv
    have hm:Hid _:=hm
    by_cases h:j<l.length
    · have hj1:IntKind.i64.wrap ((j:Int)+1)=((j+1:Nat):Int):=by rw [IntKind.wrap_i64]; omega
      have z1:decide ((j:Int)<(l.length:Nat))=true:=decide_eq_true (by omega)
      have hg:=hp.out.get h (by omega)
      have ed:Hid (l.drop j=l[j]::l.drop (j+1)):=drop_at h
      go_wp2
      · rename_i hb
        have hb:l[j]=32:=by rw [nat_u8k (y:=32) (k:=32) rfl,decide_eq_true_eq] at hb; exact hb
        have e:=ed.out
        rw [hb] at e
        refine ⟨⟨j+1,V,M,by omega,rfl,rfl,?_,rfl,?_,?_,trivial⟩,?_⟩
        · rw [e]; simp [nb]
        · have:=hv.out
          rw [e,(fv_no (x:=x) (Ne.symm hc.out)).1,(fv_no (x:=x) (Ne.symm hc.out)).2] at this
          exact this
        · have:=hm.out
          rw [e,(fv_no (x:=x) (Ne.symm hc.out)).1] at this
          exact this
        · simp only [intOf]; omega
      · rename_i hb hy
        have hb:l[j]≠32:=by rw [nat_u8k (y:=32) (k:=32) rfl,decide_eq_false_iff_not] at hb; exact hb
        have hy:l[j]=c:=by rw [nat_u8,decide_eq_true_eq] at hy; exact hy
        have e:=ed.out
        rw [hy] at e
        obtain ⟨k1,k2,k3,k4,k5,k6⟩:=fv_yes e hc.out hv.out hm.out hpl.out
        rw [k1]
        rw [wrap_pred _ (by omega) (by omega),Nat.add_sub_cancel,bit_at _ _ k2]
        refine ⟨⟨j+1,_,_,by omega,congrArg _ (?_:_=((2*V+bN x (nb (l.drop (j+1))):Nat):Int)),congrArg _ (?_:_=((M+1:Nat):Int)),rfl,rfl,k3,k4,trivial⟩,?_⟩
        · omega
        · (unfold wrap64; omega)
        · simp only [intOf]; omega
      · rename_i hb hy
        have hb:l[j]≠32:=by rw [nat_u8k (y:=32) (k:=32) rfl,decide_eq_false_iff_not] at hb; exact hb
        have hy:l[j]≠c:=by rw [nat_u8,decide_eq_false_iff_not] at hy; exact hy
        have e:=ed.out
        have hn:=nb_drop l j
        have hpl2:=hpl.out
        have e3:nb (l.drop j)=nb (l.drop (j+1))+1:=by rw [e]; simp only [nb,if_neg hb]
        rw [wrap_pred _ (by omega) (by omega),e3,Nat.add_sub_cancel]
        refine ⟨⟨j+1,V,M,by omega,rfl,rfl,rfl,rfl,?_,?_,trivial⟩,?_⟩
        · have:=hv.out
          rw [e,(fv_no (x:=x) hy).1,(fv_no (x:=x) hy).2] at this
          exact this
        · have:=hm.out
          rw [e,(fv_no (x:=x) hy).1] at this
          exact this
        · simp only [intOf]; omega
    · have z1:decide ((j:Int)<(l.length:Nat))=false:=decide_eq_false (by omega)
      have e:l.drop j=[]:=List.drop_eq_nil_of_le (by omega)
      have hv:=hv.out
      have hm:=hm.out
      rw [e] at hv hm
      simp only [cnt,fvP,Nat.pow_zero,Nat.mul_one,Nat.add_zero] at hv hm
      subst hv hm
      go_wp2
      exact bodyPost_ret (v:= .tuple #[.int .u32 (fvP c x l:Nat),.int .i64 (cnt c l:Nat)]) (by simp [results,Tryd.results57,go_sem]) rfl ⟨rfl,rfl⟩
open Go.RowKit
set_option linter.unusedVariables false
set_option linter.unusedSimpArgs false
set_option maxRecDepth 100000 in
theorem jnum_any (s:ByteArray) (l:List UInt8) (c:UInt8) (x:Nat) (w:World) (hp:Pat s l) (hc:c≠32) (hx:x<4294967296) :
    Calls Tryd.prog 59 #[.string s,.int .u8 (c.toNat:Int),.int .u32 x] w fun e w'=>e= .returned (.int .i64 (fvP c x l:Nat))∧w'=w:=by
  have H:Hid (∀w,Calls Tryd.prog 57 #[.string s,.int .u8 (c.toNat:Int),.int .u32 x] w fun e w'=>e= .returned (.tuple #[.int .u32 (fvP c x l:Nat),.int .i64 (cnt c l:Nat)])∧w'=w):=fun w=>jfield_any s l c x w hp hc hx
  have hb:fvP c x l<4294967296:=by
    have h1:=fvP_lt c x l
    have h2:=cnt_le c hc l
    have h3:2^cnt c l≤2^32:=Nat.pow_le_pow_right (by decide) (by have:=hp.places; omega)
    have h4:(2:Nat)^32=4294967296:=by decide
    omega
  clear hp hc hx
  generalize fvP c x l=V at *
  generalize cnt c l=M at *
  generalize c.toNat=C at *
  have hw:IntKind.i64.wrap (V:Int)=(V:Int):=by rw [IntKind.wrap_i64]; omega
  go_enter Tryd.func59,Tryd.ntmps59
  go_wp2_with (go_at_call 57; refine (H.out _).mono ?_; rintro e w' ⟨rfl,rfl⟩)
  exact bodyPost_ret (v:= .int .i64 (V:Int)) (by simp [results,Tryd.results59,go_sem]) rfl ⟨rfl,rfl⟩
theorem bit_ne {b:Nat} (h:b<2):((b:Int) == 0)=decide (b=0)∧((b:Int) == 1)=decide (b=1):=by
  rcases (by omega:b=0∨b=1) with rfl|rfl <;>decide
theorem fi_at (x:Nat) (y:UInt8) (t:List UInt8):fiP x (y::t)=(!(y == 48 && bN x (nb t) !=0 || y == 49 && bN x (nb t) !=1) && fiP x t):=rfl
set_option maxRecDepth 100000 in
set_option maxHeartbeats 1000000 in
theorem jfits_any (s:ByteArray) (l:List UInt8) (x:Nat) (w:World) (hp:Pat s l) (hx:x<4294967296) :
    Calls Tryd.prog 50 #[.string s,.int .u32 x] w fun e w'=>e= .returned (.bool (fiP x l))∧w'=w:=by
  have hsz:=hp.size
  have hp:Hid _:=hp
  have hlen:=hp.out.len
  have hpl:Hid _:=hp.out.places
  go_enter Tryd.func50,Tryd.ntmps50
  go_wp2
  go_loopw [5,6] (fun a k wr=>∃(j:Nat),j≤l.length∧a= .int .i64 (nb (l.drop j):Int)∧k= .int .i64 (j:Int)∧fiP x (l.drop j)=fiP x l∧wr=w) (fun _ k _=>(l.length-intOf k).toNat)
  case atStart=>exact ⟨0,by omega,by rw [List.drop_zero,hpl.out]; rfl,rfl,by simp,rfl⟩
  case round =>
    obtain ⟨j,h1,rfl,rfl,hv,rfl⟩:=hrel
    have hv:Hid _:=hv
    by_cases h:j<l.length
    · have hj1:IntKind.i64.wrap ((j:Int)+1)=((j+1:Nat):Int):=by rw [IntKind.wrap_i64]; omega
      have z1:decide ((j:Int)<(l.length:Nat))=true:=decide_eq_true (by omega)
      have hg:=hp.out.get h (by omega)
      have ed:Hid (l.drop j=l[j]::l.drop (j+1)):=drop_at h
      have hpl2:=hpl.out
      have hn:=nb_drop l j
      by_cases hb:l[j]=32
      · have e:=ed.out
        have e1:nb (l.drop j)=nb (l.drop (j+1)):=by rw [e,hb]; simp [nb]
        have e2:Hid (fiP x (l.drop j)=fiP x (l.drop (j+1))):=by show _=_; rw [e,hb,fi_at]; rfl
        rw [hb] at hg
        clear e hb hpl2 hn
        have e1:Hid _:=e1
        go_wp2
        refine ⟨⟨j+1,by omega,by rw [e1.out],rfl,by rw [←e2.out]; exact hv.out,trivial⟩,?_⟩
        simp only [intOf]; omega
      · have e:=ed.out
        have e3:nb (l.drop j)=nb (l.drop (j+1))+1:=by rw [e]; simp only [nb,if_neg hb]
        have hbit:((x:Int) / 2^min (IntKind.u64.wrap (nb (l.drop (j+1)):Int)).toNat 32).tmod 2=(bN x (nb (l.drop (j+1))):Nat):=bit_at _ _ (by omega)
        have hat:wrap64 ((nb (l.drop j):Int)-1)=(nb (l.drop (j+1)):Nat):=by rw [wrap_pred _ (by omega) (by omega),e3,Nat.add_sub_cancel]
        have e2:Hid (fiP x (l.drop j)=(!(l[j] == 48 && bN x (nb (l.drop (j+1))) !=0 || l[j] == 49 && bN x (nb (l.drop (j+1))) !=1) && fiP x (l.drop (j+1)))):=by show _=_; rw [e,fi_at]
        have hlt:=bN_lt x (nb (l.drop (j+1)))
        have y0:((l[j].toNat:Int) == 32)=false:=by rw [nat_u8k (y:=32) (k:=32) rfl]; exact decide_eq_false hb
        have y1:((l[j].toNat:Int) == 48)=decide (l[j]=48):=nat_u8k (y:=48) (k:=48) rfl
        have y2:((l[j].toNat:Int) == 49)=decide (l[j]=49):=nat_u8k (y:=49) (k:=49) rfl
        clear e hpl2 hn e3 hb
        generalize bN x (nb (l.drop (j+1)))=B at *
        generalize l[j]=Y at *
        by_cases hy:Y=48
        · subst hy
          rcases (by omega:B=0∨B=1) with rfl|rfl
          · clear hlt
            go_wp2
            refine ⟨⟨j+1,by omega,(by first|rfl|rw [hat]),rfl,by rw [←hv.out,e2.out]; rfl,trivial⟩,?_⟩
            simp only [intOf]; omega
          · clear hlt
            go_wp2
            exact bodyPost_ret (v:= .bool false) (by simp [results,Tryd.results50,go_sem]) rfl ⟨by rw [←hv.out,e2.out]; rfl,rfl⟩
        · by_cases hz:Y=49
          · subst hz
            rcases (by omega:B=0∨B=1) with rfl|rfl
            · clear hlt
              go_wp2
              exact bodyPost_ret (v:= .bool false) (by simp [results,Tryd.results50,go_sem]) rfl ⟨by rw [←hv.out,e2.out]; rfl,rfl⟩
            · clear hlt
              go_wp2
              refine ⟨⟨j+1,by omega,(by first|rfl|rw [hat]),rfl,by rw [←hv.out,e2.out]; rfl,trivial⟩,?_⟩
              simp only [intOf]; omega
          · rw [decide_eq_false hy] at y1
            rw [decide_eq_false hz] at y2
            have e4:Hid (fiP x (l.drop j)=fiP x (l.drop (j+1))):=by
              have b1:(Y == 48)=false:=by simpa using hy
              have b2:(Y == 49)=false:=by simpa using hz
              show _=_
              rw [e2.out,b1,b2]; rfl
            clear e2 hy hz hlt
            go_wp2
            refine ⟨⟨j+1,by omega,(by first|rfl|rw [hat]),rfl,by rw [←hv.out,e4.out],trivial⟩,?_⟩
            simp only [intOf]; omega
    · have z1:decide ((j:Int)<(l.length:Nat))=false:=decide_eq_false (by omega)
      have e:l.drop j=[]:=List.drop_eq_nil_of_le (by omega)
      have hv:=hv.out
      rw [e] at hv
      have hv:Hid _:=hv
      clear e
      go_wp2
      exact bodyPost_ret (v:= .bool true) (by simp [results,Tryd.results50,go_sem]) rfl ⟨by rw [←hv.out]; rfl,rfl⟩
open Go.RowKit
set_option linter.unusedVariables false
set_option linter.unusedSimpArgs false
theorem lay_step (x v a k m:Nat) (ha:a<32):(((x:Int)+(m:Int))%4294967296+((v:Int) / 2^k).tmod 2*2^min (IntKind.u64.wrap (a:Int)).toNat 32%4294967296)%4294967296=(((x+(v / 2^k%2*2^a+m))%4294967296:Nat):Int):=by
  have e:(IntKind.u64.wrap (a:Int)).toNat=a:=by rw [IntKind.wrap_u64]; omega
  have e1:((v:Int) / 2^k).tmod 2=((v / 2^k%2:Nat):Int):=by
    rw [←pow_nat,←Int.natCast_ediv,Int.tmod_eq_emod_of_nonneg (Int.natCast_nonneg _)]; rfl
  rw [e,Nat.min_eq_left (by omega),e1,←pow_nat,←Int.natCast_mul]
  generalize v / 2^k%2*2^a=q
  omega
theorem half_step (v k:Nat) (hv:v<4294967296):((v:Int) / 2^k).tdiv 2%4294967296=((v / 2^(k+1):Nat):Int):=by
  have h1:=Nat.div_le_self v (2^k)
  rw [←pow_nat,←Int.natCast_ediv,Int.tdiv_eq_ediv_of_nonneg (Int.natCast_nonneg _),Nat.pow_succ,←Nat.div_div_eq_div_mul]
  generalize v / 2^k=q at *
  omega
theorem mk_no {c y:UInt8} {v:Nat} {t:List UInt8} (hc:y≠c):cnt c (y::t)=cnt c t∧mkP c v (y::t)=mkP c v t:=by
  simp only [cnt,mkP,if_neg hc,and_self]
theorem mk_yes {c:UInt8} {v:Nat} {t:List UInt8}:cnt c (c::t)=cnt c t+1∧mkP c v (c::t)=v / 2^cnt c t%2*2^nb t+mkP c v t:=by
  simp only [cnt,mkP,if_true,and_self]
set_option maxRecDepth 100000 in
set_option maxHeartbeats 1000000 in
theorem jlay_any (s:ByteArray) (l:List UInt8) (c:UInt8) (x v:Nat) (w:World) (hp:Pat s l) (hc:c≠32) (hx:x<4294967296) (hv:v<4294967296) :
    Calls Tryd.prog 55 #[.string s,.int .u8 (c.toNat:Int),.int .u32 x,.int .u32 v] w fun e w'=>e= .returned (.int .u32 (((x+mkP c v l)%4294967296:Nat):Int))∧w'=w:=by
  have hsz:=hp.size
  have hp:Hid _:=hp
  have hlen:=hp.out.len
  have hpl:Hid _:=hp.out.places
  have hc:Hid _:=hc
  have hl1:IntKind.i64.wrap ((l.length:Int)-1)=(l.length:Int)-1:=by rw [IntKind.wrap_i64]; omega
  go_enter Tryd.func55,Tryd.ntmps55
  go_wp2
  go_loopw [2,3,9,10] (fun a b t k wr=>∃(j:Nat),j≤l.length∧a= .int .u32 (((x+mkP c v (l.drop j))%4294967296:Nat):Int)∧b= .int .u32 ((v / 2^cnt c (l.drop j):Nat):Int)∧t= .int .i64 (nb (l.drop j):Int)∧k= .int .i64 ((j:Int)-1)∧wr=w) (fun _ _ _ k _=>(intOf k+1).toNat)
  case atStart =>
    refine ⟨l.length,by omega,?_,?_,?_,?_,rfl⟩
    · rw [List.drop_length]; simp only [mkP,Nat.add_zero]; rw [Nat.mod_eq_of_lt hx]
    · rw [List.drop_length]; simp [cnt]
    · rw [List.drop_length]; rfl
    · rfl
  case round =>
    obtain ⟨j,h1,rfl,rfl,rfl,rfl,rfl⟩:=hrel
    by_cases h:0<j
    · obtain ⟨j,rfl⟩:∃k,j=k+1:=⟨j-1,by omega⟩
      have hk:((j+1:Nat):Int)-1=(j:Int):=by omega
      have hj1:IntKind.i64.wrap ((j:Int)-1)=(j:Int)-1:=by rw [IntKind.wrap_i64]; omega
      have h:j<l.length:=by omega
      have hg:=hp.out.get h (by omega)
      have ed:Hid (l.drop j=l[j]::l.drop (j+1)):=drop_at h
      rw [hk]
      go_wp2
      · rename_i hb
        have hb:l[j]=32:=by rw [nat_u8k (y:=32) (k:=32) rfl,decide_eq_true_eq] at hb; exact hb
        have e:=ed.out
        rw [hb] at e
        refine ⟨⟨j,by omega,?_,?_,?_,rfl,trivial⟩,?_⟩
        · rw [e,(mk_no (Ne.symm hc.out)).2]
        · rw [e,(mk_no (v:=v) (Ne.symm hc.out)).1]
        · rw [e]; simp [nb]
        · simp only [intOf]; omega
      · rename_i hb hy
        have hb:l[j]≠32:=by rw [nat_u8k (y:=32) (k:=32) rfl,decide_eq_false_iff_not] at hb; exact hb
        have hy:l[j]=c:=by rw [nat_u8,decide_eq_true_eq] at hy; exact hy
        have e:=ed.out
        rw [hy] at e
        have hn:=nb_drop l j
        have hpl2:=hpl.out
        rw [hy] at hb
        have e3:nb (l.drop j)=nb (l.drop (j+1))+1:=by rw [e]; simp only [nb,if_neg hb]
        refine ⟨⟨j,by omega,?_,?_,?_,rfl,trivial⟩,?_⟩
        · rw [lay_step _ _ _ _ _ (by omega),e,mk_yes.2]
        · rw [half_step _ _ hv,e,(mk_yes (v:=v)).1]
        · rw [e3]; congr 1; (unfold wrap64; omega)
        · simp only [intOf]; omega
      · rename_i hb hy
        have hb:l[j]≠32:=by rw [nat_u8k (y:=32) (k:=32) rfl,decide_eq_false_iff_not] at hb; exact hb
        have hy:l[j]≠c:=by rw [nat_u8,decide_eq_false_iff_not] at hy; exact hy
        have e:=ed.out
        have hn:=nb_drop l j
        have hpl2:=hpl.out
        have e3:nb (l.drop j)=nb (l.drop (j+1))+1:=by rw [e]; simp only [nb,if_neg hb]
        refine ⟨⟨j,by omega,?_,?_,?_,rfl,trivial⟩,?_⟩
        · rw [e,(mk_no hy).2]
        · rw [e,(mk_no (v:=v) hy).1]
        · rw [e3]; congr 1; (unfold wrap64; omega)
        · simp only [intOf]; omega
    · obtain rfl:j=0:=by omega
      clear h
      go_wp2
      exact bodyPost_ret (v:= .int .u32 (((x+mkP c v l)%4294967296:Nat):Int)) (by simp [results,Tryd.results55,go_sem]) rfl ⟨rfl,rfl⟩
set_option maxRecDepth 100000 in
theorem jbit_any (b:Bool) (w:World):Calls Tryd.prog 56 #[.bool b] w fun e w'=>e= .returned (.int .u32 (b.toNat:Nat))∧w'=w:=by
  cases b <;>(go_enter Tryd.func56,Tryd.ntmps56; go_wp2) <;>exact bodyPost_ret (by simp [results,Tryd.results56,go_sem]) rfl ⟨rfl,rfl⟩
set_option maxRecDepth 100000 in
theorem jhas_any (o:Value) (q:Int) (s:ByteArray) (l:List UInt8) (c:UInt8) (w:World) (hp:Pat s l) (hc:c≠32):Calls Tryd.prog 39 #[.agg #[o,.int .i64 q,.string s],.int .u8 (c.toNat:Int)] w fun e w'=>e= .returned (.bool (decide (0<cnt c l)))∧Below w.heap.size w w':=by
  have H:Hid (∀w,Calls Tryd.prog 57 #[.string s,.int .u8 (c.toNat:Int),.int .u32 0] w fun e w'=>e= .returned (.tuple #[.int .u32 (fvP c 0 l:Nat),.int .i64 (cnt c l:Nat)])∧w'=w):=fun w=>jfield_any s l c 0 w hp hc (by decide)
  clear hp hc
  generalize fvP c 0 l=V at *
  generalize c.toNat=C at *
  go_enter Tryd.func39,Tryd.ntmps39
  go_wp2_with (go_at_call 57; refine (H.out _).mono ?_; rintro e w' ⟨rfl,rfl⟩)
  exact bodyPost_ret (v:= .bool (decide (0<cnt c l))) (by simp [results,Tryd.results39,go_sem]) rfl ⟨rfl,below_new _ _⟩
set_option maxRecDepth 100000 in
theorem jone_any (b:Bool) (n:Int) (w:World) (h0:0≤n) (h1:n<16):Calls Tryd.prog 38 #[.bool b,.int .i64 n] w fun e w'=>e= .returned (.int .u16 (if b then 2^n.toNat else 0))∧w'=w:=by
  cases b
  · go_enter Tryd.func38,Tryd.ntmps38
    go_wp2
    exact bodyPost_ret (v:= .int .u16 0) (by simp [results,Tryd.results38,go_sem]) rfl ⟨rfl,rfl⟩
  · have h:∀k:Fin 16,(Calls Tryd.prog 38 #[.bool true,.int .i64 (k.1:Int)] w fun e w'=>e= .returned (.int .u16 (2^k.1))∧w'=w):=by
      intro k
      have hk:=k.2
      have e:(2:Int)^k.1%65536=2^k.1:=by
        have a1:=pow_nat k.1
        have a2:2^k.1<2^16:=Nat.pow_lt_pow_right (by decide) hk
        have h3:(2:Nat)^16=65536:=by decide
        rw [←a1]
        generalize 2^k.1=q at *
        omega
      generalize k.1=K at *
      have hw:IntKind.u64.wrap (K:Int)=(K:Int):=by rw [IntKind.wrap_u64]; omega
      have hm:min K 16=K:=by omega
      go_enter Tryd.func38,Tryd.ntmps38
      go_wp2
      exact bodyPost_ret (v:= .int .u16 (2^K)) (by simp [results,Tryd.results38,go_sem]) rfl ⟨rfl,rfl⟩
    have:=h ⟨n.toNat,by omega⟩
    rwa [show ((n.toNat:Nat):Int)=n by omega] at this
set_option maxRecDepth 100000 in
theorem jlisted_any (m:Nat) (n:Int) (w:World) (h0:0≤n) (h1:n<16) (hm:m<65536):Calls Tryd.prog 61 #[.int .u16 m,.int .i64 n] w fun e w'=>e= .returned (.bool (decide (bN m n.toNat=1)))∧w'=w:=by
  have e:(((m:Int) / 2^n.toNat).tmod 2 == 1)=decide (bN m n.toNat=1):=by
    rw [←pow_nat,←Int.natCast_ediv,Int.tmod_eq_emod_of_nonneg (Int.natCast_nonneg _),bN]
    generalize m / 2^n.toNat=q
    by_cases h:q%2=1
    · rw [decide_eq_true h]; simp; omega
    · rw [decide_eq_false h]; simp; omega
  go_enter Tryd.func61,Tryd.ntmps61
  go_wp2
  exact bodyPost_ret (v:= .bool (decide (bN m n.toNat=1))) (by simp [results,Tryd.results61,go_sem]) rfl ⟨rfl,rfl⟩
set_option maxRecDepth 100000 in
set_option maxHeartbeats 1000000 in
theorem jin_any (b:Nat) (l:List Int) (n:Int) (w:World) (hs:Sl w b l) :
    Calls Tryd.prog 36 #[.slice (some ⟨b,0,none⟩) l.length l.length,.int .i64 n] w fun e w'=>e= .returned (.bool (l.contains n))∧w'=w:=by
  have hlen:=hs.len
  have hs:Hid _:=hs
  go_enter Tryd.func36,Tryd.ntmps36
  go_wp2
  go_loopw [5] (fun k wr=>∃(j:Nat),j≤l.length∧k= .int .i64 (j:Int)∧(l.drop j).contains n=l.contains n∧wr=w) (fun k _=>(l.length-intOf k).toNat)
  case atStart=>exact ⟨0,by omega,rfl,by simp,rfl⟩
  case round =>
    obtain ⟨j,h1,rfl,hv,rfl⟩:=hrel
    have hv:Hid _:=hv
    by_cases h:j<l.length
    · have hj1:IntKind.i64.wrap ((j:Int)+1)=((j+1:Nat):Int):=by rw [IntKind.wrap_i64]; omega
      have z1:decide ((j:Int)<(l.length:Nat))=true:=decide_eq_true (by omega)
      have hcell:=hs.out.cell h
      have ed:Hid ((l.drop j).contains n=(l[j] == n || (l.drop (j+1)).contains n)):=any_drop h
      by_cases he:l[j]=n
      · have e2:Hid (l.contains n=true):=by show _=_; rw [←hv.out,ed.out,he]; simp
        rw [he] at hcell
        clear ed he hv
        go_wp2
        exact bodyPost_ret (v:= .bool true) (by simp [results,Tryd.results36,go_sem]) rfl ⟨by rw [e2.out],rfl⟩
      · have he':(l[j] == n)=false:=by simpa using he
        have e2:Hid ((l.drop (j+1)).contains n=l.contains n):=by show _=_; rw [←hv.out,ed.out,he']; simp
        clear ed he hv
        go_wp2
        refine ⟨⟨j+1,by omega,rfl,e2.out,trivial⟩,?_⟩
        simp only [intOf]; omega
    · have z1:decide ((j:Int)<(l.length:Nat))=false:=decide_eq_false (by omega)
      have e:l.drop j=[]:=List.drop_eq_nil_of_le (by omega)
      have hv:=hv.out
      rw [e] at hv
      have hv:Hid _:=hv
      clear e
      go_wp2
      exact bodyPost_ret (v:= .bool false) (by simp [results,Tryd.results36,go_sem]) rfl ⟨by rw [←hv.out]; rfl,rfl⟩
end Go.Proofs.YtkmgmmmpiallhaaDoor

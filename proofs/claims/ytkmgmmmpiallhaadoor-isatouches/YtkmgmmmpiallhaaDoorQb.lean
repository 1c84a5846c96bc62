import Derived.Test.YtkmgmmmpiallhaaDoorQa
namespace Go.Proofs.YtkmgmmmpiallhaaDoor
set_option linter.unusedVariables false
def kb (M B w:Nat):Prop:=∀i,M.testBit i=true→w.testBit i=B.testBit i
theorem tb_bN (w i:Nat):w.testBit i=decide (bN w i=1):=by rw [Nat.testBit_eq_decide_div_mod_eq,bN]
theorem tb_pow (n i:Nat):(2^n).testBit i=decide (n=i):=Nat.testBit_two_pow
def maskJ:List UInt8→Nat
  | []=>0
  | x::l=>if x=48 then 2^nb l ||| maskJ l else if x=49 then 2^nb l ||| maskJ l else maskJ l
def biJ:List UInt8→Nat
  | []=>0
  | x::l=>if x=49 then 2^nb l ||| biJ l else biJ l
theorem maskJ_out (l:List UInt8):∀i,nb l≤i→(maskJ l).testBit i=false:=by
  induction l with
  | nil=>intro i _; simp [maskJ]
  | cons x l ih =>
    intro i hi
    have h1:nb l≤nb (x::l):=by simp only [nb]; split <;>omega
    have ih:=ih i (by omega)
    have h2:x≠32→nb l<i:=by intro hx; simp only [nb,if_neg hx] at hi; omega
    simp only [maskJ]
    by_cases e1:x=48
    · have:=h2 (by rw [e1]; decide)
      rw [if_pos e1,Nat.testBit_or,tb_pow,ih,decide_eq_false (by omega)]; rfl
    · by_cases e2:x=49
      · have:=h2 (by rw [e2]; decide)
        rw [if_neg e1,if_pos e2,Nat.testBit_or,tb_pow,ih,decide_eq_false (by omega)]; rfl
      · rw [if_neg e1,if_neg e2,ih]
theorem biJ_out (l:List UInt8):∀i,nb l≤i→(biJ l).testBit i=false:=by
  induction l with
  | nil=>intro i _; simp [biJ]
  | cons x l ih =>
    intro i hi
    have h1:nb l≤nb (x::l):=by simp only [nb]; split <;>omega
    have ih:=ih i (by omega)
    have h2:x≠32→nb l<i:=by intro hx; simp only [nb,if_neg hx] at hi; omega
    simp only [biJ]
    by_cases e2:x=49
    · have:=h2 (by rw [e2]; decide)
      rw [if_pos e2,Nat.testBit_or,tb_pow,ih,decide_eq_false (by omega)]; rfl
    · rw [if_neg e2,ih]
theorem fi_kb (w:Nat) (l:List UInt8):fiP w l=true↔kb (maskJ l) (biJ l) w:=by
  induction l with
  | nil=>simp [fiP,kb,maskJ]
  | cons x l ih =>
    have hmo:=maskJ_out l
    have hbo:=biJ_out l
    have hb:=tb_bN w (nb l)
    have hlt:=bN_lt w (nb l)
    simp only [fiP,Bool.and_eq_true,ih]
    by_cases e1:x=48
    · subst e1
      simp only [maskJ,biJ,if_pos,if_neg (show ¬(48:UInt8)=49 by decide)]
      constructor
      · rintro ⟨h1,h2⟩ i hi
        rw [Nat.testBit_or,tb_pow] at hi
        by_cases e:nb l=i
        · subst e
          rw [hbo _ (Nat.le_refl _),hb]
          have:bN w (nb l)=0:=by simpa using h1
          rw [this]; rfl
        · rw [decide_eq_false e,Bool.false_or] at hi
          exact h2 i hi
      · intro h
        refine ⟨?_,fun i hi=>h i (by rw [Nat.testBit_or,hi,Bool.or_true])⟩
        have:=h (nb l) (by rw [Nat.testBit_or,tb_pow,decide_eq_true rfl]; rfl)
        rw [hbo _ (Nat.le_refl _),hb] at this
        have:bN w (nb l)≠1:=by simpa using this
        have:bN w (nb l)=0:=by omega
        rw [this]; rfl
    · by_cases e2:x=49
      · subst e2
        simp only [maskJ,biJ,if_pos,if_neg (show ¬(49:UInt8)=48 by decide)]
        constructor
        · rintro ⟨h1,h2⟩ i hi
          rw [Nat.testBit_or,tb_pow] at hi
          rw [Nat.testBit_or,tb_pow]
          by_cases e:nb l=i
          · subst e
            rw [decide_eq_true rfl,hb]
            have:bN w (nb l)=1:=by simpa using h1
            rw [this]; rfl
          · rw [decide_eq_false e,Bool.false_or] at hi ⊢
            exact h2 i hi
        · intro h
          refine ⟨?_,fun i hi=> ?_⟩
          · have:=h (nb l) (by rw [Nat.testBit_or,tb_pow,decide_eq_true rfl]; rfl)
            rw [Nat.testBit_or,tb_pow,decide_eq_true rfl,hb] at this
            have:bN w (nb l)=1:=by simpa using this
            rw [this]; rfl
          · have h3:=h i (by rw [Nat.testBit_or,hi,Bool.or_true])
            have hne:nb l≠i:=by rintro rfl; rw [hmo _ (Nat.le_refl _)] at hi; cases hi
            rwa [Nat.testBit_or,tb_pow,decide_eq_false hne,Bool.false_or] at h3
      · have hx:(!(x == 48 && bN w (nb l) !=0 || x == 49 && bN w (nb l) !=1))=true:=by
          rw [beq_eq_false_iff_ne.2 e1,beq_eq_false_iff_ne.2 e2]; rfl
        simp only [maskJ,biJ,if_neg e1,if_neg e2,hx,true_and]
theorem fit_kb (w:Nat) (r:RowP) (hs:r.bits &&& r.mask=r.bits):fitR w r=true↔kb r.mask r.bits w:=by
  rw [fitR,beq_iff_eq]
  constructor
  · intro h i hi
    rw [←h,Nat.testBit_and,hi,Bool.and_true]
  · intro h
    apply Nat.eq_of_testBit_eq
    intro i
    rw [Nat.testBit_and]
    cases hm:r.mask.testBit i
    · rw [Bool.and_false,←hs,Nat.testBit_and,hm,Bool.and_false]
    · rw [h i hm,Bool.and_true]
def subK (M B M' B':Nat):Bool:=(M' &&& M == M') && (B &&& M' == B' &&& M')
theorem kb_sub {M B M' B' w:Nat} (h:kb M B w) (hs:subK M B M' B'=true):kb M' B' w:=by
  simp only [subK,Bool.and_eq_true,beq_iff_eq] at hs
  intro i hi
  have h1:M.testBit i=true:=by
    have:=congrArg (fun z=>Nat.testBit z i) hs.1
    simp only [Nat.testBit_and,hi,Bool.true_and] at this
    exact this
  have h2:=congrArg (fun z=>Nat.testBit z i) hs.2
  simp only [Nat.testBit_and,hi,Bool.and_true] at h2
  rw [h i h1,h2]
def notK (M B M' B':Nat):Bool:=((B ^^^ B') &&& M) &&& M' !=0
theorem kb_not {M B M' B' w:Nat} (h:kb M B w) (h':kb M' B' w):notK M B M' B'=false:=by
  rw [notK,bne_eq_false_iff_eq]
  apply Nat.eq_of_testBit_eq
  intro i
  rw [Nat.testBit_and,Nat.testBit_and,Nat.testBit_xor,Nat.zero_testBit]
  cases h1:M.testBit i
  · simp
  · cases h2:M'.testBit i
    · simp
    · rw [←h i h1,←h' i h2]; simp
theorem kb_and {M B M' B' w:Nat} (h:kb M B w) (h':kb M' B' w):kb (M ||| M') ((B &&& M) ||| (B' &&& M')) w:=by
  intro i hi
  rw [Nat.testBit_or] at hi
  rw [Nat.testBit_or,Nat.testBit_and,Nat.testBit_and]
  cases h1:M.testBit i
  · cases h2:M'.testBit i
    · rw [h1,h2] at hi; cases hi
    · rw [h' i h2]; simp
  · cases h2:M'.testBit i
    · rw [h i h1]; simp
    · rw [←h i h1,←h' i h2]; simp
def findK (M B:Nat):List RowP→Option RowP
  | []=>none
  | r::l=>if notK M B r.mask r.bits then findK M B l else if subK M B r.mask r.bits then some r else none
theorem findK_some {M B w:Nat} (h:kb M B w):∀(l:List RowP) (r:RowP),(∀r∈l,r.bits &&& r.mask=r.bits)→findK M B l=some r→l.find? (fitR w)=some r
  | [],r,_,hk=>by cases hk
  | q::l,r,hs,hk=>by
    rw [findK] at hk
    rw [List.find?_cons]
    have hq:=hs q (List.mem_cons_self ..)
    have hl:=findK_some h l r (fun y hy=>hs y (List.mem_cons_of_mem _ hy))
    by_cases hn:notK M B q.mask q.bits=true
    · have:fitR w q=false:=by
        cases hf:fitR w q
        · rfl
        · rw [kb_not h ((fit_kb w q hq).1 hf)] at hn; cases hn
      rw [this]
      rw [if_pos hn] at hk
      exact hl hk
    · rw [if_neg hn] at hk
      by_cases hu:subK M B q.mask q.bits=true
      · rw [if_pos hu] at hk
        rw [(fit_kb w q hq).2 (kb_sub h hu)]
        exact hk
      · rw [if_neg hu] at hk; cases hk
theorem low_sub:∀r∈lowL,r.bits &&& r.mask=r.bits:=by
  have h:lowL.all (fun r=>r.bits &&& r.mask == r.bits)=true:=by decide
  intro r hr
  simpa using List.all_eq_true.1 h r hr
theorem high_sub:∀r∈highL,r.bits &&& r.mask=r.bits:=by
  have h:highL.all (fun r=>r.bits &&& r.mask == r.bits)=true:=by decide
  intro r hr
  simpa using List.all_eq_true.1 h r hr
theorem kb_field {M B w at_ wide:Nat} (h:kb M B w) (hs:subK M B (2^at_*(2^wide-1)) B=true):w / 2^at_%2^wide=B / 2^at_%2^wide:=by
  have h':=kb_sub h hs
  apply Nat.eq_of_testBit_eq
  intro i
  rw [Nat.testBit_mod_two_pow,Nat.testBit_mod_two_pow,Nat.testBit_div_two_pow,Nat.testBit_div_two_pow]
  by_cases hi:i<wide
  · rw [h' (i+at_) (by rw [Nat.testBit_two_pow_mul,Nat.testBit_two_pow_sub_one]; simp [hi])]
  · simp [hi]
def rowK (M B:Nat):Option RowP:=if M &&& 201326592=201326592 then (if B / 67108864%4=0 then findK M B lowL else findK M B highL) else none
theorem rowK_some {M B w:Nat} {r:RowP} (h:kb M B w) (hk:rowK M B=some r):rowW w=some r:=by
  unfold rowK at hk
  by_cases hm:M &&& 201326592=201326592
  · rw [if_pos hm] at hk
    have:=kb_field (at_:=26) (wide:=2) h (by rw [subK]; simp [Nat.and_comm,hm])
    rw [rowW,show w / 67108864%4=B / 67108864%4 from this]
    by_cases h0:B / 67108864%4=0
    · rw [if_pos h0] at hk ⊢; exact findK_some h _ _ low_sub hk
    · rw [if_neg h0] at hk ⊢; exact findK_some h _ _ high_sub hk
  · rw [if_neg hm] at hk; cases hk
set_option linter.unusedVariables false
def linL:List Nat→Nat→Nat
  | [],_=>0
  | a::t,w=>bN w t.length*a+linL t w
def coL (c:UInt8):List UInt8→List Nat
  | []=>[]
  | x::l=>if x=32 then coL c l else (if x=c then 2^cnt c l else 0)::coL c l
theorem coL_len (c:UInt8) (l:List UInt8):(coL c l).length=nb l:=by
  induction l with
  | nil=>rfl
  | cons x l ih =>
    simp only [coL,nb]
    split
    · exact ih
    · rw [List.length_cons,ih]
theorem fv_lin (c:UInt8) (hc:c≠32) (w:Nat) (l:List UInt8):fvP c w l=linL (coL c l) w:=by
  induction l with
  | nil=>rfl
  | cons x l ih =>
    simp only [fvP,coL]
    by_cases h32:x=32
    · rw [if_pos h32,if_neg (by rintro rfl; exact hc h32),ih]
    · rw [if_neg h32,linL,coL_len]
      by_cases hx:x=c
      · rw [if_pos hx,if_pos hx,ih]
      · rw [if_neg hx,if_neg hx,ih,Nat.mul_zero,Nat.zero_add]
def crL (a wd f:Nat):Nat→List Nat
  | 0=>[]
  | n+1=>(if a≤n∧n<a+wd then 2^(n-a+f) else 0)::crL a wd f n
theorem crL_len (a wd f n:Nat):(crL a wd f n).length=n:=by
  induction n with
  | zero=>rfl
  | succ n ih=>rw [crL,List.length_cons,ih]
theorem cr_lin (a wd f w n:Nat):linL (crL a wd f n) w=w / 2^a%2^(min (n-a) wd)*2^f:=by
  induction n with
  | zero=>simp [crL,linL,Nat.mod_one]
  | succ n ih =>
    rw [crL,linL,crL_len,ih]
    by_cases h:a≤n∧n<a+wd
    · rw [if_pos h]
      have e1:min (n+1-a) wd=min (n-a) wd+1:=by omega
      have e2:min (n-a) wd=n-a:=by omega
      rw [e1,e2,Nat.pow_succ,Nat.mod_mul,Nat.div_div_eq_div_mul,←Nat.pow_add,show a+(n-a)=n by omega,Nat.pow_add,bN,Nat.add_mul]
      generalize w / 2^n%2=q
      rw [Nat.add_comm,←Nat.mul_assoc,Nat.mul_comm q (2^(n-a))]
    · rw [if_neg h,Nat.mul_zero,Nat.zero_add]
      rw [show min (n+1-a) wd=min (n-a) wd by omega]
def addL:List Nat→List Nat→List Nat
  | a::s,b::t=>(a+b)::addL s t
  | s,[]=>s
  | [],t=>t
theorem addL_lin (w:Nat):∀(s t:List Nat),s.length=t.length→linL (addL s t) w=linL s w+linL t w
  | [],[],_=>rfl
  | a::s,b::t,h=>by
    have hl:s.length=t.length:=by simpa using h
    have hal:(addL s t).length=t.length:=by
      clear h
      induction s generalizing t with
      | nil=>cases t with
        | nil=>rfl
        | cons _ _=>cases hl
      | cons x s ih=>cases t with
        | nil=>cases hl
        | cons y t=>simp only [addL,List.length_cons]; rw [ih t (by simpa using hl)]
    rw [addL,linL,linL,linL,hal,hl,addL_lin w s t hl,Nat.mul_add]
    omega
theorem lin_zero (n w:Nat):linL (List.replicate n 0) w=0:=by
  induction n with
  | zero=>rfl
  | succ n ih=>rw [List.replicate_succ,linL,ih,Nat.mul_zero]
theorem fv_run (c:UInt8) (l:List UInt8) (a wd f w:Nat) (h:((decide (c≠32) && decide (a+wd≤32)) && (coL c l == crL a wd f 32))=true):fvP c w l=w / 2^a%2^wd*2^f:=by
  simp only [Bool.and_eq_true,beq_iff_eq,decide_eq_true_eq] at h
  rw [fv_lin c h.1.1,h.2,cr_lin,show min (32-a) wd=wd by omega]
theorem fv_two (c:UInt8) (l:List UInt8) (a wd f a' wd' f' w:Nat) (h:((decide (c≠32) && (decide (a+wd≤32) && decide (a'+wd'≤32))) && (coL c l == addL (crL a wd f 32) (crL a' wd' f' 32)))=true):fvP c w l=w / 2^a%2^wd*2^f+w / 2^a'%2^wd'*2^f':=by
  simp only [Bool.and_eq_true,beq_iff_eq,decide_eq_true_eq] at h
  rw [fv_lin c h.1.1,h.2,addL_lin _ _ _ (by rw [crL_len,crL_len]),cr_lin,cr_lin,show min (32-a) wd=wd by omega,show min (32-a') wd'=wd' by omega]
theorem fv_none (c:UInt8) (l:List UInt8) (w:Nat) (h:cnt c l=0):fvP c w l=0:=by
  have:=fvP_lt c w l
  rw [h] at this
  omega
theorem or_add (a b n:Nat) (h:a<2^n):a ||| b*2^n=a+b*2^n:=by
  rw [Nat.or_comm,Nat.mul_comm,←Nat.two_pow_add_eq_or_of_lt h,Nat.add_comm]
end Go.Proofs.YtkmgmmmpiallhaaDoor

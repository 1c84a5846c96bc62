import Derived.Test.YtkmgmmmpiallhaaDoorBa
namespace Go.Proofs.YtkmgmmmpiallhaaDoor
set_option linter.unusedVariables false
def nb:List UInt8→Nat
  | []=>0
  | x::l=>if x=32 then nb l else nb l+1
def cnt (c:UInt8):List UInt8→Nat
  | []=>0
  | x::l=>if x=c then cnt c l+1 else cnt c l
def bN (w i:Nat):Nat:=w / 2^i%2
theorem bN_lt (w i:Nat):bN w i<2:=Nat.mod_lt _ (by decide)
def fvP (c:UInt8) (w:Nat):List UInt8→Nat
  | []=>0
  | x::l=>if x=c then bN w (nb l)*2^cnt c l+fvP c w l else fvP c w l
def fiP (w:Nat):List UInt8→Bool
  | []=>true
  | x::l=> !(x == 48 && bN w (nb l) !=0 || x == 49 && bN w (nb l) !=1) && fiP w l
def mkP (c:UInt8) (v:Nat):List UInt8→Nat
  | []=>0
  | x::l=>if x=c then v / 2^cnt c l%2*2^nb l+mkP c v l else mkP c v l
def seP (c:UInt8) (w:Nat):List UInt8→Nat
  | []=>0
  | x::l=>if x=c then bN w (nb l)*2^nb l+seP c w l else seP c w l
theorem fvP_lt (c:UInt8) (w:Nat) (l:List UInt8):fvP c w l<2^cnt c l:=by
  induction l with
  | nil=>simp [fvP,cnt]
  | cons x l ih =>
    simp only [fvP,cnt]
    split
    · have:=bN_lt w (nb l)
      rw [Nat.pow_succ]
      rcases (by omega:bN w (nb l)=0∨bN w (nb l)=1) with h|h <;>rw [h] <;>omega
    · exact ih
theorem mk_se (c:UInt8) (w:Nat) (l:List UInt8):∀v,v%2^cnt c l=fvP c w l→mkP c v l=seP c w l:=by
  induction l with
  | nil=>intro v _; rfl
  | cons x l ih =>
    intro v hv
    simp only [fvP,cnt] at hv
    simp only [mkP,seP]
    split
    · rename_i hx
      rw [if_pos hx,if_pos hx] at hv
      have hlt:=fvP_lt c w l
      have hp:0<2^cnt c l:=Nat.two_pow_pos _
      have hb:=bN_lt w (nb l)
      have e1:v%2^(cnt c l+1)=v%2^cnt c l+2^cnt c l*(v / 2^cnt c l%2):=by
        rw [Nat.pow_succ,Nat.mod_mul]
      rw [e1] at hv
      have hm:=Nat.mod_lt v hp
      have h2:v / 2^cnt c l%2<2:=Nat.mod_lt _ (by decide)
      have hboth:v / 2^cnt c l%2=bN w (nb l)∧v%2^cnt c l=fvP c w l:=by
        generalize v / 2^cnt c l%2=p at *
        generalize bN w (nb l)=q at *
        generalize 2^cnt c l=B at *
        generalize v%B=a at *
        generalize fvP c w l=b at *
        rcases (by omega:p=0∨p=1) with rfl|rfl <;>rcases (by omega:q=0∨q=1) with rfl|rfl <;>simp at hv ⊢ <;>omega
      rw [ih v hboth.2,hboth.1]
    · rename_i hx
      rw [if_neg hx,if_neg hx] at hv
      exact ih v hv
theorem mk_mod (c:UInt8) (l:List UInt8) (v u:Nat) (n:Nat) (hn:cnt c l≤n) (h:v%2^n=u%2^n):mkP c v l=mkP c u l:=by
  induction l with
  | nil=>rfl
  | cons x l ih =>
    simp only [cnt] at hn
    simp only [mkP]
    split
    · rename_i hx
      rw [if_pos hx] at hn
      have e:v / 2^cnt c l%2=u / 2^cnt c l%2:=by
        have h1:∀z:Nat,z / 2^cnt c l%2=z%2^n / 2^cnt c l%2:=by
          intro z
          have hs:2^n=2^cnt c l*(2*2^(n-cnt c l-1)):=by
            rw [←Nat.mul_assoc,←Nat.pow_succ,←Nat.pow_add]
            congr 1
            omega
          rw [hs,Nat.mod_mul_right_div_self,Nat.mod_mul_right_mod]
        rw [h1 v,h1 u,h]
      rw [ih (by omega),e]
    · rename_i hx
      rw [if_neg hx] at hn
      exact ih hn
def onP:List UInt8→Nat
  | []=>0
  | x::l=>if x=49 then 2^nb l+onP l else onP l
theorem ones_bit (k:Nat) (h:k<32):4294967295 / 2^k%2=1:=by
  have:∀k:Fin 32,4294967295 / 2^k.1%2=1:=by decide
  exact this ⟨k,h⟩
theorem mk_on (l:List UInt8) (h:cnt 49 l≤32):mkP 49 4294967295 l=onP l:=by
  induction l with
  | nil=>rfl
  | cons x l ih =>
    simp only [cnt] at h
    simp only [mkP,onP]
    split
    · rename_i hx
      rw [if_pos hx] at h
      rw [ih (by omega),ones_bit _ (by omega),Nat.one_mul]
    · rename_i hx
      rw [if_neg hx] at h
      exact ih h
def suP (f:UInt8→Nat):List UInt8→Nat
  | []=>0
  | c::L=>f c+suP f L
theorem suP_add (f g:UInt8→Nat) (L:List UInt8):suP (fun c=>f c+g c) L=suP f L+suP g L:=by
  induction L with
  | nil=>rfl
  | cons c L ih=>simp only [suP,ih]; omega
theorem suP_congr {f g:UInt8→Nat} {L:List UInt8} (h:∀c∈L,f c=g c):suP f L=suP g L:=by
  induction L with
  | nil=>rfl
  | cons c L ih=>simp only [suP]; rw [h c (List.mem_cons_self ..),ih fun x hx=>h x (List.mem_cons_of_mem _ hx)]
theorem suP_zero (x:UInt8) (a:Nat) (L:List UInt8) (h:x∉L):suP (fun c=>if x=c then a else 0) L=0:=by
  induction L with
  | nil=>rfl
  | cons c L ih =>
    simp only [List.mem_cons,not_or] at h
    simp only [suP,if_neg h.1,ih h.2]
theorem suP_one (x:UInt8) (a:Nat) (L:List UInt8) (hn:L.Nodup) (h:x∈L):suP (fun c=>if x=c then a else 0) L=a:=by
  induction L with
  | nil=>cases h
  | cons c L ih =>
    rw [List.nodup_cons] at hn
    simp only [suP]
    by_cases e:x=c
    · subst e; rw [if_pos rfl,suP_zero x a L hn.1]; omega
    · rw [if_neg e,ih hn.2 (by simpa [e] using h)]; omega
theorem all_se (L:List UInt8) (hn:L.Nodup) (h0:(48:UInt8)∉L) (h1:(49:UInt8)∉L) (hb:(32:UInt8)∉L) (w:Nat) (l:List UInt8) (hl:∀x∈l,x∈L∨x=48∨x=49∨x=32) (hf:fiP w l=true) :
    onP l+suP (fun c=>seP c w l) L=w%2^nb l:=by
  induction l with
  | nil =>
    have:suP (fun c=>seP c w []) L=0:=by
      clear hn h0 h1 hb hl
      induction L with
      | nil=>rfl
      | cons c L ih=>simp only [suP,seP,Nat.zero_add]; exact ih
    rw [this]; simp [onP,nb,Nat.mod_one]
  | cons x l ih =>
    have ih':=ih (fun y hy=>hl y (List.mem_cons_of_mem _ hy)) (by simp only [fiP,Bool.and_eq_true] at hf; exact hf.2)
    simp only [fiP,Bool.and_eq_true] at hf
    have hx:=hl x (List.mem_cons_self ..)
    have es:suP (fun c=>seP c w (x::l)) L=suP (fun c=>if x=c then bN w (nb l)*2^nb l else 0) L+suP (fun c=>seP c w l) L:=by
      rw [←suP_add]
      refine suP_congr fun c _=> ?_
      simp only [seP]
      split <;>omega
    have em:∀k,w%2^(k+1)=w%2^k+2^k*bN w k:=by
      intro k; rw [Nat.pow_succ,Nat.mod_mul,bN]
    rw [es]
    simp only [onP,nb]
    by_cases hbl:x=32
    · subst hbl
      rw [suP_zero _ _ _ hb,if_neg (by decide),if_pos rfl]
      omega
    · rw [if_neg hbl,em]
      rcases hx with h|h|h|h
      · rw [suP_one _ _ _ hn h,if_neg (by rintro rfl; exact h1 h),Nat.mul_comm]; omega
      · subst h
        rw [suP_zero _ _ _ h0,if_neg (by decide)]
        have:bN w (nb l)=0:=by have:=hf.1; simpa using this
        rw [this]; omega
      · subst h
        rw [suP_zero _ _ _ h1,if_pos rfl]
        have:bN w (nb l)=1:=by have:=hf.1; simpa using this
        rw [this]; omega
      · exact absurd h hbl
end Go.Proofs.YtkmgmmmpiallhaaDoor

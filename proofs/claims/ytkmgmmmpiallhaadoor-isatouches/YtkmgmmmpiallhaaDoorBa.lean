import Derived.Test.YtkmgmmmpiallhaaDoorProg
import Derived.WalkKit
import Derived.ProofKit
import Derived.Outline
import Derived.Deep.QuietTactic
import Derived.BigQuiet
import Derived.LoopTactic
import Derived.Deep.RegionHeld3
import Derived.Laws.BitsAllLaws
import Derived.Laws.EntriesVeiled
import Derived.Deep.MidRow
import Derived.Handy
namespace Go.Proofs.YtkmgmmmpiallhaaDoor
open Go.RowKit
set_option linter.unusedVariables false
theorem below_drewN {B:Nat} {a w:World} (h:Below B a w) (q:Nat):Below B a (w.drewN q):=⟨h.os,h.tape,h.output,h.size,h.block⟩
theorem below_drew {B:Nat} {a w:World} (h:Below B a w):Below B a w.drew:=⟨h.os,h.tape,h.output,h.size,h.block⟩
theorem below_new (w:World) (o:Obj):Below w.heap.size w (w.alloc o):=(Below.refl _ _).alloc (Nat.le_refl _) o
theorem Below.step {w w1 w2:World} (h1:Below w.heap.size w w1) (h2:Below w1.heap.size w1 w2):Below w.heap.size w w2:=h1.trans (h2.mono h1.size)
theorem cell_lt {w:World} {p:Addr} {v:Value} (h:w.cell? p=some v):p.block<w.heap.size:=by
  cases hb:w.heap[p.block]? with
  | none=>simp [World.cell?,hb] at h
  | some o=>exact (Array.getElem?_eq_some_iff.1 hb).1
theorem pow_nat (n:Nat):((2^n:Nat):Int)=2^n:=Int.natCast_pow 2 n
theorem pow_pos (n:Nat):(0:Int)<2^n:=by have:=Nat.two_pow_pos n; have:=pow_nat n; omega
theorem shr_range (x:Int) (n:Nat) (hx:0≤x∧x<4294967296):0≤x / 2^n∧x / 2^n<4294967296:=by
  have h:=pow_pos n
  refine ⟨Int.ediv_nonneg hx.1 (by omega),?_⟩
  have:=Int.ediv_le_self (2^n) hx.1
  omega
theorem band_mod (k:Nat) (m x:Int) (hm:m=2^k-1) (hk:k≤32) (hx:0≤x∧x<4294967296):bits .and .u32 x m=x%2^k:=by
  have hp:(2:Int)^k=((2^k:Nat):Int):=(pow_nat k).symm
  have hp2:2^k≤4294967296:=by simpa using Nat.pow_le_pow_right (n:=2) (by decide) hk
  have hp1:0<2^k:=Nat.two_pow_pos k
  rw [u32_and x m hx.1 hx.2 (by omega) (by omega)]
  have:m.toNat=2^k-1:=by omega
  obtain ⟨X,rfl⟩:=Int.eq_ofNat_of_zero_le hx.1
  rw [this,Nat.and_two_pow_sub_one_eq_mod,hp,Int.toNat_natCast]
  rfl
theorem band1 (x:Int) (hx:0≤x∧x<4294967296):bits .and .u32 x 1=x%2:=band_mod 1 1 x (by decide) (by decide) hx
structure Turn (S:Nat→Prop) (w w':World):Prop where
  os:w'.os=w.os
  tape:w'.tape=w.tape
  output:w'.output=w.output
  size:w.heap.size≤w'.heap.size
  block:∀k,k<w.heap.size→¬S k→w'.heap[k]? =w.heap[k]?
theorem Turn.refl (S:Nat→Prop) (w:World):Turn S w w:=⟨rfl,rfl,rfl,Nat.le_refl _,fun _ _ _=>rfl⟩
theorem Turn.trans {S S':Nat→Prop} {a b c:World} (h:Turn S a b) (k:Turn S' b c) (hS:∀x,S' x→S x∨a.heap.size≤x):Turn S a c :=
  ⟨k.os.trans h.os,k.tape.trans h.tape,k.output.trans h.output,Nat.le_trans h.size k.size,fun i hi hn =>
    (k.block i (Nat.lt_of_lt_of_le hi h.size) (fun hs=>by rcases hS i hs with h1|h1; exact hn h1; omega)).trans (h.block i hi hn)⟩
theorem Turn.then {S:Nat→Prop} {a b c:World} (h:Turn S a b) (k:Turn S b c):Turn S a c:=h.trans k (fun _ hx=> .inl hx)
theorem Turn.below {S:Nat→Prop} {a b:World} (h:Below a.heap.size a b):Turn S a b:=⟨h.os,h.tape,h.output,h.size,fun i hi _=>h.block i hi⟩
theorem Turn.to {S:Nat→Prop} {a b:World} {B:Nat} (h:Turn S a b) (hS:∀x,S x→B≤x) (hB:B≤a.heap.size):Below B a b :=
  ⟨h.os,h.tape,h.output,h.size,fun i hi=>h.block i (by omega) (fun hs=>by have:=hS i hs; omega)⟩
theorem Turn.alloc {S:Nat→Prop} {a b:World} (h:Turn S a b) (o:Obj):Turn S a (b.alloc o) :=
  h.trans (S':=fun _=>False) ⟨rfl,rfl,rfl,by simp,fun i hi _=>Below.heap_alloc _ _ _ hi⟩ (fun _ h=>h.elim)
theorem Turn.setCell {S:Nat→Prop} {a b:World} (h:Turn S a b) {p:Addr} (hp:S p.block∨a.heap.size≤p.block) (u:Value):Turn S a (b.setCell p u) :=
  h.trans (S':=fun x=>x=p.block) ⟨rfl,rfl,rfl,by simp [World.setCell],fun i hi hn=>Below.heap_setCell _ _ _ _ hn⟩ (fun x hx=>by subst hx; exact hp)
theorem Turn.drewN {S:Nat→Prop} {a b:World} (h:Turn S a b) (n:Nat):Turn S a (b.drewN n):=⟨h.os,h.tape,h.output,h.size,h.block⟩
theorem Turn.drew {S:Nat→Prop} {a b:World} (h:Turn S a b):Turn S a b.drew:=⟨h.os,h.tape,h.output,h.size,h.block⟩
def Bl (w:World) (b:Nat) (t:TypeId) (l:List Value):Prop:=w.heap[b]? =some (.cells l.toArray t (0,0))
theorem Bl.new (w:World) (t:TypeId) (l:List Value):Bl (w.alloc (.cells l.toArray t)) w.heap.size t l:=heap_alloc_new w (.cells l.toArray t)
theorem Bl.lt {w:World} {b:Nat} {t:TypeId} {l:List Value} (h:Bl w b t l):b<w.heap.size:=(Array.getElem?_eq_some_iff.1 h).1
theorem Bl.below {w w':World} {b:Nat} {t:TypeId} {l:List Value} (h:Bl w b t l) (hb:Below w.heap.size w w'):Bl w' b t l:=(hb.block b h.lt).trans h
theorem Bl.alloc {w:World} {b:Nat} {t:TypeId} {l:List Value} (h:Bl w b t l) (o:Obj):Bl (w.alloc o) b t l:=h.below (below_new w o)
theorem Bl.drew {w:World} {b:Nat} {t:TypeId} {l:List Value} (h:Bl w b t l):Bl w.drew b t l:=h
theorem Bl.cell {w:World} {b:Nat} {t:TypeId} {l:List Value} (h:Bl w b t l) (j:Nat):w.cell? ⟨b,j,none⟩=l[j]? :=by
  rw [World.cell?,show w.heap[b]? =_ from h]
  simp
theorem Bl.frozen {w:World} {b:Nat} {t:TypeId} {l:List Value} (h:Bl w b t l) (j:Nat):w.frozen? ⟨b,j,none⟩=false:=by
  simp [World.frozen?,show w.heap[b]? =_ from h]
theorem Bl.set {w:World} {b:Nat} {t:TypeId} {l:List Value} (h:Bl w b t l) (j:Nat) (v:Value):Bl (w.setCell ⟨b,j,none⟩ v) b t (l.set j v):=by
  have h1:w.heap[b]? =some (.cells l.toArray t (0,0)):=h
  have hb:b<w.heap.size:=h.lt
  show (w.setCell ⟨b,j,none⟩ v).heap[b]? =_
  simp [World.setCell,Array.getElem?_modify,h1]
theorem Bl.set_ne {w:World} {b b':Nat} {t:TypeId} {l:List Value} (h:Bl w b t l) (hn:b≠b') (j:Nat) (v:Value):Bl (w.setCell ⟨b',j,none⟩ v) b t l:=by
  show (w.setCell ⟨b',j,none⟩ v).heap[b]? =_
  rw [Below.heap_setCell _ _ _ _ hn]
  exact h
theorem Bl.turn {S:Nat→Prop} {w w':World} {b:Nat} {t:TypeId} {l:List Value} (h:Bl w b t l) (hb:Turn S w w') (hn:¬S b):Bl w' b t l:=(hb.block b h.lt hn).trans h
theorem Bl.drewN {w:World} {b:Nat} {t:TypeId} {l:List Value} (h:Bl w b t l) (q:Nat):Bl (w.drewN q) b t l:=h
theorem Bl.range {w:World} {b:Nat} {t:TypeId} {l:List Value} (h:Bl w b t l):w.rangeAt b 0 l:=fun j v hv=>by rw [Nat.zero_add,h.cell,hv]
theorem Bl.there {w:World} {b:Nat} {T:TypeId} {l:List Value} (h:Bl w b T l) (n:Nat) (hn:n=l.length):w.there b 0 n:=by
  subst hn
  intro j hj
  rw [Nat.zero_add]
  exact ⟨by rw [h.cell j,List.getElem?_eq_getElem hj]; rfl,h.frozen j⟩
theorem setCells_bl {T:TypeId} {b:Nat}:∀(new:List Value) (o:Nat) (w:World) (l:List Value),Bl w b T l→o+new.length≤l.length→Bl (w.setCells b o new) b T (l.take o++new++l.drop (o+new.length))
  | [],o,w,l,h,hl=>by
    rw [World.setCells]
    simpa using h
  | v::vs,o,w,l,h,hl=>by
    rw [World.setCells]
    simp only [List.length_cons] at hl
    have:=setCells_bl vs (o+1) (w.setCell ⟨b,o,none⟩ v) (l.set o v) (h.set o v) (by simp; omega)
    have e:(l.set o v).take (o+1)++vs++(l.set o v).drop (o+1+vs.length)=l.take o++v::vs++l.drop (o+(v::vs).length):=by
      rw [List.drop_set_of_lt (by omega),List.take_set,List.take_succ_eq_append_getElem (by omega)]
      rw [List.set_append_right _ _ (by simp; omega)]
      have:o-(List.take o l).length=0:=by simp; omega
      rw [this]
      simp
      congr 1
      omega
    rw [e] at this
    exact this
theorem set_all {w:World} {b:Nat} {T:TypeId} {l new:List Value} (h:Bl w b T l) (hl:new.length=l.length):Bl (w.setCells b 0 new) b T new:=by
  have:=setCells_bl new 0 w l h (by omega)
  simpa [hl] using this
abbrev TA (g:Nat) (w w':World):Prop:=Turn (fun b=>b=g) w w'
theorem TA.set {g:Nat} {w w':World} (h:TA g w w') (o:Nat) (u:Value):TA g w (w'.setCell ⟨g,o,none⟩ u):=Turn.setCell (S:=fun b=>b=g) (p:=⟨g,o,none⟩) h (.inl rfl) u
theorem TA.of {g:Nat} {w w':World} (h:Below w.heap.size w w'):TA g w w':=Turn.below h
theorem set_turn {b:Nat}:∀(new:List Value) (o:Nat) (w0 w:World),TA b w0 w→TA b w0 (w.setCells b o new)
  | [],o,w0,w,h=>by rw [World.setCells]; exact h
  | v::vs,o,w0,w,h=>by rw [World.setCells]; exact set_turn vs (o+1) w0 _ (h.set o v)
theorem cell_keep {w w':World} {p:Addr} {v:Value} (h:w.cell? p=some v) (hb:Below w.heap.size w w'):w'.cell? p=some v:=(hb.cell (cell_lt h)).trans h
theorem hidW {p:Prop} (h:p):Hid p:=h
theorem tkH {P:Program} {ops:Array Oper} {Q:Exit→Act→World→Prop} {md:Region.Mode} {S:World→Prop} {fuel:Nat} {listed:Array Bool} {a:Act} {w:World} (i:Nat) (oi:Oper) (v:Value) (hy:∀w,S w→(execOp a.eval oi).run P w= .ok (.value v) w) (h:wpAnyH P md ops Q S fuel (listed.setIfInBounds i true) (a.put oi.dst v) w) (hi:ops[i]?=some oi:=by rfl) (hs:Region.noSelect ops=true:=by kernel_rfl) (hf:Region.free md ops listed i=true:=by kernel_rfl) (hr:(Region.ready md ops listed).contains i=true:=by kernel_rfl) (hQ:∀c a w,Q (.panic c) (a.put oi.dst v) w→Q (.panic c) a w:=by exact fun _ _ _ h=>h) (hw:Region.wanted oi (yielded ops a.tmps)=true:=by rfl) (hS:S w:=by assumption):wpAnyH P md ops Q S (fuel+1) listed a w:=
  wpAnyH_take hi hs hf hr hQ (Or.inl ⟨hw,hy⟩) hS h
end Go.Proofs.YtkmgmmmpiallhaaDoor

import Derived.Test.YtnjlajjjcmhfgaaGreatDoorRJ01
import Derived.Test.YtnjlajjjcmhfgaaGreatDoorRA26
namespace Go.Proofs.YtnjlajjjcmhfgaaGreatDoor
open Go.RowKit
open Mm (Turn gr RowAt)
set_option linter.unusedVariables false
set_option linter.unusedSimpArgs false
def PuE (T:TypeId) (K:Nat) (w w1:World) (g o:Nat) (v:Value):Prop:=Turn (fun x=>x=g) w w1∧∀cur,RowAt w g T cur→o+K≤cur.length→∃cur',RowAt w1 g T cur'∧cur'.length=cur.length∧(∀j,j<o∨o+K≤j→cur'[j]? =cur[j]?)∧cur'[o]? =some v
theorem PuE.one (T:TypeId) (w:World) (g o:Nat) (v:Value):PuE T 1 w (w.setCell ⟨g,o,none⟩ v) g o v:=by
  refine ⟨(Turn.refl (fun x=>x=g) w).setCell (p:=⟨g,o,none⟩) (.inl rfl) v,fun cur h hl=>⟨_,Mm.RowAt.set h o v,by simp,fun j hj=> ?_,?_⟩⟩
  · rw [List.getElem?_set_ne (by omega)]
  · rw [List.getElem?_set_self (by omega)]
theorem PuE.snoc {T:TypeId} {K:Nat} {w w1:World} {g o:Nat} {v:Value} (h:PuE T K w w1 g o v) (hK:0<K) (u:Value):PuE T (K+1) w (w1.setCell ⟨g,o+K,none⟩ u) g o v:=by
  refine ⟨h.1.setCell (p:=⟨g,o+K,none⟩) (.inl rfl) u,fun cur hr hl=> ?_⟩
  obtain ⟨c1,h1,h2,h3,h4⟩:=h.2 cur hr (by omega)
  refine ⟨_,Mm.RowAt.set h1 (o+K) u,by simp [h2],fun j hj=> ?_,?_⟩
  · rw [List.getElem?_set_ne (by omega)]
    exact h3 j (by omega)
  · rw [List.getElem?_set_ne (by omega)]
    exact h4
def Wa (w:World) (T:TypeId) (m:Nat) (a:Option Addr):Prop:=m=0∨∃g cur,a=some ⟨g,0,none⟩∧RowAt w g T cur∧m≤cur.length
structure Lp (T:TypeId) (K n:Nat) (va vb:Value) (aa ab:Option Addr) (w wr:World) (k:Nat):Prop where
  tu:Turn (fun x=>n≠0∧(aa=some ⟨x,0,none⟩∨ab=some ⟨x,0,none⟩)) w wr
  ra:Wa wr T (n*K) aa
  rb:Wa wr T (n*K) ab
  fa:∀j,j<k→∀g,aa=some ⟨g,0,none⟩→wr.cell? ⟨g,j*K,none⟩=some va
  fb:∀j,j<k→∀g,ab=some ⟨g,0,none⟩→wr.cell? ⟨g,j*K,none⟩=some vb
  ka:∀g o,aa=some ⟨g,0,none⟩→n*K≤o→wr.cell? ⟨g,o,none⟩=w.cell? ⟨g,o,none⟩
  kb:∀g o,ab=some ⟨g,0,none⟩→n*K≤o→wr.cell? ⟨g,o,none⟩=w.cell? ⟨g,o,none⟩
theorem Lp.start {T:TypeId} {K n:Nat} {va vb:Value} {aa ab:Option Addr} {w:World} (ra:Wa w T (n*K) aa) (rb:Wa w T (n*K) ab):Lp T K n va vb aa ab w w 0 :=
  ⟨Turn.refl _ _,ra,rb,fun j h=>by omega,fun j h=>by omega,fun _ _ _ _=>rfl,fun _ _ _ _=>rfl⟩
theorem Lp.step {T:TypeId} {K n:Nat} {va vb:Value} {ga gb:Nat} {w wr w1 w2:World} {k:Nat} (h:Lp T K n va vb (some ⟨ga,0,none⟩) (some ⟨gb,0,none⟩) w wr k) (hne:ga≠gb) (hk:k<n) (hK:0<K) (p1:PuE T K wr w1 ga (k*K) va) (p2:PuE T K w1 w2 gb (k*K) vb) :
    Lp T K n va vb (some ⟨ga,0,none⟩) (some ⟨gb,0,none⟩) w w2 (k+1):=by
  have hm:k*K+K≤n*K:=by rw [←Nat.succ_mul]; exact Nat.mul_le_mul_right K hk
  have h0:n*K≠0:=by omega
  obtain ⟨g,ca,e,ra,la⟩:=h.ra.resolve_left h0
  cases e
  obtain ⟨g,cb,e,rb,lb⟩:=h.rb.resolve_left h0
  cases e
  obtain ⟨ca1,a1,a2,a3,a4⟩:=p1.2 ca ra (by omega)
  have rb1:=Mm.RowAt.turn rb p1.1 (fun e=>hne e.symm)
  obtain ⟨cb1,b1,b2,b3,b4⟩:=p2.2 cb rb1 (by omega)
  have a1':=Mm.RowAt.turn a1 p2.1 (fun e=>hne e)
  have hj:∀j,j<k→j*K<k*K:=fun j hj=>by
    have:j*K+K≤k*K:=by rw [←Nat.succ_mul]; exact Nat.mul_le_mul_right K hj
    omega
  refine ⟨(h.tu.trans p1.1 (fun x hx=> .inl ⟨by omega,.inl (by rw [hx])⟩)).trans p2.1 (fun x hx=> .inl ⟨by omega,.inr (by rw [hx])⟩),.inr ⟨ga,ca1,rfl,a1',by omega⟩,.inr ⟨gb,cb1,rfl,b1,by omega⟩,fun j hj1 g e=> ?_,fun j hj1 g e=> ?_,fun g o e ho=> ?_,fun g o e ho=> ?_⟩
  · cases e
    rw [a1'.cell]
    by_cases q:j=k
    · rw [q]; exact a4
    · rw [a3 _ (.inl (hj j (by omega))),←ra.cell]
      exact h.fa j (by omega) ga rfl
  · cases e
    rw [b1.cell]
    by_cases q:j=k
    · rw [q]; exact b4
    · rw [b3 _ (.inl (hj j (by omega))),←rb.cell]
      exact h.fb j (by omega) gb rfl
  · cases e
    rw [a1'.cell,a3 _ (.inr (by omega)),←ra.cell]
    exact h.ka ga o rfl ho
  · cases e
    rw [b1.cell,b3 _ (.inr (by omega)),←rb.cell]
    exact h.kb gb o rfl ho
end Go.Proofs.YtnjlajjjcmhfgaaGreatDoor

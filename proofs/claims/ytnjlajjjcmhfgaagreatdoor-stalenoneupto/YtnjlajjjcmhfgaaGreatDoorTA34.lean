import Derived.Test.YtnjlajjjcmhfgaaGreatDoorTA31
import Derived.Test.YtnjlajjjcmhfgaaGreatDoorTA33
namespace Go.Proofs.YtnjlajjjcmhfgaaGreatDoor
open Go.RowKit
open Mm (Turn gr RM valV errV Byts setV RowAt)
set_option linter.unusedVariables false
set_option linter.unusedSimpArgs false
def Sml (σ:Pst):Prop:=∃s u,Cnt σ s u∧s*1048576*56≤140737488355328∧(256*u+s*1048576)*64≤140737488355328
theorem Sml.dirty {σ:Pst} (h:Sml σ):(diL σ.mem.mo σ.K σ.J).length*64≤140737488355328:=by
  obtain ⟨s,u,h1,h2,h3⟩:=h
  have:=h1.dirts
  omega
theorem Sml.ok {σ:Pst} (h:Sml σ):TrOk σ.K σ.J:=by
  obtain ⟨s,u,h1,_⟩:=h
  exact h1.ok
theorem Sml.mok {σ:Pst} (h:Sml σ):σ.mem.Ok:=by
  obtain ⟨s,u,h1,_⟩:=h
  exact h1.mem
theorem Scn.small {W:World} {vp vw vc:Value} {pas ws:List Int} {cs:List Ctx} (h:Scn W vp vw vc pas ws cs) (f:Int) {ops:List Oq} (ho:∀o∈ops,o.Ok) (hb:pas.length+11*ops.length≤1048576):Sml ((Pst.first f (pas.zip ws)).run cs ops):=by
  refine ⟨_,_,h.cnt f ho,?_,?_⟩
  · omega
  · have:(pas.zip ws).length≤pas.length:=by rw [List.length_zip]; omega
    omega
theorem LtG.form {α:Type} {enc:α→List Value} {T:TypeId} {w:World} {lo:Nat} {v:Value} {L:List α} (h:LtG enc T w lo v L):∃a cap,v= .slice a L.length cap:=by
  obtain ⟨a,cap,e,_⟩:=h
  exact ⟨a,cap,e⟩
theorem ri_va {t:Tra} (h:riF t=true):t.va%byN t.size=0:=by
  have hs:=ri_size h
  unfold riF at h
  rw [Bool.and_eq_true] at h
  have h2:=(Tra.same_iff _ _).1 h.2
  unfold trF at h2
  split at h2
  · have e1:szK (enF t).kind=t.size:=congrArg Tra.size h2
    have e2:t.va / byN (szK (enF t).kind)*byN (szK (enF t).kind)=t.va:=congrArg Tra.va h2
    rw [e1] at e2
    rw [←e2]
    exact Int.mul_emod_left _ _
  · have:(0:Int)=t.size:=congrArg Tra.size h2
    omega
theorem ri_top {t:Tra} (h:riF t=true) (hv:0≤t.va∧t.va<4294967296):t.va+byN t.size≤4294967296:=by
  have hs:=ri_size h
  have hm:=ri_va h
  rcases hs with e|e|e|e <;>rw [e] at hm ⊢ <;>simp only [byN] at hm ⊢ <;>simp at hm ⊢ <;>omega
end Go.Proofs.YtnjlajjjcmhfgaaGreatDoor

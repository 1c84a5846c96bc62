import Derived.Test.YtnjlajjjcmhfgaaGreatDoorTA10
import Derived.Test.YtnjlajjjcmhfgaaGreatDoorTA11
import Derived.Lib.Small
import Derived.Deep.RegionHeld3
namespace Go.Proofs.YtnjlajjjcmhfgaaGreatDoor
open Go.RowKit
open Mm (Turn gr RM valV errV Byts)
set_option linter.unusedVariables false
set_option linter.unusedSimpArgs false
def ramMo (N:Nat) (m:Nat→Int):Mo:=⟨fun a=>valV N m a.toNat 4,fun a=>errV N a 4⟩
def nilMo:Mo:=⟨fun _=>0,fun _=>30⟩
theorem ramMo_ok {N:Nat} {m:Nat→Int} (h:Byts m):(ramMo N m).Ok:=fun a=>by
  have:=Mm.valV_bd (N:=N) h a.toNat 4
  exact this
theorem nilMo_ok:nilMo.Ok:=fun a=>⟨Int.le_refl _,by show (0:Int)<4294967296; decide⟩
def MemP (w:World) (S:Nat→Prop) (iv:Value) (M:Mo):Prop :=
  (∃p N m,iv= .iface 52 (.pointer (some ⟨p,0,none⟩))∧M=ramMo N m∧RM w S p N m)∨(iv= .nilIface∧M=nilMo∧∀b,¬S b)
theorem MemP.keep {w w':World} {S X:Nat→Prop} {iv:Value} {M:Mo} (h:MemP w S iv M) (T:Turn X w w') (hd:∀b,S b→¬X b):MemP w' S iv M:=by
  rcases h with ⟨p,N,m,rfl,rfl,h⟩|h
  · exact .inl ⟨p,N,m,rfl,rfl,h.keep T hd⟩
  · exact .inr h
theorem MemP.low {w:World} {S:Nat→Prop} {iv:Value} {M:Mo} (h:MemP w S iv M):∀b,S b→b<w.heap.size:=by
  rcases h with ⟨p,N,m,rfl,rfl,h⟩|⟨_,_,h⟩
  · exact h.low
  · exact fun b hb=>(h b hb).elim
theorem MemP.ok {w:World} {S:Nat→Prop} {iv:Value} {M:Mo} (h:MemP w S iv M):M.Ok:=by
  rcases h with ⟨p,N,m,rfl,rfl,h⟩|⟨_,rfl,h⟩
  · exact ramMo_ok h.byts
  · exact nilMo_ok
theorem MemP.ask {w:World} {S:Nat→Prop} {iv:Value} {M:Mo} (h:MemP w S iv M) (pa:Int) (h0:0≤pa) (h1:pa<18446744073709551616) :
    Calls Tryz.prog 99 #[iv,.int .u64 pa] w fun e w'=>e= .returned (.tuple #[.int .u32 (M.wd pa),.int .i64 (M.er pa)])∧w=w':=by
  rcases h with ⟨p,N,m,rfl,rfl,h⟩|⟨rfl,rfl,h⟩
  · have:=ask_ram w S p N m pa.toNat h (by omega)
    rw [Int.toNat_of_nonneg h0] at this
    exact this
  · exact ask_nil w pa
structure Pu (S:Nat→Prop) (iv:Value) (M:Mo) (L:List Int) (Z:Nat→Prop) (w:World):Prop where
  mem:MemP w S iv M
  sz:∀b,S b→Z b
  tz:∀b,tbl b→Z b
  low:∀b,Z b→b<w.heap.size
  tab:TW w
theorem asker_pure (H:Nat) {S:Nat→Prop} {iv:Value} {M:Mo} (hM:M.Ok):Asker H M iv (Pu S iv M) where
  ok:=hM
  ask:=fun L Z w pa _ h0 h1 h=>(h.mem.ask pa h0 h1).mono (by
    rintro e w' ⟨rfl,rfl⟩
    exact ⟨rfl,⟨h.mem,fun b hb=> .inl (h.sz b hb),fun b hb=> .inl (h.tz b hb),fun b hb=>by
      rcases hb with hb|⟨_,hb⟩
      · exact h.low b hb
      · exact hb,h.tab⟩,Turn.refl _ _⟩)
  keep:=fun h T hX=>⟨h.mem.keep T (fun b hb hx=>hX b hx (h.sz b hb)),h.sz,h.tz,fun b hb=>Nat.lt_of_lt_of_le (h.low b hb) T.size,h.tab.turn T (fun b hb hx=>hX b hx (h.tz b hb))⟩
  low:=fun h=>h.low
  mono:=fun h hZ hl=>⟨h.mem,fun b hb=>hZ b (h.sz b hb),fun b hb=>hZ b (h.tz b hb),hl,h.tab⟩
  tab:=fun h=>h.tab
theorem walk_pure (c:Ctx) (va:Int) (w:World) {S:Nat→Prop} {iv:Value} {M:Mo} (h:MemP w S iv M) (ht:TW w) (hc:c.Ok) (hv:0≤va∧va<4294967296) :
    Calls Tryz.prog 32 #[iv,.agg #[.bool c.on,.bool c.tre,.bool c.afe,.int .i64 c.n,.bool c.pd0,.bool c.pd1,.int .u64 c.b0,.int .u64 c.b1,.int .u32 c.dacr,.int .u32 c.prrr,.int .u32 c.nmrr,.int .i64 c.asid],.int .u32 va] w fun e w'=>e= .returned (.tuple #[.agg #[.int .i64 ((wk M c va).1).size,.int .u32 ((wk M c va).1).va,.int .u64 ((wk M c va).1).pa,.int .i64 ((wk M c va).1).dom,.int .i64 ((wk M c va).1).ap,.int .u32 ((wk M c va).1).bits,.bool ((wk M c va).1).ng,.bool ((wk M c va).1).xn],.agg #[.int .i64 ((wk M c va).2).k,.int .i64 ((wk M c va).2).l,.int .i64 ((wk M c va).2).d]])∧Below w.heap.size w w':=by
  have hs:Pu S iv M [] (fun b=>b<w.heap.size) w:=⟨h,h.low,fun b hb=>ht.low hb,fun b hb=>hb,ht⟩
  refine (walk_any (asker_pure w.heap.size h.ok) c va [] _ w hs (by simp) hc hv).mono ?_
  rintro e w' ⟨rfl,_,T⟩
  exact ⟨rfl,T.to (fun x hx=>hx.2) (Nat.le_refl _)⟩
theorem first_pure (c:Ctx) (va:Int) (w:World) {S:Nat→Prop} {iv:Value} {M:Mo} (h:MemP w S iv M) (ht:TW w) (hc:c.Ok) (hv:0≤va∧va<4294967296) :
    Calls Tryz.prog 61 #[iv,.agg #[.bool c.on,.bool c.tre,.bool c.afe,.int .i64 c.n,.bool c.pd0,.bool c.pd1,.int .u64 c.b0,.int .u64 c.b1,.int .u32 c.dacr,.int .u32 c.prrr,.int .u32 c.nmrr,.int .i64 c.asid],.int .u32 va] w fun e w'=>e= .returned (.tuple #[.agg #[.int .i64 ((w1 M c va).1).kind,.int .u64 ((w1 M c va).1).base,.int .i64 ((w1 M c va).1).dom,.bool ((w1 M c va).1).ns,.int .i64 ((w1 M c va).1).ap,.int .u32 ((w1 M c va).1).bits,.bool ((w1 M c va).1).ng,.bool ((w1 M c va).1).xn],.agg #[.int .i64 ((w1 M c va).2).k,.int .i64 ((w1 M c va).2).l,.int .i64 ((w1 M c va).2).d]])∧Below w.heap.size w w':=by
  have hs:Pu S iv M [] (fun b=>b<w.heap.size) w:=⟨h,h.low,fun b hb=>ht.low hb,fun b hb=>hb,ht⟩
  refine (first_any (asker_pure w.heap.size h.ok) c va [] _ w hs (by simp) hc hv).mono ?_
  rintro e w' ⟨rfl,_,T⟩
  exact ⟨rfl,T.to (fun x hx=>hx.2) (Nat.le_refl _)⟩
theorem second_pure (t:Ent) (va:Int) (w:World) {S:Nat→Prop} {iv:Value} {M:Mo} (h:MemP w S iv M) (ht:TW w) (hr:0≤t.base∧t.base<4294967296) (hv:0≤va∧va<4294967296) :
    Calls Tryz.prog 62 #[iv,.agg #[.int .i64 t.kind,.int .u64 t.base,.int .i64 t.dom,.bool t.ns,.int .i64 t.ap,.int .u32 t.bits,.bool t.ng,.bool t.xn],.int .u32 va] w fun e w'=>e= .returned (.tuple #[.agg #[.int .i64 ((w2 M t va).1).size,.int .u32 ((w2 M t va).1).va,.int .u64 ((w2 M t va).1).pa,.int .i64 ((w2 M t va).1).dom,.int .i64 ((w2 M t va).1).ap,.int .u32 ((w2 M t va).1).bits,.bool ((w2 M t va).1).ng,.bool ((w2 M t va).1).xn],.agg #[.int .i64 ((w2 M t va).2).k,.int .i64 ((w2 M t va).2).l,.int .i64 ((w2 M t va).2).d]])∧Below w.heap.size w w':=by
  have hs:Pu S iv M [] (fun b=>b<w.heap.size) w:=⟨h,h.low,fun b hb=>ht.low hb,fun b hb=>hb,ht⟩
  refine (second_any (asker_pure w.heap.size h.ok) t va [] _ w hs (by simp) hr hv).mono ?_
  rintro e w' ⟨rfl,_,T⟩
  exact ⟨rfl,T.to (fun x hx=>hx.2) (Nat.le_refl _)⟩
theorem MemP.below {w w':World} {S:Nat→Prop} {iv:Value} {M:Mo} (h:MemP w S iv M) (hb:Below w.heap.size w w'):MemP w' S iv M:=h.keep (X:=fun _=>False) (Turn.below hb) (fun _ _ h=>h)
end Go.Proofs.YtnjlajjjcmhfgaaGreatDoor
namespace Go.Proofs.YtnjlajjjcmhfgaaGreatDoor
open Go.RowKit
open Mm (Turn gr RM valV errV Byts setV wrs byt num)
set_option linter.unusedVariables false
set_option linter.unusedSimpArgs false
theorem wrs_out (m:Nat→Int) (a:Nat) (l:List Int) {x:Nat} (h:x<a∨a+l.length≤x):wrs m a l x=m x:=by
  unfold wrs
  rw [if_neg (by omega)]
theorem wrs_in (m:Nat→Int) (a:Nat) (l:List Int) {i:Nat} (h:i<l.length):wrs m a l (a+i)=l.getD i 0:=by
  unfold wrs
  rw [if_pos (by omega),show a+i-a=i by omega]
theorem num_same (m:Nat→Int) (a:Nat) (v:Int) (h0:0≤v) (h1:v<4294967296):num (wrs m a (byt v 4)) a 4=v:=by
  have hl:(byt v 4).length=4:=Mm.byt_len v 4
  have e0:=wrs_in m a (byt v 4) (i:=0) (by omega)
  have e1:=wrs_in m a (byt v 4) (i:=1) (by omega)
  have e2:=wrs_in m a (byt v 4) (i:=2) (by omega)
  have e3:=wrs_in m a (byt v 4) (i:=3) (by omega)
  rw [Mm.num4]
  rw [Nat.add_zero] at e0
  rw [e0,e1,e2,e3,Mm.byt4]
  simp
  omega
theorem num_other (m:Nat→Int) (a b:Nat) (v:Int) (ha:a%4=0) (hb:b%4=0) (hn:a≠b):num (wrs m a (byt v 4)) b 4=num m b 4:=by
  have hl:(byt v 4).length=4:=Mm.byt_len v 4
  rw [Mm.num4,Mm.num4,wrs_out _ _ _ (by omega),wrs_out _ _ _ (by omega),wrs_out _ _ _ (by omega),wrs_out _ _ _ (by omega)]
theorem er_ok {N:Nat} {a:Int} (h:errV N a 4=0):a%4=0:=by
  unfold errV at h
  split at h
  · cases h
  · rename_i h1
    omega
def putM (N:Nat) (m:Nat→Int) (a v:Int):Nat→Int:=setV N m a.toNat 4 v
theorem putM_no {N:Nat} {m:Nat→Int} {a v:Int} (h0:0≤a) (h:errV N a 4≠0):putM N m a v=m:=by
  unfold putM setV
  rw [Int.toNat_of_nonneg h0,if_neg h]
theorem putM_same {N:Nat} {m:Nat→Int} {a v:Int} (h0:0≤a) (h:errV N a 4=0) (hv0:0≤v) (hv1:v<4294967296):(ramMo N (putM N m a v)).wd a=v:=by
  show valV N (putM N m a v) a.toNat 4=v
  unfold putM setV valV
  rw [Int.toNat_of_nonneg h0,if_pos h,if_pos h]
  exact num_same m a.toNat v hv0 hv1
theorem putM_other {N:Nat} {m:Nat→Int} {a v b:Int} (ha:0≤a) (hb:0≤b) (hn:a≠b):(ramMo N (putM N m a v)).wd b=(ramMo N m).wd b:=by
  by_cases h:errV N a 4=0
  · show valV N (putM N m a v) b.toNat 4=valV N m b.toNat 4
    unfold putM setV valV
    rw [Int.toNat_of_nonneg ha,if_pos h,Int.toNat_of_nonneg hb]
    by_cases hb4:errV N b 4=0
    · rw [if_pos hb4,if_pos hb4]
      have h1:=er_ok h
      have h2:=er_ok hb4
      exact num_other m a.toNat b.toNat v (by omega) (by omega) (by omega)
    · rw [if_neg hb4,if_neg hb4]
  · rw [putM_no ha h]
end Go.Proofs.YtnjlajjjcmhfgaaGreatDoor
namespace Go.Proofs.YtnjlajjjcmhfgaaGreatDoor
open Go.RowKit
open Mm (Turn gr RM valV errV Byts setV wrs byt num)
set_option linter.unusedVariables false
set_option linter.unusedSimpArgs false
end Go.Proofs.YtnjlajjjcmhfgaaGreatDoor
namespace Go.Proofs.YtnjlajjjcmhfgaaGreatDoor
open Go.RowKit
open Mm (Turn gr RM valV errV Byts setV wrs byt num)
set_option linter.unusedVariables false
set_option linter.unusedSimpArgs false
theorem sb_D1 {x:Int} (h:0≤x∧x<4294967296) (hk:(D1 x).kind=2∨(D1 x).kind=3):sb (D1 x)=true:=by
  unfold sb
  rw [if_pos hk,Ent.same_iff]
  exact DED1 x h
theorem sb_D2 {x:Int} (h:0≤x∧x<4294967296) (hk:(D2 x).kind=4∨(D2 x).kind=5):sb (D2 x)=true:=by
  unfold sb
  rw [if_neg (by omega),if_pos hk,Ent.same_iff]
  exact DED2 x h
structure Fnd (U:Tra) (va:Int):Prop where
  sz:U.size=1∨U.size=2∨U.size=3∨U.size=4
  va:U.va=va / byN U.size*byN U.size
  pa:0≤U.pa∧U.pa<1099511627776
  bt:0≤U.bits∧U.bits<4294967296
  rr:RR U
theorem Fnd.rng {U:Tra} {va:Int} (h:Fnd U va) (hv:0≤va∧va<4294967296):0≤U.va∧U.va≤va∧U.va≤va / 4096*4096∧va-U.va<byN U.size:=by
  have h2:=h.va
  rcases h.sz with h1|h1|h1|h1 <;>simp only [h1,byN] at h2 ⊢ <;>simp at h2 ⊢ <;>omega
theorem Fnd.right {U:Tra} {va:Int} (h:Fnd U va):riF U=true :=
  (ri_iff U ⟨⟨h.pa.1,by have:=h.pa.2; show U.pa<_; omega⟩,h.bt⟩ (by have:=h.sz; omega)).2 h.rr
theorem tr_D1 {x:Int} (h:0≤x∧x<4294967296) (hk:(D1 x).kind=2∨(D1 x).kind=3) (d va:Int) (hv:0≤va∧va<4294967296) :
    trF (D1 x) d va=⟨szK (D1 x).kind,va / byN (szK (D1 x).kind)*byN (szK (D1 x).kind),(D1 x).base,(D1 x).dom,(D1 x).ap,(D1 x).bits,(D1 x).ng,(D1 x).xn⟩∧Fnd (trF (D1 x) d va) va∧3≤(trF (D1 x) d va).size:=by
  obtain ⟨ho,hs⟩:=ok_D1 x h
  have hd:domOf (D1 x) d=(D1 x).dom:=if_pos hk
  have hdr:0≤(D1 x).dom∧(D1 x).dom≤15:=by
    rcases hs with h1|⟨h1,h2⟩|⟨h1,h2,h3,h4⟩|⟨h1,h2,h3,h4⟩
    · rw [h1] at hk; rcases hk with hk|hk <;>cases hk
    · omega
    · exact h3
    · omega
  have e:trF (D1 x) d va=⟨szK (D1 x).kind,va / byN (szK (D1 x).kind)*byN (szK (D1 x).kind),(D1 x).base,(D1 x).dom,(D1 x).ap,(D1 x).bits,(D1 x).ng,(D1 x).xn⟩:=by
    unfold trF
    rw [hd,if_pos ⟨sb_D1 h hk,hdr⟩]
  refine ⟨e,?_⟩
  rw [e]
  rcases hs with h1|⟨h1,h2⟩|⟨h1,h2,h3,h4⟩|⟨h1,h2,h3,h4⟩
  · rw [h1] at hk; rcases hk with hk|hk <;>cases hk
  · omega
  · rw [h1]
    obtain ⟨⟨b1,b2⟩,b3⟩:=ho
    refine ⟨⟨.inr (.inr (.inl rfl)),rfl,⟨b1,by show (D1 x).base<_; omega⟩,b3,?_⟩,by show (3:Int)≤3; omega⟩
    refine ⟨?_,h4,h3,h2.1,?_⟩
    · show va / 1048576*1048576%1048576=0
      omega
    · rw [if_neg (by show ¬(3:Int)=4; decide)]
      exact h2.2
  · rw [h1]
    obtain ⟨⟨b1,b2⟩,b3⟩:=ho
    refine ⟨⟨.inr (.inr (.inr rfl)),rfl,⟨b1,h2.2⟩,b3,?_⟩,by show (3:Int)≤4; omega⟩
    refine ⟨?_,h4,by show 0≤(D1 x).dom∧_; omega,h2.1,?_⟩
    · show va / 16777216*16777216%16777216=0
      omega
    · rw [if_pos (by show (4:Int)=4; rfl)]
      exact ⟨h2.2,h3⟩
theorem tr_D2 {x:Int} (h:0≤x∧x<4294967296) (hk:(D2 x).kind=4∨(D2 x).kind=5) (d va:Int) (hd0:0≤d∧d≤15) (hv:0≤va∧va<4294967296) :
    trF (D2 x) d va=⟨szK (D2 x).kind,va / byN (szK (D2 x).kind)*byN (szK (D2 x).kind),(D2 x).base,d,(D2 x).ap,(D2 x).bits,(D2 x).ng,(D2 x).xn⟩∧Fnd (trF (D2 x) d va) va∧(trF (D2 x) d va).size<3:=by
  obtain ⟨ho,hs⟩:=ok_D2 x h
  have hd:domOf (D2 x) d=d:=if_neg (by omega)
  have e:trF (D2 x) d va=⟨szK (D2 x).kind,va / byN (szK (D2 x).kind)*byN (szK (D2 x).kind),(D2 x).base,d,(D2 x).ap,(D2 x).bits,(D2 x).ng,(D2 x).xn⟩:=by
    unfold trF
    rw [hd,if_pos ⟨sb_D2 h hk,hd0⟩]
  refine ⟨e,?_⟩
  rw [e]
  rcases hs with h1|⟨h1,h2,h3,h5,h4⟩|⟨h1,h2,h3,h5,h4⟩
  · rw [h1] at hk; rcases hk with hk|hk <;>cases hk
  · rw [h1]
    obtain ⟨⟨b1,b2⟩,b3⟩:=ho
    refine ⟨⟨.inr (.inl rfl),rfl,⟨b1,by show (D2 x).base<_; omega⟩,b3,?_⟩,by show (2:Int)<3; omega⟩
    refine ⟨?_,h4,hd0,h2.1,?_⟩
    · show va / 65536*65536%65536=0
      omega
    · rw [if_neg (by show ¬(2:Int)=4; decide)]
      exact h2.2
  · rw [h1]
    obtain ⟨⟨b1,b2⟩,b3⟩:=ho
    refine ⟨⟨.inl rfl,rfl,⟨b1,by show (D2 x).base<_; omega⟩,b3,?_⟩,by show (1:Int)<3; omega⟩
    refine ⟨?_,h4,hd0,h2.1,?_⟩
    · show va / 4096*4096%4096=0
      omega
    · rw [if_neg (by show ¬(1:Int)=4; decide)]
      exact h2.2
theorem it_fnd (va:Int) (hv:0≤va∧va<4294967296):Fnd (itF va) va:=by
  refine ⟨.inl rfl,rfl,⟨by show 0≤va / 4096*4096; omega,by show va / 4096*4096<_; omega⟩,⟨by show (0:Int)≤0; omega,by show (0:Int)<_; omega⟩,?_⟩
  refine ⟨?_,⟨?_,?_,?_⟩,⟨?_,?_⟩,?_,?_⟩
  · show va / 4096*4096%4096=0; omega
  · show (0:Int)≤3; omega
  · show (3:Int)≤7; omega
  · show (0:Int)≤63; omega
  · show (0:Int)≤0; omega
  · show (0:Int)≤15; omega
  · show va / 4096*4096%4096=0; omega
  · rw [if_neg (by show ¬(1:Int)=4; decide)]
    show va / 4096*4096<_; omega
theorem missed {M:Mo} {c:Ctx} {va:Int} {U:Tra} {F:Fa} (h:wk M c va=(U,F)) (hk:F.k≠0):U=tZ∧c.on=true:=by
  unfold wk at h
  split at h
  · rename_i hon
    refine ⟨?_,hon⟩
    split at h
    · split at h
      · unfold w2 at h
        split at h
        · split at h
          · exact (Prod.mk.inj h).1.symm
          · exact absurd (by rw [←(Prod.mk.inj h).2]; rfl) hk
        · exact (Prod.mk.inj h).1.symm
      · exact absurd (by rw [←(Prod.mk.inj h).2]; rfl) hk
    · exact (Prod.mk.inj h).1.symm
  · exact absurd (by rw [←(Prod.mk.inj h).2]; rfl) hk
theorem found {M:Mo} {c:Ctx} {va:Int} {U:Tra} {F:Fa} (hM:M.Ok) (hc:c.Ok) (hv:0≤va∧va<4294967296) (h:wk M c va=(U,F)) (hk:F.k=0) :
    F=fZ∧Fnd U va∧((c.on=false∧U=itF va∧rdL M c va=[])∨
      (c.on=true∧rdL M c va=[fA c va]∧M.er (fA c va)=0∧trF (D1 (M.wd (fA c va))) U.dom va=U∧3≤U.size)∨
      (c.on=true∧∃s,rdL M c va=[fA c va,s]∧(0≤s∧s<4294967296)∧M.er s=0∧trF (D2 (M.wd s)) U.dom va=U∧U.size<3)):=by
  unfold wk at h
  split at h
  · rename_i hon
    split at h
    · rename_i h1
      obtain ⟨hO,he,hw,hz⟩:=w1_kind h1
      have hx:=hM (fA c va)
      split at h
      · rename_i h2
        have hr:rdL M c va=[fA c va,sA (w1 M c va).1 va]:=by
          unfold rdL
          rw [if_pos hon,if_pos ⟨h1,h2⟩]
          simp [r1,hO]
        rw [hw] at h h2 hr
        dsimp only at h h2 hr
        have hs:=sA_rng hx h2 hv.1
        have hdm:=D1_base _ hx h2
        generalize D1 (M.wd (fA c va))=x at *
        unfold w2 at h
        split at h
        · rename_i h3
          split at h
          · exfalso
            rw [←(Prod.mk.inj h).2] at hk
            cases hk
          · rename_i h4
            have hy:=hM (sA x va)
            have hk2:(D2 (M.wd (sA x va))).kind=4∨(D2 (M.wd (sA x va))).kind=5:=by
              have:=D2_kind (M.wd (sA x va)); omega
            obtain ⟨hU,hF⟩:=Prod.mk.inj h
            obtain ⟨e1,e2,e3⟩:=tr_D2 hy hk2 x.dom va hdm.2.2.2 hv
            have hdd:U.dom=x.dom:=by rw [←hU,e1]
            refine ⟨hF.symm,by rw [←hU]; exact e2,.inr (.inr ⟨hon,sA x va,hr,⟨hs.1,hs.2.1⟩,h3,by rw [hdd]; exact hU,by rw [←hU]; exact e3⟩)⟩
        · exfalso
          rw [←(Prod.mk.inj h).2] at hk
          cases hk
      · rename_i h2
        have hr:rdL M c va=[fA c va]:=by
          unfold rdL
          rw [if_pos hon,if_neg (fun g=>h2 g.2)]
          simp [r1,hO]
        rw [hw] at h h2
        dsimp only at h h2
        have hk1:(D1 (M.wd (fA c va))).kind=2∨(D1 (M.wd (fA c va))).kind=3:=by
          have:=D1_kind (M.wd (fA c va)); omega
        obtain ⟨hU,hF⟩:=Prod.mk.inj h
        obtain ⟨e1,e2,e3⟩:=tr_D1 hx hk1 0 va hv
        obtain ⟨g1,_,_⟩:=tr_D1 hx hk1 U.dom va hv
        refine ⟨hF.symm,by rw [←hU]; exact e2,.inr (.inl ⟨hon,hr,he,?_,by rw [←hU]; exact e3⟩)⟩
        rw [g1,←e1]; exact hU
    · rename_i h1
      exfalso
      rw [←(Prod.mk.inj h).2] at hk
      exact h1 hk
  · rename_i hon
    obtain ⟨hU,hF⟩:=Prod.mk.inj h
    have hon':c.on=false:=by simpa using hon
    refine ⟨hF.symm,by rw [←hU]; exact it_fnd va hv,.inl ⟨hon',hU.symm,?_⟩⟩
    unfold rdL
    rw [if_neg hon]
theorem lw_page {c:Ctx} {va vb:Int} (h:va / 1048576=vb / 1048576):lw c va=lw c vb:=by
  have hn:=nN_lt c
  unfold lw
  have e:(2:Int)^(32-nN c)=1048576*2^(12-nN c):=by
    rw [show 32-nN c=20+(12-nN c) by omega,Int.pow_add]; rfl
  rw [e,←Int.ediv_ediv_of_nonneg (by omega),←Int.ediv_ediv_of_nonneg (by omega),h]
theorem w1_sec {M:Mo} {c:Ctx} {va vb:Int} (h:va / 1048576=vb / 1048576):w1 M c va=w1 M c vb∧fA c va=fA c vb∧fO c va=fO c vb:=by
  have e1:fA c va=fA c vb:=by unfold fA; rw [lw_page h,h]
  have e2:fO c va=fO c vb:=by unfold fO; rw [lw_page h]
  exact ⟨by unfold w1; rw [e1,e2],e1,e2⟩
theorem tr_page {e:Ent} {d va vb:Int} (h:va / 4096=vb / 4096):trF e d va=trF e d vb:=by
  have hb:∀k,va / byN (szK k)*byN (szK k)=vb / byN (szK k)*byN (szK k):=by
    intro k
    unfold szK byN
    by_cases k2:k=2
    · simp [k2]; omega
    · by_cases k3:k=3
      · simp [k3]; omega
      · by_cases k4:k=4
        · simp [k4]; omega
        · by_cases k5:k=5
          · simp [k5]; omega
          · simp [k2,k3,k4,k5]
  unfold trF
  rw [hb]
theorem wk_page {M:Mo} {c:Ctx} {va vb:Int} (h:va / 4096=vb / 4096):wk M c va=wk M c vb:=by
  obtain ⟨e1,e2,e3⟩:=w1_sec (M:=M) (c:=c) (va:=va) (vb:=vb) (by omega)
  have e4:∀x,w2 M x va=w2 M x vb:=by
    intro x
    unfold w2 sA
    rw [h,tr_page h]
  unfold wk itF
  rw [e1,e4,tr_page h,h]
end Go.Proofs.YtnjlajjjcmhfgaaGreatDoor
namespace Go.Proofs.YtnjlajjjcmhfgaaGreatDoor
open Go.RowKit
set_option linter.unusedVariables false
set_option linter.unusedSimpArgs false
def lexC:List Int→List Int→Int
  | a::l,b::m=>if Lib.compareInt a b=0 then lexC l m else Lib.compareInt a b
  | _,_=>0
theorem lexC_cons (a b:Int) (l m:List Int):lexC (a::l) (b::m)=if a<b then -1 else if b<a then 1 else lexC l m:=by
  show (if Lib.compareInt a b=0 then lexC l m else Lib.compareInt a b)=_
  unfold Lib.compareInt
  by_cases h1:a<b
  · simp [h1]
  · by_cases h2:b<a <;>simp [h1,h2]
theorem lexC_self (l:List Int):lexC l l=0:=by
  induction l with
  | nil=>rfl
  | cons a l ih=>rw [lexC_cons]; simp [ih]
theorem lexC_lt_iff (a b:Int) (l m:List Int):lexC (a::l) (b::m)<0↔a<b∨(a=b∧lexC l m<0):=by
  rw [lexC_cons]
  by_cases h1:a<b
  · simp [h1]
  · by_cases h2:b<a
    · have:a≠b:=by omega
      simp [h1,h2,this]
    · have:a=b:=by omega
      simp [this]
theorem lexC_trans:∀l m n:List Int,lexC l m<0→lexC m n<0→lexC l n<0
  | [],_,_,h,_=>by simp [lexC] at h
  | _::_,[],_,h,_=>by simp [lexC] at h
  | _::_,_::_,[],_,h=>by simp [lexC] at h
  | a::l,b::m,c::n,h1,h2=>by
    rw [lexC_lt_iff] at *
    have:=lexC_trans l m n
    rcases h1 with h1|⟨h1,h1'⟩ <;>rcases h2 with h2|⟨h2,h2'⟩
    · exact .inl (by omega)
    · exact .inl (by omega)
    · exact .inl (by omega)
    · exact .inr ⟨by omega,this h1' h2'⟩
theorem lexC_eq:∀l m:List Int,l.length=m.length→¬lexC l m<0→¬lexC m l<0→l=m
  | [],[],_,_,_=>rfl
  | [],_::_,h,_,_=>by simp at h
  | _::_,[],h,_,_=>by simp at h
  | a::l,b::m,h,h1,h2=>by
    rw [lexC_lt_iff] at *
    have h':l.length=m.length:=by simpa using h
    have e:a=b:=by
      by_cases g1:a<b
      · exact absurd (.inl g1) h1
      · by_cases g2:b<a
        · exact absurd (.inl g2) h2
        · omega
    subst e
    rw [lexC_eq l m h' (fun g=>h1 (.inr ⟨rfl,g⟩)) (fun g=>h2 (.inr ⟨rfl,g⟩))]
def nd:List Tra→List Tra
  | []=>[]
  | [x]=>[x]
  | x::y::l=>if x.same y then nd (y::l) else x::nd (y::l)
theorem mem_nd {a:Tra}:∀l:List Tra,a∈nd l↔a∈l
  | []=>by simp [nd]
  | [x]=>by simp [nd]
  | x::y::l=>by
    have ih:=mem_nd (a:=a) (y::l)
    unfold nd
    split
    · rename_i h
      have h:=(Tra.same_iff x y).1 h
      subst h
      rw [ih]; simp
    · rw [List.mem_cons,ih,←List.mem_cons]
section
variable {α:Type}
theorem rising_unique {lt:α→α→Bool} (hi:∀x,lt x x=false) (ht:∀x y z,lt x y=true→lt y z=true→lt x z=true) :
    ∀l m:List α,l.Pairwise (fun a b=>lt a b=true)→m.Pairwise (fun a b=>lt a b=true)→(∀a,a∈l↔a∈m)→l=m
  | [],[],_,_,_=>rfl
  | [],y::m,_,_,h=>by have:=(h y).2 (.head _); cases this
  | x::l,[],_,_,h=>by have:=(h x).1 (.head _); cases this
  | x::l,y::m,h1,h2,h=>by
    have g1:=List.pairwise_cons.1 h1
    have g2:=List.pairwise_cons.1 h2
    have e:x=y:=by
      rcases List.mem_cons.1 ((h x).1 (.head _)) with e|hx
      · exact e
      · rcases List.mem_cons.1 ((h y).2 (.head _)) with e|hy
        · exact e.symm
        · have:=ht _ _ _ (g1.1 y hy) (g2.1 x hx)
          rw [hi] at this; cases this
    subst e
    rw [rising_unique hi ht l m g1.2 g2.2 ?_]
    intro a
    constructor
    · intro ha
      rcases List.mem_cons.1 ((h a).1 (.tail _ ha)) with e|g
      · subst e; have:=g1.1 a ha; rw [hi] at this; cases this
      · exact g
    · intro ha
      rcases List.mem_cons.1 ((h a).2 (.tail _ ha)) with e|g
      · subst e; have:=g2.1 a ha; rw [hi] at this; cases this
      · exact g
end
def bI (b:Bool):Int:=if b then 1 else 0
def kyT (t:Tra):List Int:=[t.va,t.size,t.pa,t.dom,t.ap,t.bits,bI t.ng,bI t.xn]
def cmT (a b:Tra):Int:=lexC (kyT a) (kyT b)
def ltT (a b:Tra):Bool:=decide (cmT a b<0)
theorem kyT_inj {a b:Tra} (h:kyT a=kyT b):a=b:=by
  obtain ⟨a1,a2,a3,a4,a5,a6,a7,a8⟩:=a
  obtain ⟨b1,b2,b3,b4,b5,b6,b7,b8⟩:=b
  simp [kyT] at h
  obtain ⟨h1,h2,h3,h4,h5,h6,h7,h8⟩:=h
  have e7:a7=b7:=by revert h7; cases a7 <;>cases b7 <;>simp [bI]
  have e8:a8=b8:=by revert h8; cases a8 <;>cases b8 <;>simp [bI]
  subst h1; subst h2; subst h3; subst h4; subst h5; subst h6; subst e7; subst e8
  rfl
theorem ltT_irrefl (a:Tra):ltT a a=false:=by simp [ltT,cmT,lexC_self]
theorem ltT_trans (a b d:Tra) (h1:ltT a b=true) (h2:ltT b d=true):ltT a d=true:=by
  simp only [ltT,decide_eq_true_eq] at *
  exact lexC_trans _ _ _ h1 h2
theorem ltT_tot (a b:Tra) (h1:ltT a b=false) (h2:ltT b a=false):a=b:=by
  simp only [ltT,decide_eq_false_iff_not] at *
  exact kyT_inj (lexC_eq _ _ rfl h1 h2)
theorem ltT_ntrans (a b d:Tra) (h1:ltT a b=false) (h2:ltT b d=false):ltT a d=false:=by
  cases hc:ltT a d with
  | false=>rfl
  | true =>
    cases hd:ltT b a with
    | false=>rw [ltT_tot a b h1 hd,h2] at hc; cases hc
    | true=>rw [ltT_trans _ _ _ hd hc] at h2; cases h2
def gaT (M:Mo) (x:Ent) (va:Int) (n:Nat):List Tra:=(List.range n).flatMap fun (i:Nat)=>if (w2 M x (va+i*4096)).2.k=0 then [(w2 M x (va+i*4096)).1] else []
def gaL (M:Mo) (c:Ctx) (va:Int):List Tra :=
  if (w1 M c va).2.k=0 then (if (w1 M c va).1.kind=1 then gaT M (w1 M c va).1 va 256 else [trF (w1 M c va).1 0 va]) else []
def wiT (M:Mo) (c:Ctx) (va:Int) (n:Nat):List Tra:=(List.range n).flatMap fun (i:Nat)=>gaL M c (va+i*1048576)
def soT (l:List Tra):List Tra:=l.mergeSort fun x y=> !ltT y x
def wiL (M:Mo) (c:Ctx) (va:Int):List Tra:=nd (soT (wiT M c va 16))
def blT (M:Mo) (c:Ctx) (n:Nat):List Tra:=(List.range n).flatMap fun (s:Nat)=>wiL M c ((s:Int)*16777216)
def blL (M:Mo) (c:Ctx):List Tra:=if c.on then blT M c 256 else []
theorem gaT_succ (M:Mo) (x:Ent) (va:Int) (n:Nat):gaT M x va (n+1)=gaT M x va n++(if (w2 M x (va+n*4096)).2.k=0 then [(w2 M x (va+n*4096)).1] else []):=by
  unfold gaT
  rw [List.range_succ,List.flatMap_append]
  simp
theorem wiT_succ (M:Mo) (c:Ctx) (va:Int) (n:Nat):wiT M c va (n+1)=wiT M c va n++gaL M c (va+n*1048576):=by
  unfold wiT
  rw [List.range_succ,List.flatMap_append]
  simp
theorem blT_succ (M:Mo) (c:Ctx) (n:Nat):blT M c (n+1)=blT M c n++wiL M c ((n:Int)*16777216):=by
  unfold blT
  rw [List.range_succ,List.flatMap_append]
  simp
theorem gaT_len (M:Mo) (x:Ent) (va:Int) (n:Nat):(gaT M x va n).length≤n:=by
  induction n with
  | zero=>simp [gaT]
  | succ n ih =>
    rw [gaT_succ,List.length_append]
    split <;>simp <;>omega
theorem gaL_len (M:Mo) (c:Ctx) (va:Int):(gaL M c va).length≤256:=by
  unfold gaL
  split
  · split
    · exact gaT_len _ _ _ _
    · simp
  · simp
theorem wiT_len (M:Mo) (c:Ctx) (va:Int) (n:Nat):(wiT M c va n).length≤256*n:=by
  induction n with
  | zero=>simp [wiT]
  | succ n ih =>
    rw [wiT_succ,List.length_append]
    have:=gaL_len M c (va+n*1048576)
    omega
theorem soT_perm (l:List Tra):(soT l).Perm l:=List.mergeSort_perm _ _
theorem mem_wiL {M:Mo} {c:Ctx} {va:Int} {x:Tra}:x∈wiL M c va↔x∈wiT M c va 16:=by
  unfold wiL
  rw [mem_nd,(soT_perm _).mem_iff]
theorem nd_len:∀l:List Tra,(nd l).length≤l.length
  | []=>by simp [nd]
  | [x]=>by simp [nd]
  | x::y::l=>by
    have ih:=nd_len (y::l)
    unfold nd
    split
    · simp at *; omega
    · simp at *; omega
theorem wiL_len (M:Mo) (c:Ctx) (va:Int):(wiL M c va).length≤4096:=by
  have h:=nd_len (soT (wiT M c va 16))
  rw [(soT_perm _).length_eq] at h
  have:=wiT_len M c va 16
  unfold wiL
  omega
theorem tr_mib {e:Ent} {d va vb:Int} (hk:e.kind=2∨e.kind=3) (h:va / 1048576=vb / 1048576):trF e d va=trF e d vb:=by
  have hb:va / byN (szK e.kind)*byN (szK e.kind)=vb / byN (szK e.kind)*byN (szK e.kind):=by
    rcases hk with hk|hk
    · rw [hk]; show va / 1048576*1048576=vb / 1048576*1048576; omega
    · rw [hk]; show va / 16777216*16777216=vb / 16777216*16777216; omega
  unfold trF
  rw [hb]
theorem w1_not1 {M:Mo} {c:Ctx} {va:Int} (h:(w1 M c va).2.k=0) (h1:¬(w1 M c va).1.kind=1):(w1 M c va).1.kind=2∨(w1 M c va).1.kind=3:=by
  obtain ⟨_,_,hw,hz⟩:=w1_kind h
  rw [hw] at h1 ⊢
  have:=D1_kind (M.wd (fA c va))
  dsimp only at h1 ⊢
  omega
theorem w2_z {M:Mo} {x:Ent} {va:Int} (h:(w2 M x va).2.k=0):w2 M x va=((w2 M x va).1,fZ):=by
  unfold w2 at h ⊢
  split at h
  · rename_i h1
    rw [if_pos h1]
    split at h
    · cases h
    · rename_i h2
      rw [if_neg h2]
  · cases h
theorem mem_gaL {M:Mo} {c:Ctx} {va:Int} (hon:c.on=true) (hv:0≤va) (hm:va%1048576=0) (x:Tra) :
    x∈gaL M c va↔∃vb,vb / 1048576=va / 1048576∧wk M c vb=(x,fZ):=by
  constructor
  · intro h
    unfold gaL at h
    split at h
    · rename_i h1
      split at h
      · rename_i h2
        unfold gaT at h
        obtain ⟨i,hi,hx⟩:=List.mem_flatMap.1 h
        have hi:=List.mem_range.1 hi
        split at hx
        · rename_i h3
          have hx:=List.mem_singleton.1 hx
          have e:va / 1048576=(va+i*4096) / 1048576:=by omega
          refine ⟨va+i*4096,e.symm,?_⟩
          obtain ⟨e1,_⟩:=w1_sec (M:=M) (c:=c) e
          unfold wk
          rw [if_pos hon,←e1,if_pos h1,if_pos h2,w2_z h3,hx]
        · cases hx
      · rename_i h2
        have hx:=List.mem_singleton.1 h
        refine ⟨va,rfl,?_⟩
        unfold wk
        rw [if_pos hon,if_pos h1,if_neg h2,hx]
    · cases h
  · rintro ⟨vb,hb,hw⟩
    obtain ⟨e1,_⟩:=w1_sec (M:=M) (c:=c) hb
    unfold wk at hw
    rw [if_pos hon,e1] at hw
    unfold gaL
    split at hw
    · rename_i h1
      rw [if_pos h1]
      split at hw
      · rename_i h2
        rw [if_pos h2]
        unfold gaT
        refine List.mem_flatMap.2 ⟨(vb / 4096%256).toNat,List.mem_range.2 (by omega),?_⟩
        have hp:w2 M (w1 M c va).1 (va+((vb / 4096%256).toNat:Int)*4096)=w2 M (w1 M c va).1 vb:=by
          have h:(va+((vb / 4096%256).toNat:Int)*4096) / 4096=vb / 4096:=by omega
          unfold w2 sA
          rw [h,tr_page h]
        rw [hp,hw]
        rw [if_pos (show (fZ:Fa).k=0 from rfl)]
        exact .head _
      · rename_i h2
        rw [if_neg h2]
        rw [tr_mib (w1_not1 h1 h2) hb.symm,(Prod.mk.inj hw).1]
        exact .head _
    · rename_i h1
      exact absurd (by rw [(Prod.mk.inj hw).2]; rfl) h1
theorem mem_wiT {M:Mo} {c:Ctx} {va:Int} (hon:c.on=true) (hv:0≤va) (hm:va%16777216=0) (x:Tra) :
    x∈wiT M c va 16↔∃vb,vb / 16777216=va / 16777216∧wk M c vb=(x,fZ):=by
  unfold wiT
  rw [List.mem_flatMap]
  constructor
  · rintro ⟨i,hi,hx⟩
    have hi:=List.mem_range.1 hi
    obtain ⟨vb,hb,hw⟩:=(mem_gaL hon (by omega) (by omega) x).1 hx
    exact ⟨vb,by omega,hw⟩
  · rintro ⟨vb,hb,hw⟩
    refine ⟨(vb / 1048576%16).toNat,List.mem_range.2 (by omega),?_⟩
    exact (mem_gaL hon (by omega) (by omega) x).2 ⟨vb,by omega,hw⟩
theorem mem_blL {M:Mo} {c:Ctx} (hon:c.on=true) (x:Tra):x∈blL M c↔∃vb,(0≤vb∧vb<4294967296)∧wk M c vb=(x,fZ):=by
  unfold blL
  rw [if_pos hon]
  unfold blT
  rw [List.mem_flatMap]
  constructor
  · rintro ⟨s,hs,hx⟩
    have hs:=List.mem_range.1 hs
    obtain ⟨vb,hb,hw⟩:=(mem_wiT hon (by omega) (by omega) x).1 (mem_wiL.1 hx)
    exact ⟨vb,by omega,hw⟩
  · rintro ⟨vb,hb,hw⟩
    refine ⟨(vb / 16777216).toNat,List.mem_range.2 (by omega),mem_wiL.2 ((mem_wiT hon (by omega) (by omega) x).2 ⟨vb,by omega,hw⟩)⟩
end Go.Proofs.YtnjlajjjcmhfgaaGreatDoor
namespace Go.Proofs.YtnjlajjjcmhfgaaGreatDoor
open Go.RowKit
set_option linter.unusedVariables false
set_option linter.unusedSimpArgs false
theorem nanW_any (x:Int) (w:World):Calls Tryz.prog 136 #[.int .u32 x] w fun e w'=>e= .returned (.bool false)∧w=w':=by
  go_enter Tryz.func136,Tryz.ntmps136
  go_wp2
  go_ret
  exact ⟨by simp,rfl⟩
theorem nanI_any (x:Int) (w:World):Calls Tryz.prog 125 #[.int .i64 x] w fun e w'=>e= .returned (.bool false)∧w=w':=by
  go_enter Tryz.func125,Tryz.ntmps125
  go_wp2
  go_ret
  exact ⟨by simp,rfl⟩
theorem nanU_any (x:Int) (w:World):Calls Tryz.prog 137 #[.int .u64 x] w fun e w'=>e= .returned (.bool false)∧w=w':=by
  go_enter Tryz.func137,Tryz.ntmps137
  go_wp2
  go_ret
  exact ⟨by simp,rfl⟩
theorem cmpW_any (x y:Int) (w:World):Calls Tryz.prog 94 #[.int .u32 x,.int .u32 y] w fun e w'=>e= .returned (.int .i64 (Lib.compareInt x y))∧w=w':=by
  unfold Lib.compareInt
  have HN:=hidW nanW_any
  rcases (show x<y∨(¬x<y∧y<x)∨(¬x<y∧¬y<x) by omega) with h|⟨h,h2⟩|⟨h,h2⟩
  · rw [if_pos h]
    go_enter Tryz.func94,Tryz.ntmps94
    go_wp2_with (go_at_call 136; refine (HN.out _ _).mono ?_; rintro e w' ⟨rfl,rfl⟩)
    go_ret
    exact ⟨rfl,rfl⟩
  · rw [if_neg h,if_pos h2]
    go_enter Tryz.func94,Tryz.ntmps94
    go_wp2_with (go_at_call 136; refine (HN.out _ _).mono ?_; rintro e w' ⟨rfl,rfl⟩)
    go_ret
    exact ⟨rfl,rfl⟩
  · rw [if_neg h,if_neg h2]
    go_enter Tryz.func94,Tryz.ntmps94
    go_wp2_with (go_at_call 136; refine (HN.out _ _).mono ?_; rintro e w' ⟨rfl,rfl⟩)
    go_ret
    exact ⟨rfl,rfl⟩
theorem cmpI_any (x y:Int) (w:World):Calls Tryz.prog 86 #[.int .i64 x,.int .i64 y] w fun e w'=>e= .returned (.int .i64 (Lib.compareInt x y))∧w=w':=by
  unfold Lib.compareInt
  have HN:=hidW nanI_any
  rcases (show x<y∨(¬x<y∧y<x)∨(¬x<y∧¬y<x) by omega) with h|⟨h,h2⟩|⟨h,h2⟩
  · rw [if_pos h]
    go_enter Tryz.func86,Tryz.ntmps86
    go_wp2_with (go_at_call 125; refine (HN.out _ _).mono ?_; rintro e w' ⟨rfl,rfl⟩)
    go_ret
    exact ⟨rfl,rfl⟩
  · rw [if_neg h,if_pos h2]
    go_enter Tryz.func86,Tryz.ntmps86
    go_wp2_with (go_at_call 125; refine (HN.out _ _).mono ?_; rintro e w' ⟨rfl,rfl⟩)
    go_ret
    exact ⟨rfl,rfl⟩
  · rw [if_neg h,if_neg h2]
    go_enter Tryz.func86,Tryz.ntmps86
    go_wp2_with (go_at_call 125; refine (HN.out _ _).mono ?_; rintro e w' ⟨rfl,rfl⟩)
    go_ret
    exact ⟨rfl,rfl⟩
theorem cmpU_any (x y:Int) (w:World):Calls Tryz.prog 95 #[.int .u64 x,.int .u64 y] w fun e w'=>e= .returned (.int .i64 (Lib.compareInt x y))∧w=w':=by
  unfold Lib.compareInt
  have HN:=hidW nanU_any
  rcases (show x<y∨(¬x<y∧y<x)∨(¬x<y∧¬y<x) by omega) with h|⟨h,h2⟩|⟨h,h2⟩
  · rw [if_pos h]
    go_enter Tryz.func95,Tryz.ntmps95
    go_wp2_with (go_at_call 137; refine (HN.out _ _).mono ?_; rintro e w' ⟨rfl,rfl⟩)
    go_ret
    exact ⟨rfl,rfl⟩
  · rw [if_neg h,if_pos h2]
    go_enter Tryz.func95,Tryz.ntmps95
    go_wp2_with (go_at_call 137; refine (HN.out _ _).mono ?_; rintro e w' ⟨rfl,rfl⟩)
    go_ret
    exact ⟨rfl,rfl⟩
  · rw [if_neg h,if_neg h2]
    go_enter Tryz.func95,Tryz.ntmps95
    go_wp2_with (go_at_call 137; refine (HN.out _ _).mono ?_; rintro e w' ⟨rfl,rfl⟩)
    go_ret
    exact ⟨rfl,rfl⟩
theorem cmpB_any (x y:Bool) (w:World):Calls Tryz.prog 127 #[.bool x,.bool y] w fun e w'=>e= .returned (.int .i64 (Lib.compareInt (bI x) (bI y)))∧w=w':=by
  cases x <;>cases y
  all_goals
    go_enter Tryz.func127,Tryz.ntmps127
    go_wp2
    go_ret
    exact ⟨rfl,rfl⟩
def orL:List Int→Int
  | []=>0
  | a::l=>if a=0 then orL l else a
theorem orL_lex (a1 a2 a3 a4 a5 a6 a7 a8 b1 b2 b3 b4 b5 b6 b7 b8:Int) :
    orL [Lib.compareInt a1 b1,Lib.compareInt a2 b2,Lib.compareInt a3 b3,Lib.compareInt a4 b4,Lib.compareInt a5 b5,Lib.compareInt a6 b6,Lib.compareInt a7 b7,Lib.compareInt a8 b8]=lexC [a1,a2,a3,a4,a5,a6,a7,a8] [b1,b2,b3,b4,b5,b6,b7,b8]:=by
  simp only [orL,lexC]
theorem orL_drop {l:List Int} {k:Nat} (h:∀j,j<k→l[j]? =some 0∨l[j]? =none):orL l=orL (l.drop k):=by
  induction k generalizing l with
  | zero=>rfl
  | succ k ih =>
    cases l with
    | nil=>rfl
    | cons a l =>
      have h0:a=0:=by
        rcases h 0 (Nat.succ_pos _) with h|h
        · simpa using h
        · simp at h
      show (if a=0 then orL l else a)=_
      rw [if_pos h0,List.drop_succ_cons]
      refine ih (fun j hj=> ?_)
      have:=h (j+1) (by omega)
      simpa using this
set_option maxRecDepth 100000 in
theorem or_any (l:List Int) (g o cap:Nat) (w:World) (hl:l.length≤1000000) (hc:∀j x,l[j]? =some x→w.cell? ⟨g,o+j,none⟩=some (.int .i64 x)) :
    Calls Tryz.prog 85 #[.slice (some ⟨g,o,none⟩) l.length cap] w fun e w'=>e= .returned (.int .i64 (orL l))∧w=w':=by
  have HC:=hidW hc
  clear hc
  generalize hn:l.length=n at *
  go_enter Tryz.func85,Tryz.ntmps85
  go_wp2
  go_loopw [8] (fun i wr=>∃k:Nat,k≤n∧i= .int .i64 k∧Hid (w=wr)∧Hid (∀j,j<k→l[j]? =some 0)) (fun i _=>n-(intOf i).toNat)
  case atStart=>exact ⟨0,Nat.zero_le _,rfl,by first|exact hidW rfl|exact hidW trivial,hidW (fun j hj=>by omega)⟩
  case round =>
    obtain ⟨k,hk,rfl,HWW,HZ⟩:=hrel
    obtain rfl:w=wr:=HWW.out
    clear HWW
    have hz:=HZ.out
    by_cases hlt:k<n
    · obtain ⟨x,hx⟩:∃x,l[k]? =some x:=⟨_,List.getElem?_eq_getElem (by omega)⟩
      have d0:=HC.out k x hx
      have hkz:(k:Int)<(n:Int):=by omega
      by_cases h0:x=0
      · subst h0
        clear hz
        go_wp2
        go_roundw
        case rel =>
          refine ⟨k+1,by omega,by go_num,by first|exact hidW rfl|exact hidW trivial,hidW (fun j hj=> ?_)⟩
          rcases (show j<k∨j=k by omega) with h|rfl
          · exact HZ.out j h
          · exact hx
        case measure=>simp [intOf]; omega
      · have hxb:(x == 0)=false:=by simpa using h0
        have HR:Hid (orL l=x):=hidW (by
          rw [orL_drop (k:=k) (fun j hj=> .inl (hz j hj)),List.drop_eq_getElem_cons (by omega)]
          have:l[k]'(by omega)=x:=by
            have:=List.getElem?_eq_getElem (l:=l) (i:=k) (by omega)
            rw [hx] at this; injection this with this; exact this.symm
          rw [this]
          show (if x=0 then _ else x)=x
          rw [if_neg h0])
        clear hz h0 HZ
        go_wp2
        go_ret
        exact ⟨by rw [HR.out]; rfl,rfl⟩
    · obtain rfl:k=n:=by omega
      have HR:Hid (orL l=0):=hidW (by
        rw [orL_drop (k:=k) (fun j hj=> .inl (hz j hj)),List.drop_of_length_le (by omega)]; rfl)
      clear hz HZ
      go_wp2
      go_ret
      exact ⟨by rw [HR.out]; rfl,rfl⟩
end Go.Proofs.YtnjlajjjcmhfgaaGreatDoor

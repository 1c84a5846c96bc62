import Derived.Test.YtnjlajjjcmhfgaaGreatDoorTA27
import Derived.Test.YtnjlajjjcmhfgaaGreatDoorTA13
import Derived.Test.YtnjlajjjcmhfgaaGreatDoorTA19
import Derived.Deep.RegionHeld3
namespace Go.Proofs.YtnjlajjjcmhfgaaGreatDoor
open Go.RowKit
open Mm (Turn)
open Go.Maps (Keyed)
set_option linter.unusedVariables false
set_option linter.unusedSimpArgs false
def cZ:Ctx:=⟨false,false,false,0,false,false,0,0,0,0,0,0⟩
def jd (J:Jud) (a:Int):Ctx:=(J a).getD cZ
theorem held_inj {a b:Value} (h:(DataW.held a:DataW Value)= .held b):a=b:=by injection h
theorem jd_some {J:Jud} {a:Int} {c:Ctx} (h:J a=some c):jd J a=c:=by unfold jd; rw [h]; rfl
theorem jd_none {J:Jud} {a:Int} (h:J a=none):jd J a=cZ:=by unfold jd; rw [h]; rfl
theorem zeroC (w:World):(zeroValue 47).run Tryz.prog w= .ok (.agg #[.bool cZ.on,.bool cZ.tre,.bool cZ.afe,.int .i64 cZ.n,.bool cZ.pd0,.bool cZ.pd1,.int .u64 cZ.b0,.int .u64 cZ.b1,.int .u32 cZ.dacr,.int .u32 cZ.prrr,.int .u32 cZ.nmrr,.int .i64 cZ.asid]) w:=by kernel_rfl
theorem lJ_key (a:Int):WideAt.IsKeyLit (lJ a):=by unfold lJ; trivial
theorem lJ_inj {a b:Int} (h:lJ a=lJ b):a=b:=by unfold lJ at h; injection h
theorem keyJ {a:Int} (h1: -9223372036854775808≤a) (h2:a≤9223372036854775807):keyOf Tryz.prog 3 (.int .i64 a)=some (lJ a):=Maps.keyOf_int_mk Tryz.underlying3 (wf64 h1 h2)
def jdom (J:Jud):List Int:=((List.range 256).map fun (n:Nat)=>(n:Int)).filter fun a=>(J a).isSome
theorem mem_jdom {J:Jud} (hJ:JOk J) (a:Int):a∈jdom J↔∃c,J a=some c:=by
  unfold jdom
  rw [List.mem_filter,List.mem_map,Option.isSome_iff_exists]
  constructor
  · rintro ⟨_,h⟩; exact h
  · rintro ⟨c,hc⟩
    have:=(hJ a c hc).1
    exact ⟨⟨a.toNat,List.mem_range.2 (by omega),by omega⟩,c,hc⟩
theorem jdom_nodup (J:Jud):(jdom J).Nodup:=by
  unfold jdom
  refine List.Pairwise.filter _ ?_
  rw [List.pairwise_map]
  exact (List.pairwise_lt_range (n:=256)).imp (fun {a b} h e=>by omega)
theorem jdom_len (J:Jud):(jdom J).length≤256:=by
  have:=List.length_filter_le (fun a=>(J a).isSome) ((List.range 256).map fun (n:Nat)=>(n:Int))
  simpa [jdom] using this
theorem JM.dom {w:World} {jb:Nat} {J:Jud} (h:JM w jb J) (hJ:JOk J):∃D,w.ownsMap Tryz.prog 3 rH jb 256 D∧(∀l,Maps.has D l=true↔∃a c,J a=some c∧l=lJ a)∧(∀a c,J a=some c→∀z,D.atKey (lJ a) z= .held (.agg #[.bool c.on,.bool c.tre,.bool c.afe,.int .i64 c.n,.bool c.pd0,.bool c.pd1,.int .u64 c.b0,.int .u64 c.b1,.int .u32 c.dacr,.int .u32 c.prrr,.int .u32 c.nmrr,.int .i64 c.asid])):=by
  obtain ⟨n,D,h1,h2,h3⟩:=h
  have hs:=own_size (L:=jdom J) (f:=lJ) h1 lawI (jdom_nodup J) (fun a _ b _ e=>lJ_inj e) (fun l=>by
    rw [h2]
    constructor
    · rintro ⟨a,c,h,e⟩; exact ⟨a,(mem_jdom hJ a).2 ⟨c,h⟩,e⟩
    · rintro ⟨a,ha,e⟩
      obtain ⟨c,hc⟩:=(mem_jdom hJ a).1 ha
      exact ⟨a,c,hc,e⟩)
  have:=jdom_len J
  exact ⟨D,own_tight h1 (by omega),h2,h3⟩
theorem JM.put {w:World} {jb:Nat} {J:Jud} {a:Int} {c:Ctx} (h:JM w jb J) (hJ:JOk J) (ha:0≤a∧a≤255) :
    ∃w',(Instr.mapUpdate 116 (.map (some jb)) (.int .i64 a) (.agg #[.bool c.on,.bool c.tre,.bool c.afe,.int .i64 c.n,.bool c.pd0,.bool c.pd1,.int .u64 c.b0,.int .u64 c.b1,.int .u32 c.dacr,.int .u32 c.prrr,.int .u32 c.nmrr,.int .i64 c.asid])).run Tryz.prog w= .ok () w'∧JM w' jb (setJ J a c)∧w.grownBy w' (some jb):=by
  obtain ⟨D,h1,h2,h3⟩:=h.dom hJ
  obtain ⟨w',hr,ho,hg⟩:=h1.update lawI Tryz.underlying116 (by unfold maxLen; omega) (keyJ (a:=a) (by omega) (by omega)) (show rH (.agg #[.bool c.on,.bool c.tre,.bool c.afe,.int .i64 c.n,.bool c.pd0,.bool c.pd1,.int .u64 c.b0,.int .u64 c.b1,.int .u32 c.dacr,.int .u32 c.prrr,.int .u32 c.nmrr,.int .i64 c.asid])=some (.held (.agg #[.bool c.on,.bool c.tre,.bool c.afe,.int .i64 c.n,.bool c.pd0,.bool c.pd1,.int .u64 c.b0,.int .u64 c.b1,.int .u32 c.dacr,.int .u32 c.prrr,.int .u32 c.nmrr,.int .i64 c.asid]),[]) from rfl)
  refine ⟨w',hr,⟨_,_,ho,fun l=> ?_,fun x d hd z=> ?_⟩,hg⟩
  · by_cases e:l=lJ a
    · subst e
      rw [Maps.has_put_same h1.isMap (lJ_key a)]
      exact ⟨fun _=>⟨a,c,by simp [setJ],rfl⟩,fun _=>rfl⟩
    · rw [Maps.has_put_other e,h2]
      constructor
      · rintro ⟨x,d,hx,rfl⟩
        exact ⟨x,d,by unfold setJ; rw [if_neg (fun q=>e (by rw [q]))]; exact hx,rfl⟩
      · rintro ⟨x,d,hx,rfl⟩
        unfold setJ at hx
        rw [if_neg (fun q=>e (by rw [q]))] at hx
        exact ⟨x,d,hx,rfl⟩
  · unfold setJ at hd
    split at hd
    · rename_i e
      subst e
      cases hd
      exact Maps.atKey_put_same h1.isMap (lJ_key x) _ z
    · rename_i e
      rw [Maps.atKey_put_other (fun q=>e (lJ_inj q))]
      exact h3 x d hd z
theorem JM.look {w:World} {jb:Nat} {J:Jud} {a:Int} (h:JM w jb J) (h1: -9223372036854775808≤a) (h2:a≤9223372036854775807) :
    (Instr.lookup 116 (.map (some jb)) (.int .i64 a) true).run Tryz.prog w= .ok (.tuple #[.agg #[.bool ((jd J a)).on,.bool ((jd J a)).tre,.bool ((jd J a)).afe,.int .i64 ((jd J a)).n,.bool ((jd J a)).pd0,.bool ((jd J a)).pd1,.int .u64 ((jd J a)).b0,.int .u64 ((jd J a)).b1,.int .u32 ((jd J a)).dacr,.int .u32 ((jd J a)).prrr,.int .u32 ((jd J a)).nmrr,.int .i64 ((jd J a)).asid],.bool (J a).isSome]) w:=by
  obtain ⟨n,D,g1,g2,g3⟩:=h
  obtain ⟨v,ps,hr,hv⟩:=g1.look_ok lawI Tryz.underlying116 (zeroC w) (show rH (.agg #[.bool cZ.on,.bool cZ.tre,.bool cZ.afe,.int .i64 cZ.n,.bool cZ.pd0,.bool cZ.pd1,.int .u64 cZ.b0,.int .u64 cZ.b1,.int .u32 cZ.dacr,.int .u32 cZ.prrr,.int .u32 cZ.nmrr,.int .i64 cZ.asid])=some (.held (.agg #[.bool cZ.on,.bool cZ.tre,.bool cZ.afe,.int .i64 cZ.n,.bool cZ.pd0,.bool cZ.pd1,.int .u64 cZ.b0,.int .u64 cZ.b1,.int .u32 cZ.dacr,.int .u32 cZ.prrr,.int .u32 cZ.nmrr,.int .i64 cZ.asid]),[]) from rfl) (keyJ h1 h2)
  rw [hr]
  simp only [rH,Option.some.injEq,Prod.mk.injEq] at hv
  cases hj:J a with
  | some c =>
    rw [g3 a c hj] at hv
    have hv:=held_inj hv.1
    have hh:Maps.has D (lJ a)=true:=(g2 _).2 ⟨a,c,hj,rfl⟩
    rw [hh,hv,jd_some hj]
    rfl
  | none =>
    have hh:Maps.has D (lJ a)=false:=by
      cases hc:Maps.has D (lJ a) with
      | false=>rfl
      | true =>
        obtain ⟨x,d,hx,e⟩:=(g2 _).1 hc
        rw [←lJ_inj e,hj] at hx
        cases hx
    rw [Maps.atKey_of_not_has hh] at hv
    have hv:=held_inj hv.1
    rw [hh,hv,jd_none hj]
    rfl
theorem JM.get {w:World} {jb:Nat} {J:Jud} {a:Int} (h:JM w jb J) (h1: -9223372036854775808≤a) (h2:a≤9223372036854775807) :
    (Instr.lookup 116 (.map (some jb)) (.int .i64 a) false).run Tryz.prog w= .ok (.agg #[.bool ((jd J a)).on,.bool ((jd J a)).tre,.bool ((jd J a)).afe,.int .i64 ((jd J a)).n,.bool ((jd J a)).pd0,.bool ((jd J a)).pd1,.int .u64 ((jd J a)).b0,.int .u64 ((jd J a)).b1,.int .u32 ((jd J a)).dacr,.int .u32 ((jd J a)).prrr,.int .u32 ((jd J a)).nmrr,.int .i64 ((jd J a)).asid]) w:=by
  obtain ⟨n,D,g1,g2,g3⟩:=h
  obtain ⟨v,ps,hr,hv⟩:=g1.lookup lawI Tryz.underlying116 (zeroC w) (show rH (.agg #[.bool cZ.on,.bool cZ.tre,.bool cZ.afe,.int .i64 cZ.n,.bool cZ.pd0,.bool cZ.pd1,.int .u64 cZ.b0,.int .u64 cZ.b1,.int .u32 cZ.dacr,.int .u32 cZ.prrr,.int .u32 cZ.nmrr,.int .i64 cZ.asid])=some (.held (.agg #[.bool cZ.on,.bool cZ.tre,.bool cZ.afe,.int .i64 cZ.n,.bool cZ.pd0,.bool cZ.pd1,.int .u64 cZ.b0,.int .u64 cZ.b1,.int .u32 cZ.dacr,.int .u32 cZ.prrr,.int .u32 cZ.nmrr,.int .i64 cZ.asid]),[]) from rfl) (keyJ h1 h2)
  rw [hr]
  simp only [rH,Option.some.injEq,Prod.mk.injEq] at hv
  cases hj:J a with
  | some c =>
    rw [g3 a c hj] at hv
    have hv:=held_inj hv.1
    rw [hv,jd_some hj]
  | none =>
    have hh:Maps.has D (lJ a)=false:=by
      cases hc:Maps.has D (lJ a) with
      | false=>rfl
      | true =>
        obtain ⟨x,d,hx,e⟩:=(g2 _).1 hc
        rw [←lJ_inj e,hj] at hx
        cases hx
    rw [Maps.atKey_of_not_has hh] at hv
    have hv:=held_inj hv.1
    rw [hv,jd_none hj]
theorem JM.range {w:World} {jb:Nat} {J:Jud} (h:JM w jb J) (hJ:JOk J) :
    ∃w',(Instr.range 116 (.map (some jb))).run Tryz.prog w= .ok (.pointer (some ⟨w.heap.size,0,none⟩)) w'∧JR w' jb w.heap.size J (jdom J)∧w.grownBy w' none∧w'.heap.size=w.heap.size+1:=by
  obtain ⟨n,D,h1,h2,h3⟩:=h
  obtain ⟨w',hr,g1,g2,g3⟩:=h1.range lawI Tryz.underlying116
  refine ⟨w',hr,⟨n,D,_,_,g1,h2,h3,fun l=> ?_⟩,g2,g3⟩
  rw [h2]
  constructor
  · rintro ⟨a,c,h,e⟩; exact ⟨a,(mem_jdom hJ a).2 ⟨c,h⟩,e⟩
  · rintro ⟨a,ha,e⟩
    obtain ⟨c,hc⟩:=(mem_jdom hJ a).1 ha
    exact ⟨a,c,hc,e⟩
def rmI (T:List Int) (a:Int):List Int:=T.filter fun x=> !(x == a)
theorem mem_rmI {T:List Int} {a x:Int}:x∈rmI T a↔x∈T∧x≠a:=by simp [rmI,List.mem_filter]
theorem JR.next {w:World} {jb r:Nat} {J:Jud} {T:List Int} (h:JR w jb r J T) (hJ:JOk J) (hT:∀a∈T,∃c,J a=some c) (ty:TypeId) :
    (T=[]∧(Instr.next (.pointer (some ⟨r,0,none⟩)) false ty).run Tryz.prog w= .ok (.tuple #[.bool false]) w)∨
    ∃a w',a∈T∧(Instr.next (.pointer (some ⟨r,0,none⟩)) false ty).run Tryz.prog w= .ok (.tuple #[.bool true,.int .i64 a,.agg #[.bool ((jd J a)).on,.bool ((jd J a)).tre,.bool ((jd J a)).afe,.int .i64 ((jd J a)).n,.bool ((jd J a)).pd0,.bool ((jd J a)).pd1,.int .u64 ((jd J a)).b0,.int .u64 ((jd J a)).b1,.int .u32 ((jd J a)).dacr,.int .u32 ((jd J a)).prrr,.int .u32 ((jd J a)).nmrr,.int .i64 ((jd J a)).asid]]) w'∧JR w' jb r J (rmI T a)∧w.grownBy w' (some r)∧w'.heap.size=w.heap.size∧
      (Instr.entry (.pointer (some ⟨r,0,none⟩))).run Tryz.prog w'= .ok (.tuple #[.int .i64 a,.agg #[.bool ((jd J a)).on,.bool ((jd J a)).tre,.bool ((jd J a)).afe,.int .i64 ((jd J a)).n,.bool ((jd J a)).pd0,.bool ((jd J a)).pd1,.int .u64 ((jd J a)).b0,.int .u64 ((jd J a)).b1,.int .u32 ((jd J a)).dacr,.int .u32 ((jd J a)).prrr,.int .u32 ((jd J a)).nmrr,.int .i64 ((jd J a)).asid]]) w'∧w'.rangeLeft jb r<w.rangeLeft jb r:=by
  obtain ⟨n,D,left,cnt,h1,h2,h3,h4⟩:=h
  rcases h1.next lawI ty with ⟨_,hl,hr⟩|⟨key,v,kl,y,w',cnt',hkey,hlk,hv,hat,hr,hrg,hlt,hg,hs,hen⟩
  · refine .inl ⟨?_,hr⟩
    cases T with
    | nil=>rfl
    | cons a T =>
      have:=(h4 (lJ a)).2 ⟨a,.head _,rfl⟩
      rw [hl] at this
      cases this
  · obtain ⟨a,ha,rfl⟩:=(h4 kl).1 hlk
    obtain ⟨c,hc⟩:=hT a ha
    have hb:=(hJ a c hc).1
    have e:=lawI.inj hkey (keyJ (a:=a) (by omega) (by omega))
    subst e
    have e2:v= .agg #[.bool ((jd J a)).on,.bool ((jd J a)).tre,.bool ((jd J a)).afe,.int .i64 ((jd J a)).n,.bool ((jd J a)).pd0,.bool ((jd J a)).pd1,.int .u64 ((jd J a)).b0,.int .u64 ((jd J a)).b1,.int .u32 ((jd J a)).dacr,.int .u32 ((jd J a)).prrr,.int .u32 ((jd J a)).nmrr,.int .i64 ((jd J a)).asid]:=by
      have h5:=h3 a c hc .nil
      rw [hat] at h5
      simp only [rH,Option.some.injEq] at hv
      rw [←hv] at h5
      have h5:=held_inj h5
      rw [h5,jd_some hc]
    subst e2
    refine .inr ⟨a,w',ha,hr,⟨n,D,_,_,hrg,h2,h3,fun l=> ?_⟩,hg,hs,hen,?_⟩
    · rw [Bool.and_eq_true,h4]
      constructor
      · rintro ⟨⟨x,hx,rfl⟩,hne⟩
        refine ⟨x,mem_rmI.2 ⟨hx,?_⟩,rfl⟩
        rintro rfl
        rw [WideAt.sameKey_self (lJ_key x)] at hne
        cases hne
      · rintro ⟨x,hx,rfl⟩
        obtain ⟨g1,g2⟩:=mem_rmI.1 hx
        refine ⟨⟨x,g1,rfl⟩,?_⟩
        rw [Maps.sameKey_ne (fun e=>g2 (lJ_inj e))]
        rfl
    · rw [hrg.left_eq,h1.left_eq]
      exact hlt
structure PK (w:World) (p kb jb:Nat) (K:List Blo) (J:Jud):Prop where
  box:Bl w p 118 [.map (some kb),.map (some jb)]
  km:KM w kb K
  jm:JM w jb J
  ne:kb≠jb
  ok:TrOk K J
section
variable {w w':World} {p kb jb:Nat} {K:List Blo} {J:Jud} {X:Nat→Prop}
theorem PK.nek (h:PK w p kb jb K J):p≠kb:=by
  rintro rfl
  obtain ⟨n,D,⟨es,cl,hb,_⟩,_⟩:=h.km
  have:=h.box
  rw [show w.heap[p]? =_ from this] at hb
  cases hb
theorem PK.nej (h:PK w p kb jb K J):p≠jb:=by
  rintro rfl
  obtain ⟨n,D,⟨es,cl,hb,_⟩,_⟩:=h.jm
  have:=h.box
  rw [show w.heap[p]? =_ from this] at hb
  cases hb
theorem PK.turn (h:PK w p kb jb K J) (T:Turn X w w') (h1:¬X p) (h2:¬X kb) (h3:¬X jb):PK w' p kb jb K J:=⟨h.box.turn T h1,h.km.turn T h2,h.jm.turn T h3,h.ne,h.ok⟩
theorem PK.below (h:PK w p kb jb K J) (hb:Below w.heap.size w w'):PK w' p kb jb K J:=h.turn (X:=fun _=>False) (Turn.below hb) (fun h=>h) (fun h=>h) (fun h=>h)
theorem PK.lt (h:PK w p kb jb K J):p<w.heap.size∧kb<w.heap.size∧jb<w.heap.size:=⟨h.box.lt,h.km.lt,h.jm.lt⟩
theorem PK.c0 (h:PK w p kb jb K J):w.cell? ⟨p,0,none⟩=some (.map (some kb)):=h.box.cell 0
theorem PK.c1 (h:PK w p kb jb K J):w.cell? ⟨p,1,none⟩=some (.map (some jb)):=h.box.cell 1
end
set_option maxHeartbeats 1000000 in
theorem knew_any (w:World):Calls Tryz.prog 40 #[] w fun e w'=>e= .returned (.pointer (some ⟨w.heap.size+2,0,none⟩))∧PK w' (w.heap.size+2) w.heap.size (w.heap.size+1) [] (fun _=>none)∧Below w.heap.size w w':=by
  have hmm:=@run_makeMap Tryz.prog
  have H1:=hidW (KM.made w)
  have H2:Hid (JM ((w.alloc (.map #[] 0)).alloc (.map #[] 0)) (w.heap.size+1) (fun _=>none)):=by
    have h:=JM.made (w.alloc (.map #[] 0))
    rw [show (w.alloc (.map #[] 0)).heap.size=w.heap.size+1 by simp] at h
    exact h
  have H3:Hid (Bl (((w.alloc (.map #[] 0)).alloc (.map #[] 0)).alloc (.cells #[.map (some w.heap.size),.map (some (w.heap.size+1))] 118)) (w.heap.size+2) 118 [.map (some w.heap.size),.map (some (w.heap.size+1))]):=by
    have h:=Bl.new ((w.alloc (.map #[] 0)).alloc (.map #[] 0)) 118 [.map (some w.heap.size),.map (some (w.heap.size+1))]
    rw [show ((w.alloc (.map #[] 0)).alloc (.map #[] 0)).heap.size=w.heap.size+2 by simp] at h
    exact h
  go_enter Tryz.func40,Tryz.ntmps40
  go_wp2
  go_ret
  refine ⟨rfl,⟨H3.out,?_,?_,by omega,TrOk.nil⟩,?_⟩
  · exact (H1.out.turn (X:=fun _=>False) (Turn.below (below_new _ _)) (fun h=>h)).turn (X:=fun _=>False) (Turn.below (below_new _ _)) (fun h=>h)
  · exact H2.out.turn (X:=fun _=>False) (Turn.below (below_new _ _)) (fun h=>h)
  · exact Below.step (Below.step (below_new _ _) (below_new _ _)) (below_new _ _)
set_option maxHeartbeats 1000000 in
theorem blockOf_any (t:Tra) (a:Int) (w:World):Calls Tryz.prog 56 #[.agg #[.int .i64 t.size,.int .u32 t.va,.int .u64 t.pa,.int .i64 t.dom,.int .i64 t.ap,.int .u32 t.bits,.bool t.ng,.bool t.xn],.int .i64 a] w fun e w'=>e= .returned (.agg #[.int .i64 ((tgB a t)).asid,.int .i64 ((tgB a t)).t.size,.int .u32 ((tgB a t)).t.va,.int .u64 ((tgB a t)).t.pa,.int .i64 ((tgB a t)).t.dom,.int .i64 ((tgB a t)).t.ap,.int .u32 ((tgB a t)).t.bits,.bool ((tgB a t)).t.ng,.bool ((tgB a t)).t.xn])∧Below w.heap.size w w':=by
  obtain ⟨t1,t2,t3,t4,t5,t6,t7,t8⟩:=t
  cases t7
  all_goals
    go_enter Tryz.func56,Tryz.ntmps56
    go_wp2
    refine bodyPost_ret (by simp [results,Tryz.results56,go_sem]; rfl) rfl ⟨by simp [tgB],?_⟩
    (repeat (first|refine Below.setCell ?_ (by simp) _|refine Below.alloc ?_ (by simp) _)); exact Below.refl _ _
end Go.Proofs.YtnjlajjjcmhfgaaGreatDoor
namespace Go.Proofs.YtnjlajjjcmhfgaaGreatDoor
open Go.RowKit
open Mm (Turn)
set_option linter.unusedVariables false
set_option linter.unusedSimpArgs false
def Nt (w:World) (x:Nat):Prop:=∀k i,w.cell? ⟨x,0,none⟩≠some (.int k i)
theorem Tb.turnM {k:IntKind} {S:Nat→Prop} {w w':World} {g:Nat} {a:Int} {l:List Int} (h:Tb k w g (a::l)) (hT:Turn S w w') (hS:∀x,S x→x<w.heap.size→Nt w x):Tb k w' g (a::l):=by
  have h0:=h 0 a rfl
  have hlt:=cell_lt h0
  have hn:¬S g:=fun hs=>hS g hs hlt _ _ h0
  intro i v hv
  rw [←h i v hv,World.cell?,World.cell?,hT.block g hlt hn]
theorem TR.turnM {S:Nat→Prop} {w w':World} (h:TR w) (hT:Turn S w w') (hS:∀x,S x→x<w.heap.size→Nt w x):TR w' :=
  ⟨⟨⟨⟨Tb.turnM h.first hT hS,Tb.turnM h.second hT hS,Tb.turnM h.base hT hS,Tb.turnM h.leaf hT hS⟩,Tb.turnM h.tags hT hS⟩,Tb.turnM h.size hT hS⟩,Tb.turnM h.kind hT hS⟩
theorem TS.turnM {S:Nat→Prop} {w w':World} (h:TS w) (hT:Turn S w w') (hS:∀x,S x→x<w.heap.size→Nt w x):TS w' :=
  ⟨h.r.turnM hT hS,⟨Tb.turnM h.z.base hT hS,Tb.turnM h.z.kind hT hS,Tb.turnM h.z.rep hT hS⟩⟩
theorem KM.nt {w:World} {kb:Nat} {K:List Blo} (h:KM w kb K):Nt w kb:=by
  obtain ⟨n,D,⟨es,cl,hb,_⟩,_⟩:=h
  intro k i e
  simp [World.cell?,hb] at e
theorem JM.nt {w:World} {jb:Nat} {J:Jud} (h:JM w jb J):Nt w jb:=by
  obtain ⟨n,D,⟨es,cl,hb,_⟩,_⟩:=h
  intro k i e
  simp [World.cell?,hb] at e
theorem rm_perm {b:Blo}:∀ {T:List Blo},T.Nodup→b∈T→T.Perm (b::rm T b)
  | [],_,h=>by cases h
  | x::T,hn,h=>by
    have h1:=List.pairwise_cons.1 hn
    by_cases e:x=b
    · subst e
      have:rm (x::T) x=T:=by
        unfold rm
        rw [List.filter_cons,Blo.same_self]
        simp only [Bool.not_true,Bool.false_eq_true,if_false]
        refine List.filter_eq_self.2 (fun y hy=> ?_)
        cases hc:y.same x with
        | false=>rfl
        | true=>exact absurd ((Blo.same_iff _ _).1 hc).symm (h1.1 y hy)
      rw [this]
    · have hb:b∈T:=by
        rcases List.mem_cons.1 h with h|h
        · exact absurd h.symm e
        · exact h
      have ih:=rm_perm h1.2 hb
      have:rm (x::T) b=x::rm T b:=by
        unfold rm
        rw [List.filter_cons]
        have:x.same b=false:=by
          cases hc:x.same b with
          | false=>rfl
          | true=>exact absurd ((Blo.same_iff _ _).1 hc) e
        rw [this]
        rfl
      rw [this]
      exact (ih.cons x).trans (List.Perm.swap _ _ _)
theorem rm_nodup {T:List Blo} (h:T.Nodup) (b:Blo):(rm T b).Nodup:=List.Pairwise.filter _ h
def inT (T:List Blo) (x:Blo):Bool:=T.any fun y=>y.same x
theorem inT_iff {T:List Blo} {x:Blo}:inT T x=true↔x∈T:=by
  unfold inT
  rw [List.any_eq_true]
  constructor
  · rintro ⟨y,hy,e⟩
    rw [←(Blo.same_iff _ _).1 e]
    exact hy
  · intro h
    exact ⟨x,h,Blo.same_self x⟩
def cuD (d:Dro) (K T:List Blo):List Blo:=K.filter fun x=> !tkF d x || inT T x
theorem cuD_all (d:Dro) (K:List Blo):cuD d K K=K:=List.filter_eq_self.2 (fun x hx=>by rw [inT_iff.2 hx]; simp)
theorem cuD_none (d:Dro) (K:List Blo):cuD d K []=drK d K:=by
  unfold cuD drK
  exact List.filter_congr (fun x _=>by simp [inT])
theorem inT_rm {T:List Blo} {b x:Blo}:inT (rm T b) x=(inT T x && !x.same b):=by
  rw [Bool.eq_iff_iff,inT_iff,mem_rm,Bool.and_eq_true,inT_iff]
  constructor
  · rintro ⟨h1,h2⟩
    refine ⟨h1,?_⟩
    cases hc:x.same b with
    | false=>rfl
    | true=>exact absurd ((Blo.same_iff _ _).1 hc) h2
  · rintro ⟨h1,h2⟩
    exact ⟨h1,fun e=>by rw [e,Blo.same_self] at h2; cases h2⟩
theorem cuD_take {d:Dro} {K T:List Blo} {b:Blo} (h:tkF d b=true):rm (cuD d K T) b=cuD d K (rm T b):=by
  unfold rm cuD
  rw [List.filter_filter]
  refine List.filter_congr (fun x _=> ?_)
  rw [show (List.filter (fun x=> !x.same b) T)=rm T b from rfl,inT_rm]
  cases hs:x.same b with
  | true =>
    have:=(Blo.same_iff _ _).1 hs
    subst this
    simp [h]
  | false=>simp
theorem cuD_leave {d:Dro} {K T:List Blo} {b:Blo} (h:tkF d b=false):cuD d K T=cuD d K (rm T b):=by
  unfold cuD
  refine List.filter_congr (fun x _=> ?_)
  rw [inT_rm]
  cases hs:x.same b with
  | true =>
    have:=(Blo.same_iff _ _).1 hs
    subst this
    simp [h]
  | false=>simp
theorem count_rm {d:Dro} {T:List Blo} {b:Blo} (hn:T.Nodup) (hb:b∈T):T.countP (tkF d)=(rm T b).countP (tkF d)+(if tkF d b=true then 1 else 0):=by
  rw [(rm_perm hn hb).countP_eq,List.countP_cons]
structure DX (W wr:World) (p kb jb r bd:Nat) (K T:List Blo) (J:Jud) (d:Dro) (c:Nat):Prop where
  trn:Turn (· =kb) W wr
  box:Bl wr p 118 [.map (some kb),.map (some jb)]
  kr:KR wr kb r (cuD d K T) T
  jm:JM wr jb J
  bd:Bl wr bd 34 ([.int .i64 d.kind,.int .u32 d.va,.int .i64 d.asid])
  tr:TR wr
  sub:∀b∈T,b∈K
  nod:T.Nodup
  cnt:c+T.countP (tkF d)=K.countP (tkF d)
section
variable {W wr w':World} {p kb jb r bd:Nat} {K T:List Blo} {J:Jud} {d:Dro} {c:Nat}
end
end Go.Proofs.YtnjlajjjcmhfgaaGreatDoor
namespace Go.Proofs.YtnjlajjjcmhfgaaGreatDoor
open Go.RowKit
open Mm (Turn)
set_option linter.unusedVariables false
set_option linter.unusedSimpArgs false
theorem DX.next {W wr w':World} {p kb jb r bd:Nat} {K T:List Blo} {J:Jud} {d:Dro} {c:Nat} {b:Blo} (h:DX W wr p kb jb r bd K T J d c) (hr:W.heap.size≤r) (hg:wr.grownBy w' (some r)) (hk:KR w' kb r (cuD d K T) (rm T b)) (hp:p≠r) (hj:jb≠r) (hd:bd≠r) (hR:Nt wr r) :
    Turn (· =kb) W w'∧Bl w' p 118 [.map (some kb),.map (some jb)]∧JM w' jb J∧Bl w' bd 34 ([.int .i64 d.kind,.int .u32 d.va,.int .i64 d.asid])∧TR w':=by
  have T1:Turn (· =r) wr w':=Turn.grown hg (fun k e=>by cases e; exact .inl rfl)
  refine ⟨h.trn.trans T1 (fun x hx=> .inr (by omega)),h.box.turn T1 hp,h.jm.turn T1 hj,h.bd.turn T1 hd,h.tr.turnM T1 (fun x hx _=>by subst hx; exact hR)⟩
theorem KR.nt {w:World} {kb r:Nat} {K T:List Blo} (h:KR w kb r K T):Nt w r∧(∀c e f,w.heap[r]?≠some (.cells c e f))∧∀es cl,w.heap[r]?≠some (.map es cl):=by
  obtain ⟨n,D,left,cnt,⟨es,cl,since,seen,c0,hb,f,s,d,hi,rest⟩,h2⟩:=h
  refine ⟨fun k i e=> ?_,fun c e f h=> ?_,fun es cl h=> ?_⟩
  · simp [World.cell?,hi] at e
  · rw [hi] at h; cases h
  · rw [hi] at h; cases h
theorem Bl.nr {w:World} {kb r b:Nat} {K T:List Blo} {t:TypeId} {l:List Value} (h:KR w kb r K T) (hb:Bl w b t l):b≠r:=by
  rintro rfl
  exact h.nt.2.1 _ _ _ hb
theorem JM.nr {w:World} {kb r jb:Nat} {K T:List Blo} {J:Jud} (h:KR w kb r K T) (hj:JM w jb J):jb≠r:=by
  rintro rfl
  obtain ⟨n,D,⟨es,cl,hb,_⟩,_⟩:=hj
  exact h.nt.2.2 _ _ hb
structure DY (W wr:World) (p kb jb r bd bb:Nat) (K T:List Blo) (J:Jud) (d:Dro) (c:Nat) (b:Blo):Prop where
  trn:Turn (· =kb) W wr
  box:Bl wr p 118 [.map (some kb),.map (some jb)]
  kr:KR wr kb r (cuD d K T) (rm T b)
  jm:JM wr jb J
  bd:Bl wr bd 34 ([.int .i64 d.kind,.int .u32 d.va,.int .i64 d.asid])
  bb:Bl wr bb 45 ([.int .i64 b.asid,.int .i64 b.t.size,.int .u32 b.t.va,.int .u64 b.t.pa,.int .i64 b.t.dom,.int .i64 b.t.ap,.int .u32 b.t.bits,.bool b.t.ng,.bool b.t.xn])
  tr:TR wr
  sub:∀b∈T,b∈K
  nod:T.Nodup
  mem:b∈T
  cnt:c+T.countP (tkF d)=K.countP (tkF d)
section
variable {W wr w':World} {p kb jb r bd bb:Nat} {K T:List Blo} {J:Jud} {d:Dro} {c:Nat} {b:Blo}
theorem DY.below (h:DY W wr p kb jb r bd bb K T J d c b) (hb:Below wr.heap.size wr w'):DY W w' p kb jb r bd bb K T J d c b :=
  ⟨h.trn.then (Turn.below hb),h.box.below hb,h.kr.turn (X:=fun _=>False) (Turn.below hb) (fun h=>h) (fun h=>h),h.jm.turn (X:=fun _=>False) (Turn.below hb) (fun h=>h),h.bd.below hb,h.bb.below hb,h.tr.below hb,h.sub,h.nod,h.mem,h.cnt⟩
theorem DY.left (h:DY W wr p kb jb r bd bb K T J d c b) (hb:Below wr.heap.size wr w'):w'.rangeLeft kb r=wr.rangeLeft kb r:=turn_left (X:=fun _=>False) (Turn.below hb) h.kr.lt.2 h.kr.lt.1 (fun h=>h) (fun h=>h)
theorem DY.leave (h:DY W wr p kb jb r bd bb K T J d c b) (hf:tkF d b=false):DX W wr p kb jb r bd K (rm T b) J d c:=by
  have h1:=count_rm (d:=d) h.nod h.mem
  have h2:=h.cnt
  rw [hf] at h1
  refine ⟨h.trn,h.box,?_,h.jm,h.bd,h.tr,fun x hx=>h.sub x (mem_rm.1 hx).1,rm_nodup h.nod b,by simp at h1; omega⟩
  rw [←cuD_leave hf]
  exact h.kr
theorem rm_rm (T:List Blo) (b:Blo):rm (rm T b) b=rm T b:=by
  unfold rm
  rw [List.filter_filter]
  exact List.filter_congr (fun x _=>by simp)
theorem DY.take (h:DY W wr p kb jb r bd bb K T J d c b) (hf:tkF d b=true) (hK:∀x∈K,KOk x) (hp:p≠kb) (hj:kb≠jb) (ty:TypeId) :
    ∃w',(Builtin.delete_ #[115,45] ty #[.map (some kb),.agg #[.int .i64 b.asid,.int .i64 b.t.size,.int .u32 b.t.va,.int .u64 b.t.pa,.int .i64 b.t.dom,.int .i64 b.t.ap,.int .u32 b.t.bits,.bool b.t.ng,.bool b.t.xn]]).run Tryz.prog wr= .ok (.tuple #[]) w'∧DX W w' p kb jb r bd K (rm T b) J d (c+1)∧Bl w' bb 45 ([.int .i64 b.asid,.int .i64 b.t.size,.int .u32 b.t.va,.int .u64 b.t.pa,.int .i64 b.t.dom,.int .i64 b.t.ap,.int .u32 b.t.bits,.bool b.t.ng,.bool b.t.xn])∧w'.rangeLeft kb r≤wr.rangeLeft kb r:=by
  have h1:=count_rm (d:=d) h.nod h.mem
  have h2:=h.cnt
  rw [hf] at h1
  obtain ⟨w',hr,hk,hg,hl⟩:=h.kr.drop (b:=b) (fun x hx=>hK x (List.mem_filter.1 hx).1) (fun x hx=>hK x (h.sub x (mem_rm.1 hx).1)) (hK b (h.sub b h.mem)) ty
  have T1:Turn (· =kb) wr w':=Turn.grown hg (fun k e=>by cases e; exact .inl rfl)
  have hn:Nt wr kb:=h.kr.km.nt
  have hbk:∀ {x:Nat} {t:TypeId} {l:List Value},Bl wr x t l→x≠kb:=by
    rintro x t l hx rfl
    obtain ⟨n,D,⟨es,cl,hb,_⟩,_⟩:=h.kr.km
    rw [show wr.heap[x]? =_ from hx] at hb
    cases hb
  refine ⟨w',hr,⟨h.trn.then T1,h.box.turn T1 hp,?_,h.jm.turn T1 (fun e=>hj e.symm),h.bd.turn T1 (hbk h.bd),h.tr.turnM T1 (fun x hx _=>by subst hx; exact hn),fun x hx=>h.sub x (mem_rm.1 hx).1,rm_nodup h.nod b,by simp at h1; omega⟩,h.bb.turn T1 (hbk h.bb),hl⟩
  rw [cuD_take hf,rm_rm] at hk
  exact hk
end
set_option maxRecDepth 100000 in
set_option maxHeartbeats 4000000 in
theorem drop_any (W:World) (p kb jb:Nat) (K:List Blo) (J:Jud) (d:Dro) (h:PK W p kb jb K J) (ht:TR W) (hd:0≤d.va∧d.va<4294967296) (hl:K.length≤4611686018427387904) :
    Calls Tryz.prog 25 #[.pointer (some ⟨p,0,none⟩),.agg #[.int .i64 d.kind,.int .u32 d.va,.int .i64 d.asid]] W fun e w'=>e= .returned (.int .i64 (K.countP (tkF d):Nat))∧PK w' p kb jb (drK d K) J∧Turn (· =kb) W w'∧TR w':=by
  have hb0:=below_new W (.cells ([.int .i64 d.kind,.int .u32 d.va,.int .i64 d.asid]).toArray 34)
  have h0:=h.below hb0
  obtain ⟨w2,hr2,hk2,hg2,hs2⟩:=h0.km.range
  have T2:Turn (fun _=>False) (W.alloc (.cells ([.int .i64 d.kind,.int .u32 d.va,.int .i64 d.asid]).toArray 34)) w2:=Turn.grown hg2 (fun k e=>by cases e)
  have c0:=h0.c0
  have hW:W.heap.size<(W.alloc (.cells ([.int .i64 d.kind,.int .u32 d.va,.int .i64 d.asid]).toArray 34)).heap.size:=by simp
  have HX:Hid (DX W w2 p kb jb (W.alloc (.cells ([.int .i64 d.kind,.int .u32 d.va,.int .i64 d.asid]).toArray 34)).heap.size W.heap.size K K J d 0):=by
    refine ⟨(Turn.below hb0).trans (S:=(· =kb)) T2 (fun x hx=>hx.elim),h0.box.turn T2 (fun h=>h),?_,h0.jm.turn T2 (fun h=>h),(Bl.new W _ _).turn T2 (fun h=>h),(ht.below hb0).turnM T2 (fun x hx=>hx.elim),fun b hb=>hb,h.ok.ri.nodup,by omega⟩
    rw [cuD_all]
    exact hk2
  have HO:=hidW h.ok
  have HN:=hidW h.ne
  have HP:=hidW h.nek
  have HLT:=hidW h.lt
  have hcl:K.countP (tkF d)≤K.length:=List.countP_le_length
  clear h h0 hk2 hg2 ht hb0 T2
  generalize hrr:(W.alloc (.cells ([.int .i64 d.kind,.int .u32 d.va,.int .i64 d.asid]).toArray 34)).heap.size=r at *
  have hrW:W.heap.size≤r:=by omega
  go_enter Tryz.func25,Tryz.ntmps25
  go_wp2
  clear hr2 c0 hs2 hW hrr
  go_loopw [5] (fun n wr=>∃(T:List Blo) (c:Nat),n= .int .i64 c∧Hid (DX W wr p kb jb r W.heap.size K T J d c)) (fun _ wr=>wr.rangeLeft kb r)
  case atStart=>exact ⟨K,0,rfl,HX⟩
  case round =>
    obtain ⟨T,c,rfl,HX1⟩:=hrel
    clear HX
    have hTo:∀x∈T,KOk x:=fun x hx=>HO.out.ok x (HX1.out.sub x hx)
    have hKo:∀x∈cuD d K T,KOk x:=fun x hx=>HO.out.ok x (List.mem_filter.1 hx).1
    have hcc:=HX1.out.cnt
    rcases HX1.out.kr.next hTo 0 with ⟨rfl,hnx⟩|⟨b,w1,hb,hnx,hk1,hg1,hs1,hen,hlt⟩
    · go_wp2
      go_ret
      have hx:=HX1.out
      refine ⟨by simp at hcc; rw [hcc]; rfl,⟨hx.box,?_,hx.jm,HN.out,HO.out.drop d⟩,hx.trn,hx.tr⟩
      rw [←cuD_none]
      exact hx.kr.km
    · obtain ⟨hT1,hB1,hJ1,hD1,hR1⟩:=HX1.out.next hrW hg1 hk1 (Bl.nr HX1.out.kr HX1.out.box) (JM.nr HX1.out.kr HX1.out.jm) (Bl.nr HX1.out.kr HX1.out.bd) HX1.out.kr.nt.1
      have hbo:=hTo b hb
      have hbn:=below_new w1 (.cells ([.int .i64 b.asid,.int .i64 b.t.size,.int .u32 b.t.va,.int .u64 b.t.pa,.int .i64 b.t.dom,.int .i64 b.t.ap,.int .u32 b.t.bits,.bool b.t.ng,.bool b.t.xn]).toArray 45)
      have HY:Hid (DY W (w1.alloc (.cells ([.int .i64 b.asid,.int .i64 b.t.size,.int .u32 b.t.va,.int .u64 b.t.pa,.int .i64 b.t.dom,.int .i64 b.t.ap,.int .u32 b.t.bits,.bool b.t.ng,.bool b.t.xn]).toArray 45)) p kb jb r W.heap.size w1.heap.size K T J d c b) :=
        ⟨hT1.then (Turn.below hbn),hB1.below hbn,hk1.turn (X:=fun _=>False) (Turn.below hbn) (fun h=>h) (fun h=>h),hJ1.turn (X:=fun _=>False) (Turn.below hbn) (fun h=>h),hD1.below hbn,Bl.new w1 _ _,hR1.below hbn,HX1.out.sub,HX1.out.nod,hb,HX1.out.cnt⟩
      have HL:Hid ((w1.alloc (.cells ([.int .i64 b.asid,.int .i64 b.t.size,.int .u32 b.t.va,.int .u64 b.t.pa,.int .i64 b.t.dom,.int .i64 b.t.ap,.int .u32 b.t.bits,.bool b.t.ng,.bool b.t.xn]).toArray 45)).rangeLeft kb r<wr.rangeLeft kb r):=by
        have:(w1.alloc (.cells ([.int .i64 b.asid,.int .i64 b.t.size,.int .u32 b.t.va,.int .u64 b.t.pa,.int .i64 b.t.dom,.int .i64 b.t.ap,.int .u32 b.t.bits,.bool b.t.ng,.bool b.t.xn]).toArray 45)).rangeLeft kb r=w1.rangeLeft kb r:=turn_left (X:=fun _=>False) (Turn.below hbn) hk1.lt.2 hk1.lt.1 (fun h=>h) (fun h=>h)
        exact this▸hlt
      have HT:=hidW (fun ww hw=>takes_any d b ww hw hbo.ok hd)
      have HKo:=hidW HO.out.ok
      have cD:=HY.out.bd.cell
      have cB:=HY.out.bb.cell
      have hcl2:(c:Int)≤4611686018427387904:=by omega
      have hcl3:(0:Int)≤c:=by omega
      clear hT1 hB1 hJ1 hD1 hR1 hk1 hg1 hlt hbn HX1 hbo hcc hKo hTo hb hs1
      go_wp2_with fail
      go_at_call 12
      refine (HT.out _ HY.out.tr).mono ?_
      rintro e w3 ⟨rfl,hb3⟩
      have HY3:=hidW (HY.out.below hb3)
      have HL3:Hid (w3.rangeLeft kb r<wr.rangeLeft kb r):=by
        have:=HY.out.left hb3
        have h2:=HL.out
        show w3.rangeLeft kb r<wr.rangeLeft kb r
        omega
      clear hnx hen cD cB hb3 HY HL HT
      cases htk:tkF d b
      · go_wp2
        go_roundw
        case rel=>exact ⟨rm T b,c,rfl,HY3.out.leave htk⟩
        case measure=>exact HL3.out
      · have HY4:Hid (DY W w3.drew p kb jb r W.heap.size w1.heap.size K T J d c b):=HY3.out.below (below_drew (Below.refl _ w3))
        obtain ⟨w6,hdel,hx6,hb6,hl6⟩:=HY4.out.take htk HKo.out HP.out HN.out 0
        have hL4:w3.drew.rangeLeft kb r=w3.rangeLeft kb r:=rfl
        have K1:Hid (w3.drew.cell? ⟨p,0,none⟩=some (.map (some kb))∧w3.drew.cell? ⟨w1.heap.size,0,none⟩=some (.int .i64 b.asid)∧w3.drew.cell? ⟨w1.heap.size,1,none⟩=some (.int .i64 b.t.size)∧w3.drew.cell? ⟨w1.heap.size,2,none⟩=some (.int .u32 b.t.va)∧w3.drew.cell? ⟨w1.heap.size,3,none⟩=some (.int .u64 b.t.pa)∧w3.drew.cell? ⟨w1.heap.size,4,none⟩=some (.int .i64 b.t.dom)∧w3.drew.cell? ⟨w1.heap.size,5,none⟩=some (.int .i64 b.t.ap)∧w3.drew.cell? ⟨w1.heap.size,6,none⟩=some (.int .u32 b.t.bits)∧w3.drew.cell? ⟨w1.heap.size,7,none⟩=some (.bool b.t.ng)∧w3.drew.cell? ⟨w1.heap.size,8,none⟩=some (.bool b.t.xn)):=by
          have h:=HY4.out.bb.cell
          exact ⟨HY4.out.box.cell 0,h 0,h 1,h 2,h 3,h 4,h 5,h 6,h 7,h 8⟩
        have K2:Hid (w6.cell? ⟨p,0,none⟩=some (.map (some kb))∧w6.cell? ⟨w1.heap.size,0,none⟩=some (.int .i64 b.asid)∧w6.cell? ⟨w1.heap.size,1,none⟩=some (.int .i64 b.t.size)∧w6.cell? ⟨w1.heap.size,2,none⟩=some (.int .u32 b.t.va)∧w6.cell? ⟨w1.heap.size,3,none⟩=some (.int .u64 b.t.pa)∧w6.cell? ⟨w1.heap.size,4,none⟩=some (.int .i64 b.t.dom)∧w6.cell? ⟨w1.heap.size,5,none⟩=some (.int .i64 b.t.ap)∧w6.cell? ⟨w1.heap.size,6,none⟩=some (.int .u32 b.t.bits)∧w6.cell? ⟨w1.heap.size,7,none⟩=some (.bool b.t.ng)∧w6.cell? ⟨w1.heap.size,8,none⟩=some (.bool b.t.xn)):=by
          have h:=hb6.cell
          exact ⟨hx6.box.cell 0,h 0,h 1,h 2,h 3,h 4,h 5,h 6,h 7,h 8⟩
        have HX6:=hidW hx6
        have HL6:Hid (w6.rangeLeft kb r<wr.rangeLeft kb r):=by
          have:=HL3.out
          show w6.rangeLeft kb r<wr.rangeLeft kb r
          omega
        clear hx6 hb6 hl6 hL4 HY4 HY3 HL3
        go_wp2_with fail
        refine wp_region_held_drew (S:=fun w'=>w'.cell? ⟨p,0,none⟩=some (.map (some kb))∧w'.cell? ⟨w1.heap.size,0,none⟩=some (.int .i64 b.asid)∧w'.cell? ⟨w1.heap.size,1,none⟩=some (.int .i64 b.t.size)∧w'.cell? ⟨w1.heap.size,2,none⟩=some (.int .u32 b.t.va)∧w'.cell? ⟨w1.heap.size,3,none⟩=some (.int .u64 b.t.pa)∧w'.cell? ⟨w1.heap.size,4,none⟩=some (.int .i64 b.t.dom)∧w'.cell? ⟨w1.heap.size,5,none⟩=some (.int .i64 b.t.ap)∧w'.cell? ⟨w1.heap.size,6,none⟩=some (.int .u32 b.t.bits)∧w'.cell? ⟨w1.heap.size,7,none⟩=some (.bool b.t.ng)∧w'.cell? ⟨w1.heap.size,8,none⟩=some (.bool b.t.xn)) (by kernel_rfl) ?_ (fun hHeld=> ?_)
        · exact K1.out
        refine wpAnyH_take (i:=0) (oi:=⟨some 19,.move (.tmp 0),49,_,#[],none⟩) (v:=?_) rfl (by kernel_rfl) (by kernel_rfl) (by kernel_rfl) (fun _ _ _ h=>h) (Or.inl ⟨by rfl,?_⟩) (by assumption) ?_
        rotate_left
        · (intro w hSw; (try dsimp only at hSw); go_simp; try with_reducible rfl)
        simp only [Act.put,List.setIfInBounds_toArray,List.set_cons_zero,List.set_cons_succ]
        refine wpAnyH_take (i:=1) (oi:=⟨some 20,.nilCheck (.tmp 19),0,_,#[⟨0,.data⟩],none⟩) (v:=?_) rfl (by kernel_rfl) (by kernel_rfl) (by kernel_rfl) (fun _ _ _ h=>h) (Or.inl ⟨by rfl,?_⟩) (by assumption) ?_
        rotate_left
        · (intro w hSw; (try dsimp only at hSw); go_simp; try with_reducible rfl)
        simp only [Act.put,List.setIfInBounds_toArray,List.set_cons_zero,List.set_cons_succ]
        refine wpAnyH_take (i:=2) (oi:=⟨some 21,.fieldAddr 118 (.tmp 20) 0,0,_,#[⟨1,.data⟩],none⟩) (v:=?_) rfl (by kernel_rfl) (by kernel_rfl) (by kernel_rfl) (fun _ _ _ h=>h) (Or.inl ⟨by rfl,?_⟩) (by assumption) ?_
        rotate_left
        · (intro w hSw; (try dsimp only at hSw); go_simp; try with_reducible rfl)
        simp only [Act.put,List.setIfInBounds_toArray,List.set_cons_zero,List.set_cons_succ]
        refine wpAnyH_take (i:=3) (oi:=⟨some 22,.load 115 (.tmp 21),115,_,#[⟨2,.data⟩],none⟩) (v:=?_) rfl (by kernel_rfl) (by kernel_rfl) (by kernel_rfl) (fun _ _ _ h=>h) (Or.inl ⟨by rfl,?_⟩) (by assumption) ?_
        rotate_left
        · (intro w hSw; (try dsimp only at hSw); go_simp; try with_reducible rfl)
        simp only [Act.put,List.setIfInBounds_toArray,List.set_cons_zero,List.set_cons_succ]
        refine wpAnyH_take (i:=4) (oi:=⟨some 23,.load 45 (.tmp 6),45,_,#[],none⟩) (v:=?_) rfl (by kernel_rfl) (by kernel_rfl) (by kernel_rfl) (fun _ _ _ h=>h) (Or.inl ⟨by rfl,?_⟩) (by assumption) ?_
        rotate_left
        · (intro w hSw; (try dsimp only at hSw); go_simp; try with_reducible rfl)
        simp only [Act.put,List.setIfInBounds_toArray,List.set_cons_zero,List.set_cons_succ]
        refine wpAnyH_ready (rs:=[5]) (by kernel_rfl) (by simp) ?_
        refine AllReadyH.cons (o:=⟨none,.call ⟨.builtin Builtin.delete,#[.tmp 22,.tmp 23],#[115,45]⟩,0,_,#[⟨3,.data⟩,⟨4,.data⟩],none⟩) rfl (fun K hK=> ?_) AllReadyH.nil
        go_simp
        skip
        refine hK.out _ _ ?_ (fun hHeld=> ?_)
        · ((try dsimp only); with_reducible exact K2.out)
        clear hK K
        try simp only [Act.put,List.setIfInBounds_toArray,List.set_cons_zero,List.set_cons_succ]
        refine wpAnyH_done (by kernel_rfl) ?_ _
        go_wp2
        go_roundw
        case rel=>exact ⟨rm T b,c+1,by go_num,HX6⟩
        case measure=>exact HL6.out
end Go.Proofs.YtnjlajjjcmhfgaaGreatDoor

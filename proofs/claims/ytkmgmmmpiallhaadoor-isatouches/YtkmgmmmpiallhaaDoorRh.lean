import Derived.Test.YtkmgmmmpiallhaaDoorRe
import Derived.Test.YtkmgmmmpiallhaaDoorGh
namespace Go.Proofs.YtkmgmmmpiallhaaDoor
open Go.RowKit
set_option linter.unusedVariables false
set_option linter.unusedSimpArgs false
theorem wpList_ints_want {P:Program} {w:World} {ops:Array Oper} {rest:List Oper} {o:Oper} {a:Act} {Q:Exit→Act→World→Prop} (hu:P.underlying 48=some (.slice 3)) (hsz:(P.info? 3).map (·.size)=some 1) (hz:((P.info? 3).bind (·.zero)).isSome=true)
    (hw:Region.wanted o (yielded ops a.tmps)=true) (len:Nat) (parts:Array (Nat×Operand)) (ho:o.op= .buildSlice 48 len parts) (zs:List Int) (d:Option Tmp) (hd:o.dst=d) (hlen:len=zs.length) (hpos:0<len) (hs:len≤100)
    (hparts:parts.toList=(zs.zipIdx 0).map fun x=>(x.2,Operand.const (Value.int .i64 x.1)))
    (h:∀b w',Sl w' b zs→Below w.heap.size w w'→wpList P ops Q rest (a.put d (.slice (some ⟨b,0,none⟩) len len)) w'):wpList P ops Q (o::rest) a w:=by
  subst hd
  cases hie:P.info? 3 with
  | none=>simp [hie] at hsz
  | some ie =>
    simp only [hie,Option.map_some,Option.some.injEq,Option.bind_some] at hsz hz
    obtain ⟨z,hzz⟩:=Option.isSome_iff_exists.1 hz
    refine wpList_step fun K hK=> ?_
    rw [if_pos hw]
    refine wp_buildSlice 48 3 len parts ho _ ie z hu hie hzz (by rw [hsz]; omega) (by rw [hsz]; omega) ?_ (hK _ _ (h w.heap.size _ ⟨Bl.new w 3 _,by omega⟩ (below_new _ _)))
    rw [parts_eval a parts .i64 zs hparts,hsz]
    exact Great.fill_flat _ _ (fun v hv=>by obtain ⟨n,_,rfl⟩:=List.mem_map.1 hv; rfl) (by simp [hlen])
structure SY (W:World) (b:Nat) (l:List Int) (R Z I:List Value) (w:World):Prop where
  bel:Below W.heap.size W w
  row:Bl w W.heap.size 50 R
  res:Bl w (W.heap.size+1) 28 Z
  ins:Bl w (W.heap.size+2) 28 I
  sl:Sl w b l
  lt:b<W.heap.size
theorem Sl.turn {S:Nat→Prop} {w w':World} {b:Nat} {l:List Int} (h:Sl w b l) (hb:Turn S w w') (hn:¬S b):Sl w' b l:=⟨h.bl.turn hb hn,h.len⟩
theorem SY.step {W w w':World} {b:Nat} {l:List Int} {R Z I:List Value} (h:SY W b l R Z I w) (hb:Below w.heap.size w w'):SY W b l R Z I w':=⟨Below.step h.bel hb,h.row.below hb,h.res.below hb,h.ins.below hb,h.sl.below hb,h.lt⟩
theorem SY.turn {W w w':World} {b:Nat} {l:List Int} {R Z I J:List Value} (h:SY W b l R Z I w) (hT:TA (W.heap.size+2) w w') (hJ:Bl w' (W.heap.size+2) 28 J):SY W b l R Z J w' :=
  ⟨(Turn.below (S:=fun _=>False) h.bel).trans hT (fun x hx=> .inr (by omega)) |>.to (fun _ hx=>hx.elim) (Nat.le_refl _),h.row.turn hT (by omega),h.res.turn hT (by omega),hJ,h.sl.turn hT (by have:=h.lt; omega),h.lt⟩
theorem SY.set {W w:World} {b:Nat} {l:List Int} {R Z I:List Value} (h:SY W b l R Z I w) (k:Nat) (v:Value):SY W b l R Z (I.set k v) (w.setCell ⟨W.heap.size+2,k,none⟩ v) :=
  h.turn (TA.set (Turn.refl _ w) k v) (h.ins.set k v)
theorem wpList_put1 {P:Program} {W w:World} {ops:Array Oper} {rest:List Oper} {o:Oper} {a:Act} {Q:Exit→Act→World→Prop} (hgd:o.guard=none) (ty:TypeId) (x y:Operand) (ho:o.op= .store ty x y) (hd:o.dst=none)
    (b:Nat) (l:List Int) (R Z I:List Value) (k:Nat) (v:Value) (hx:a.eval x= .pointer (some ⟨W.heap.size+2,k,none⟩)) (hy:a.eval y=v) (H:SY W b l R Z I w) (hi:(P.info? ty).map (·.size)=some 1) (h1:v.oneCell'=true) (hk:k<I.length)
    (h:∀w',SY W b l R Z (I.set k v) w'→wpList P ops Q rest a w'):wpList P ops Q (o::rest) a w :=
  wpList_plain hgd fun _ hK=>by
    have hc:=H.ins.cell k
    rw [List.getElem?_eq_getElem hk] at hc
    have hst:(store ⟨W.heap.size+2,k,none⟩ v).run P w= .ok () (w.setCell ⟨W.heap.size+2,k,none⟩ v):=by
      rw [run_store P w _ v _ h1,hc]
      simp [H.ins.frozen k]
    have hcs:v.cells=#[v]:=by cases v <;>first|rfl|cases h1
    cases hq:P.info? ty with
    | none=>simp [hq] at hi
    | some i =>
      have hs:i.size=1:=by simpa [hq] using hi
      unfold Oper.wp execOp
      have e:(storeVar ty ⟨W.heap.size+2,k,none⟩ v).run P w= .ok () (w.setCell ⟨W.heap.size+2,k,none⟩ v):=by
        have ha:(⟨W.heap.size+2,k,none⟩:Addr).add 0=⟨W.heap.size+2,k,none⟩:=by unfold Addr.add; split <;>simp_all
        simp [storeVar,sizeOf,typeInfo,hq,hcs,hs,storeCells,ha,hst]
      simp only [ho,hx,hy,Instr.storeAt,Instr.sureAddr,Sem.run_bind,Sem.run_pure,Result.andThen_ok,e]
      have:=hK (a.put o.dst undef) _ (by rw [hd]; exact h _ (H.set k v))
      exact this
structure SW (W:World) (b:Nat) (l:List Int) (R Z:List Value) (w:World):Prop where
  bel:Below W.heap.size W w
  row:Bl w W.heap.size 50 R
  res:Bl w (W.heap.size+1) 28 Z
  sl:Sl w b l
  size:w.heap.size=W.heap.size+2
  lt:b<W.heap.size
theorem SW.drew {W w:World} {b:Nat} {l:List Int} {R Z:List Value} (h:SW W b l R Z w):SW W b l R Z w.drew:=⟨below_drew h.bel,h.row.drew,h.res.drew,⟨h.sl.bl.drew,h.sl.len⟩,h.size,h.lt⟩
theorem SW.first {W:World} {b:Nat} {l:List Int} (R Z:List Value) (hs:Sl W b l):SW W b l R Z ((W.alloc (.cells R.toArray 50)).alloc (.cells Z.toArray 28)):=by
  have h1:=below_new W (.cells R.toArray 50)
  have h2:=below_new (W.alloc (.cells R.toArray 50)) (.cells Z.toArray 28)
  have h3:=Bl.new (W.alloc (.cells R.toArray 50)) 28 Z
  rw [show (W.alloc (.cells R.toArray 50)).heap.size=W.heap.size+1 by simp] at h3
  exact ⟨Below.step h1 h2,(Bl.new W 50 R).below h2,h3,(hs.below h1).below h2,by simp,hs.bl.lt⟩
theorem SW.box {W w:World} {b:Nat} {l:List Int} {R Z:List Value} (h:SW W b l R Z w) (I:List Value):SY W b l R Z I (w.alloc (.cells I.toArray 28)):=by
  have h2:=below_new w (.cells I.toArray 28)
  have h3:=Bl.new w 28 I
  rw [h.size] at h3
  exact ⟨Below.step h.bel h2,h.row.below h2,h.res.below h2,h3,h.sl.below h2,h.lt⟩
theorem SY.sets {W w:World} {b:Nat} {l:List Int} {R Z I:List Value} (h:SY W b l R Z I w) (J:List Value) (hl:J.length=I.length):SY W b l R Z J (w.setCells (W.heap.size+2) 0 J) :=
  h.turn (set_turn (b:=W.heap.size+2) J 0 w w (Turn.refl _ w)) (set_all h.ins hl)
theorem SY.tup {W w:World} {B:Nat} {l:List Int} {R Z:List Value} {i0 i1 i2 i3 i4 i5 i6 i7 i8 i9 i10 i11 i12 i13 i14 i15 i16 i17 i18 i19:Value} (h:SY W B l R Z [i0,i1,i2,i3,i4,i5,i6,i7,i8,i9,i10,i11,i12,i13,i14,i15,i16,i17,i18,i19] w) (a b c d:Value):SY W B l R Z [i0,i1,i2,i3,i4,i5,i6,i7,i8,i9,i10,i11,i12,i13,i14,i15,a,b,c,d] (w.setCells (W.heap.size+2) 16 [a,b,c,d]) :=
  h.turn (set_turn (b:=W.heap.size+2) [a,b,c,d] 16 w w (Turn.refl _ w)) (setCells_bl [a,b,c,d] 16 w _ h.ins (Nat.le_refl _))
theorem SY.ret {W w:World} {b:Nat} {l:List Int} {R Z I:List Value} (h:SY W b l R Z I w) (hl:I.length=Z.length):Below W.heap.size W (w.setCells (W.heap.size+1) 0 I)∧Bl (w.setCells (W.heap.size+1) 0 I) (W.heap.size+1) 28 I:=by
  have hT:=set_turn (b:=W.heap.size+1) I 0 w w (Turn.refl _ w)
  exact ⟨(Turn.below (S:=fun _=>False) h.bel).trans hT (fun x hx=> .inr (by omega)) |>.to (fun _ hx=>hx.elim) (Nat.le_refl _),set_all h.res hl⟩
theorem SY.cells {W w:World} {b:Nat} {l:List Int} {R Z:List Value} {i0 i1 i2 i3 i4 i5 i6 i7 i8 i9:Value} {L:List Value} (h:SY W b l R Z (i0::i1::i2::i3::i4::i5::i6::i7::i8::i9::L) w):w.cell? ⟨W.heap.size+2,1,none⟩=some i1∧w.cell? ⟨W.heap.size+2,9,none⟩=some i9:=⟨h.ins.cell 1,h.ins.cell 9⟩
theorem SW.held {W w:World} {b:Nat} {o0:Int} {ol:List Int} {a f g:Value} {Z:List Value} (h:SW W b (o0::ol) [a,f,g] Z w):w.cell? ⟨W.heap.size,0,none⟩=some a∧w.cell? ⟨W.heap.size,1,none⟩=some f∧w.cell? ⟨b,0,none⟩=some (.int .i64 o0):=⟨h.row.cell 0,h.row.cell 1,h.sl.cell (j:=0) (by simp)⟩
theorem SY.held {W w:World} {b:Nat} {o0:Int} {ol:List Int} {a f g:Value} {Z I:List Value} (h:SY W b (o0::ol) [a,f,g] Z I w):w.cell? ⟨W.heap.size,0,none⟩=some a∧w.cell? ⟨W.heap.size,1,none⟩=some f∧w.cell? ⟨b,0,none⟩=some (.int .i64 o0):=⟨h.row.cell 0,h.row.cell 1,h.sl.cell (j:=0) (by simp)⟩
theorem bl_there {w:World} {b:Nat} {T:TypeId} {l:List Value} (h:Bl w b T l) (o n:Nat) (hn:o+n≤l.length):w.there b o n:=by
  intro j hj
  exact ⟨by rw [h.cell (o+j),List.getElem?_eq_getElem (by omega)]; rfl,h.frozen (o+j)⟩
theorem tupI:(Tryd.prog.info? 26).map (·.size)=some 4:=by kernel_rfl
theorem wpList_ret {W w:World} {ops:Array Oper} {rest:List Oper} {o:Oper} {a:Act} {Q:Exit→Act→World→Prop} (hgd:o.guard=none) (x y:Operand) (ho:o.op= .store 28 x y) (hd:o.dst=none)
    (b:Nat) (l:List Int) (R Z I:List Value) (hx:a.eval x= .pointer (some ⟨W.heap.size+1,0,none⟩)) (H:SY W b l R Z I w) (hy:a.eval y= .agg I.toArray) (hI:I.length=20) (hZ:Z.length=20) (h1:I.toArray.all (·.oneCell')=true)
    (h:∀w',Below W.heap.size W w'∧Bl w' (W.heap.size+1) 28 I→wpList Tryd.prog ops Q rest a w'):wpList Tryd.prog ops Q (o::rest) a w:=by
  refine wpList_store_mid hgd _ _ _ ho (W.heap.size+1) 0 I.toArray hx hy (H.res.there _ (by rw [hZ,List.size_toArray,hI])) (by rw [List.size_toArray,hI]; exact ins_size) h1 ?_
  have:=h _ (H.ret (by rw [hI,hZ]))
  rw [hd]
  exact this
end Go.Proofs.YtkmgmmmpiallhaaDoor

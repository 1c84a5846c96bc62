import Derived.Test.YtkmgmmmpiallhaaDoorPi
namespace Go.Proofs.YtkmgmmmpiallhaaDoor
open Go.RowKit
set_option linter.unusedVariables false
set_option linter.unusedSimpArgs false
structure TP (w:World):Prop where
  low:∀(j:Nat) r,lowL[j]? =some r→w.rangeAt 0 (j*5) (rowL r)
  high:∀(j:Nat) r,highL[j]? =some r→w.rangeAt 1 (j*5) (rowL r)
  pl:∀k,k<28→w.rangeAt 2 (k*4) [.int .u8 ((plP k).fld:Int),.int .u8 ((plP k).at_:Int),.int .u8 ((plP k).wide:Int),.int .u8 ((plP k).frm:Int)]
  db:∀k,k<32→w.cell? ⟨3,k,none⟩=some (.int .u8 ((dbL.getD k 0:Nat):Int))
theorem range_keep {w w':World} {b o:Nat} {l:List Value} (h:w.rangeAt b o l) (hb:Below w.heap.size w w'):w'.rangeAt b o l:=fun j v hv=>cell_keep (h j v hv) hb
theorem TP.below {w w':World} (h:TP w) (hb:Below w.heap.size w w'):TP w':=⟨fun j r hr=>range_keep (h.low j r hr) hb,fun j r hr=>range_keep (h.high j r hr) hb,fun k hk=>range_keep (h.pl k hk) hb,fun k hk=>cell_keep (h.db k hk) hb⟩
theorem TP.size {w:World} (h:TP w):3<w.heap.size:=cell_lt (h.db 0 (by decide))
set_option maxRecDepth 100000 in
theorem ghas_any (r:RowP) (k:Nat) (w:World) (hk:k<32) (hp:r.parts<4294967296):Calls Tryd.prog 26 #[.agg #[.int .u8 (r.op:Int),.int .u8 (r.form:Int),.int .u32 (r.mask:Int),.int .u32 (r.bits:Int),.int .u32 (r.parts:Int)],.int .i64 (k:Int)] w fun e w'=>e= .returned (.bool (hasR r k))∧Below w.heap.size w w':=by
  have e:(bits .and .u32 ((r.parts:Int) / 2^k) 1 == 1)=hasR r k:=by
    rw [band1 _ (shr_range _ _ ⟨by omega,by omega⟩),←pow_nat,←Int.natCast_ediv,hasR]
    generalize r.parts / 2^k=q
    rcases Nat.mod_two_eq_zero_or_one q with h|h
    · rw [h,show (q:Int)%2=0 by omega]; rfl
    · rw [h,show (q:Int)%2=1 by omega]; rfl
  go_enter Tryd.func26,Tryd.ntmps26
  go_wp2
  exact bodyPost_ret (v:= .bool (hasR r k)) (by simp [results,Tryd.results26,go_sem]) rfl ⟨rfl,below_new _ _⟩
set_option maxRecDepth 100000 in
theorem gisOf_any (r:RowP) (op form:Int) (w:World) (h1:r.op<256) (h2:r.form<256):Calls Tryd.prog 47 #[.agg #[.int .u8 (r.op:Int),.int .u8 (r.form:Int),.int .u32 (r.mask:Int),.int .u32 (r.bits:Int),.int .u32 (r.parts:Int)],.int .i64 op,.int .i64 form] w fun e w'=>e= .returned (.bool (isOfR op form r))∧Below w.heap.size w w':=by
  by_cases h:(r.op:Int)=op
  · have hb:((r.op:Int) == op)=true:=by simpa using h
    have e:isOfR op form r=((r.form:Int) == form):=by rw [isOfR,hb,Bool.true_and]
    rw [e]
    clear e h
    go_enter Tryd.func47,Tryd.ntmps47
    go_wp2
    exact bodyPost_ret (v:= .bool ((r.form:Int) == form)) (by simp [results,Tryd.results47,go_sem]) rfl ⟨rfl,below_new _ _⟩
  · have hb:((r.op:Int) == op)=false:=by simpa using h
    have e:isOfR op form r=false:=by rw [isOfR,hb,Bool.false_and]
    rw [e]
    clear e h
    go_enter Tryd.func47,Tryd.ntmps47
    go_wp2
    exact bodyPost_ret (v:= .bool false) (by simp [results,Tryd.results47,go_sem]) rfl ⟨rfl,below_new _ _⟩
set_option maxRecDepth 100000 in
theorem galike_any (op:Int) (w:World):Calls Tryd.prog 46 #[.int .i64 op] w fun e w'=>e= .returned (.int .i64 (alikeP op))∧w'=w:=by
  by_cases h:1≤op∧op≤16
  · obtain ⟨k,rfl⟩:∃k:Fin 16,op=(k.1:Int)+1:=⟨⟨(op-1).toNat,by omega⟩,by show op=((op-1).toNat:Int)+1; omega⟩
    have:k.1=0∨k.1=1∨k.1=2∨k.1=3∨k.1=4∨k.1=5∨k.1=6∨k.1=7∨k.1=8∨k.1=9∨k.1=10∨k.1=11∨k.1=12∨k.1=13∨k.1=14∨k.1=15:=by omega
    clear h
    generalize k.1=K at this ⊢
    rcases this with rfl|rfl|rfl|rfl|rfl|rfl|rfl|rfl|rfl|rfl|rfl|rfl|rfl|rfl|rfl|rfl <;>
    · go_enter Tryd.func46,Tryd.ntmps46
      go_wp2
      exact bodyPost_ret (by simp [results,Tryd.results46,go_sem,alikeP]) rfl ⟨rfl,rfl⟩
  · have e:alikeP op=op:=by
      unfold alikeP
      rw [if_neg (by omega),if_neg (by omega),if_neg (by omega),if_neg (by omega)]
    rw [e]
    have h1:(op == 1)=false∧(op == 2)=false∧(op == 3)=false∧(op == 4)=false∧(op == 5)=false∧(op == 6)=false∧(op == 7)=false∧(op == 8)=false∧(op == 9)=false∧(op == 10)=false∧(op == 11)=false∧(op == 12)=false∧(op == 13)=false∧(op == 14)=false∧(op == 15)=false∧(op == 16)=false:=by
      simp only [beq_eq_false_iff_ne]; omega
    obtain ⟨a1,a2,a3,a4,a5,a6,a7,a8,a9,a10,a11,a12,a13,a14,a15,a16⟩:=h1
    clear h e
    go_enter Tryd.func46,Tryd.ntmps46
    go_wp2
    exact bodyPost_ret (v:= .int .i64 op) (by simp [results,Tryd.results46,go_sem]) rfl ⟨rfl,rfl⟩
set_option maxRecDepth 100000 in
theorem gbit_any (b:Bool) (w:World):Calls Tryd.prog 58 #[.bool b] w fun e w'=>e= .returned (.int .u32 (b.toNat:Nat))∧w'=w:=by
  cases b <;>(go_enter Tryd.func58,Tryd.ntmps58; go_wp2) <;>exact bodyPost_ret (by simp [results,Tryd.results58,go_sem]) rfl ⟨rfl,rfl⟩
theorem neg_wrap (x:Nat) (h0:0<x) (hx:x<4294967296):IntKind.u32.wrap (-(x:Int))=((4294967296-x:Nat):Int):=by
  rw [IntKind.wrap_u32]; omega
theorem tz_and (x:Nat) (h0:0<x) (hx:x<4294967296):bits .and .u32 (x:Int) ((4294967296-x:Nat):Int)=((x &&& (4294967296-x):Nat):Int):=by
  rw [u32_and _ _ (by omega) (by omega) (by omega) (by omega),Int.toNat_natCast,Int.toNat_natCast]
set_option maxRecDepth 100000 in
theorem tz_any (x:Nat) (w:World) (ht:TP w) (h0:0<x) (hx:x<4294967296):Calls Tryd.prog 40 #[.int .u32 (x:Int)] w fun e w'=>e= .returned (.int .i64 (tzP x:Nat))∧w'=w:=by
  have e1:=neg_wrap x h0 hx
  have e2:=tz_and x h0 hx
  have ez:((x:Int) == 0)=false:=by rw [beq_eq_false_iff_ne]; omega
  have hd:∀k:Fin 32,dbL.getD k.1 0≤31:=by decide
  obtain ⟨k,hk⟩:∃k,(x &&& (4294967296-x))*125613361%4294967296 / 134217728=k:=⟨_,rfl⟩
  have hk32:k<32:=by omega
  have hc:=ht.db k hk32
  have hv:dbL.getD k 0≤31:=hd ⟨k,hk32⟩
  have et:tzP x=dbL.getD k 0:=by rw [tzP,hk]
  rw [et]
  have e3:((x &&& (4294967296-x):Nat):Int)*125613361%4294967296 / 134217728=(k:Nat):=by rw [←hk,Int.natCast_ediv,Int.natCast_emod,Int.natCast_mul]; rfl
  generalize hA:x &&& (4294967296-x)=A at *
  generalize dbL.getD k 0=D at *
  have hw:IntKind.i64.wrap (D:Int)=(D:Int):=by
    clear e1 e2 e3 ez hc
    rw [IntKind.wrap_i64]; omega
  clear et hd ht hA hk
  generalize hB:4294967296-x=B at *
  clear hB
  go_enter Tryd.func40,Tryd.ntmps40
  go_wp2
  exact bodyPost_ret (v:= .int .i64 (D:Int)) (by simp [results,Tryd.results40,go_sem]) rfl ⟨rfl,rfl⟩
end Go.Proofs.YtkmgmmmpiallhaaDoor

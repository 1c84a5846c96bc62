import Derived.Test.YtkmgmmmpiallhaaDoorRi
import Derived.Test.YtkmgmmmpiallhaaDoorRj
import Derived.Test.YtkmgmmmpiallhaaDoorRk
import Derived.Test.YtkmgmmmpiallhaaDoorRl
import Derived.Test.YtkmgmmmpiallhaaDoorRd
namespace Go.Proofs.YtkmgmmmpiallhaaDoor
open Go.RowKit
set_option linter.unusedVariables false
set_option linter.unusedSimpArgs false
def sayK (q:RowJ):Bool:=decide (0<q.ops.length) && (decide (cnt 111 q.pat≤4) && ((!(q.ops.headD 0 == 41 || q.ops.headD 0 == 42) || (cnt 115 q.pat == 0 && cnt 111 q.pat == 0)) && decide (cnt 105 q.pat≤24)))
set_option maxRecDepth 100000 in
theorem sayK_all:∀q∈rowsJ,sayK q=true:=by
  have:rowsJ.all sayK=true:=by decide
  exact List.all_eq_true.1 this
theorem u8_of {K:Int} (h0:0≤K) (h1:K<256):((UInt8.ofNat K.toNat).toNat:Int)=K:=by
  have e:(UInt8.ofNat K.toNat).toNat=K.toNat%256:=rfl
  rw [e]; omega
theorem u8_ne {K:Int} (h0:0≤K) (h1:K<256) (h:K≠32):UInt8.ofNat K.toNat≠32:=by
  intro e
  have:=u8_of h0 h1
  rw [e] at this
  exact h this.symm
theorem tests_or (o:Int):tests o=(decide (o=9) || (decide (o=10) || (decide (o=11) || decide (o=12)))):=by
  simp only [tests,List.contains_cons,List.contains_nil,Bool.or_false]
  rfl
theorem fv_one {c:UInt8} {x:Nat} {l:List UInt8}:(fvP c x l == 1)=(((fvP c x l:Nat):Int) == 1):=by
  rw [Bool.eq_iff_iff]; simp; omega
theorem ins_of (r:RowJ) (x:Nat) (FV:Int→Int) (hF:FV=fun K=>((fvP (UInt8.ofNat K.toNat) x r.pat:Nat):Int)) (op im:Int) (s:Bool) (ho:opJ r x=op) (hs:(fvP 115 x r.pat == 1 || tests (opJ r x))=s) (hi:immJ (opJ r x) (fvP 105 x r.pat)=im) :
    Value.agg #[.int .i64 (FV 99),.int .i64 op,.bool s,.int .i64 r.form,.int .i64 (FV 100),.int .i64 (FV 110),.int .i64 (FV 109),.int .i64 (FV 114),.int .i64 (FV 97),.int .u32 im,.int .i64 (FV 116),.int .i64 (FV 107),.bool (FV 112 == 1),.bool (FV 117 == 1),.bool (FV 119 == 1),.int .u16 (IntKind.u16.wrap (FV 108)),.int .i64 (FV 120),.int .i64 (FV 121),.int .i64 (FV 122),.int .i64 (FV 118)]= .agg (insA (sayJ r x)):=by
  subst ho; subst hs; subst hi
  have h1:IntKind.u16.wrap ((fvP 108 x r.pat:Nat):Int)=((fvP 108 x r.pat%65536:Nat):Int):=by rw [IntKind.wrap_u16]; omega
  subst hF
  simp only [insA,insL,sayJ,fv_one]
  rw [←h1]
  rfl
set_option maxRecDepth 100000 in
theorem jsay_any (r:RowJ) (hr:r∈rowsJ) (b:Nat) (s:ByteArray) (x:Nat) (w:World) (hs:Sl w b r.ops) (hp:Pat s r.pat) (hx:x<4294967296) :
    Calls Tryd.prog 51 #[.agg #[.slice (some ⟨b,0,none⟩) r.ops.length r.ops.length,.int .i64 r.form,.string s],.int .u32 (x:Int)] w fun e w'=>e= .returned (.agg (insA (sayJ r x)))∧Below w.heap.size w w':=by
  have hk:=sayK_all r hr
  simp only [sayK,Bool.and_eq_true,decide_eq_true_eq,Bool.or_eq_true,Bool.not_eq_true',Bool.or_eq_false_iff,beq_eq_false_iff_ne,beq_iff_eq] at hk
  obtain ⟨k0,k1,k2,k3⟩:=hk
  obtain ⟨FV,hF⟩:∃FV:Int→Int,FV=fun K=>((fvP (UInt8.ofNat K.toNat) x r.pat:Nat):Int):=⟨_,rfl⟩
  obtain ⟨CN,hC⟩:∃CN:Int→Int,CN=fun K=>((cnt (UInt8.ofNat K.toNat) r.pat:Nat):Int):=⟨_,rfl⟩
  have HN:Hid (∀(K:Int) w',0≤K→K<256→K≠32→Calls Tryd.prog 59 #[.string s,.int .u8 K,.int .u32 (x:Int)] w' fun e w''=>e= .returned (.int .i64 (FV K))∧w''=w'):=fun K w' a1 a2 a3=>by
    have:=jnum_any s r.pat (UInt8.ofNat K.toNat) x w' hp (u8_ne a1 a2 a3) hx
    rw [u8_of a1 a2] at this
    rw [hF]
    exact this
  have HF:Hid (∀(K:Int) w',0≤K→K<256→K≠32→Calls Tryd.prog 57 #[.string s,.int .u8 K,.int .u32 (x:Int)] w' fun e w''=>e= .returned (.tuple #[.int .u32 (FV K),.int .i64 (CN K)])∧w''=w'):=fun K w' a1 a2 a3=>by
    have:=jfield_any s r.pat (UInt8.ofNat K.toNat) x w' hp (u8_ne a1 a2 a3) hx
    rw [u8_of a1 a2] at this
    rw [hF,hC]
    exact this
  have e111:FV 111=((fvP 111 x r.pat:Nat):Int):=by rw [hF]; rfl
  have e115:FV 115=((fvP 115 x r.pat:Nat):Int):=by rw [hF]; rfl
  have e105:FV 105=((fvP 105 x r.pat:Nat):Int):=by rw [hF]; rfl
  have c111:CN 111=((cnt 111 r.pat:Nat):Int):=by rw [hC]; rfl
  have l111:=fvP_lt 111 x r.pat
  have l115:=fvP_lt 115 x r.pat
  have l105:=fvP_lt 105 x r.pat
  have m111:2^cnt 111 r.pat≤2^4:=Nat.pow_le_pow_right (by decide) k1
  have m105:2^cnt 105 r.pat≤2^24:=Nat.pow_le_pow_right (by decide) k3
  have n4:(2:Nat)^4=16:=by decide
  have n24:(2:Nat)^24=16777216:=by decide
  obtain ⟨o0,ol,ho⟩:∃o0 ol,r.ops=o0::ol:=by
    cases h:r.ops with
    | nil=>rw [h] at k0; exact absurd k0 (by simp)
    | cons a l=>exact ⟨a,l,rfl⟩
  rw [ho] at hs
  have hd:r.ops.headD 0=o0:=by rw [ho]; rfl
  rw [hd] at k2
  have hS1:(FV 115 == 1)=(fvP 115 x r.pat == 1):=by rw [e115,fv_one]
  by_cases hO:0<cnt 111 r.pat
  · have hop:opJ r x=FV 111+1:=by rw [opJ,if_pos hO,e111]
    have hB:isB (opJ r x)=false:=by rw [hop,isB,Bool.or_eq_false_iff]; exact ⟨by rw [beq_eq_false_iff_ne]; omega,by rw [beq_eq_false_iff_ne]; omega⟩
    have him:immJ (opJ r x) (fvP 105 x r.pat)=FV 105:=by rw [immJ,hB,e105]; rfl
    have h41:(FV 111+1 == 41)=false:=by rw [beq_eq_false_iff_ne]; omega
    have h42:(FV 111+1 == 42)=false:=by rw [beq_eq_false_iff_ne]; omega
    have hcn:decide (0<CN 111)=true:=decide_eq_true (by omega)
    cases hs1:fvP 115 x r.pat == 1
    · refine (say_t3 b o0 r.form ol s x w FV CN HN HF hs r.ops.length (by omega) hcn (by rw [hS1,hs1]) (by omega) (by omega) h41 h42).mono ?_
      rintro e w' ⟨rfl,hb⟩
      refine ⟨congrArg _ (ins_of r x FV hF _ _ _ hop ?_ him),hb⟩
      rw [hs1,Bool.false_or,hop,tests_or]
    · refine (say_t4 b o0 r.form ol s x w FV CN HN HF hs r.ops.length (by omega) hcn (by rw [hS1,hs1]) (by omega) (by omega) h41 h42).mono ?_
      rintro e w' ⟨rfl,hb⟩
      exact ⟨congrArg _ (ins_of r x FV hF _ _ _ hop (by rw [hs1]; rfl) him),hb⟩
  · have hop:opJ r x=o0:=by rw [opJ,if_neg hO,hd]
    have hcn:decide (0<CN 111)=false:=decide_eq_false (by omega)
    by_cases hb:o0=41∨o0=42
    · have hz:cnt 115 r.pat=0:=by
        rcases k2 with k2|k2
        · omega
        · exact k2.1
      rw [hz] at l115
      have hs1:(fvP 115 x r.pat == 1)=false:=by rw [beq_eq_false_iff_ne]; simp at l115; omega
      have hs2:(fvP 115 x r.pat == 1 || tests (opJ r x))=false:=by rw [hs1,hop]; rcases hb with rfl|rfl <;>rfl
      have hB:isB (opJ r x)=true:=by rw [hop]; rcases hb with rfl|rfl <;>rfl
      by_cases hbig:33554432≤FV 105*4
      · have him:immJ (opJ r x) (fvP 105 x r.pat)=(FV 105*4-67108864)%4294967296:=by
          rw [immJ,hB,if_pos rfl,e105,if_pos (by omega)]; omega
        have hI2:IntKind.u32.wrap (FV 105*4-67108864)=(FV 105*4-67108864)%4294967296:=by rw [IntKind.wrap_u32]
        rcases hb with rfl|rfl
        · refine (say_t6 b 0 r.form ol s x w FV CN HN HF hs r.ops.length (by omega) hcn (by rw [hS1,hs1]) hbig (by omega) (by omega) _ rfl hI2).mono ?_
          rintro e w' ⟨rfl,hb⟩
          exact ⟨congrArg _ (ins_of r x FV hF _ _ _ hop hs2 him),hb⟩
        · refine (say_t8 b 0 r.form ol s x w FV CN HN HF hs r.ops.length (by omega) hcn (by rw [hS1,hs1]) hbig (by omega) (by omega) _ rfl hI2).mono ?_
          rintro e w' ⟨rfl,hb⟩
          exact ⟨congrArg _ (ins_of r x FV hF _ _ _ hop hs2 him),hb⟩
      · have him:immJ (opJ r x) (fvP 105 x r.pat)=FV 105*4:=by
          rw [immJ,hB,if_pos rfl,e105,if_neg (by omega)]; omega
        rcases hb with rfl|rfl
        · refine (say_t5 b 0 r.form ol s x w FV CN HN HF hs r.ops.length (by omega) hcn (by rw [hS1,hs1]) hbig (by omega) (by omega)).mono ?_
          rintro e w' ⟨rfl,hb⟩
          exact ⟨congrArg _ (ins_of r x FV hF _ _ _ hop hs2 him),hb⟩
        · refine (say_t7 b 0 r.form ol s x w FV CN HN HF hs r.ops.length (by omega) hcn (by rw [hS1,hs1]) hbig (by omega) (by omega)).mono ?_
          rintro e w' ⟨rfl,hb⟩
          exact ⟨congrArg _ (ins_of r x FV hF _ _ _ hop hs2 him),hb⟩
    · have h41:(o0 == 41)=false:=by rw [beq_eq_false_iff_ne]; omega
      have h42:(o0 == 42)=false:=by rw [beq_eq_false_iff_ne]; omega
      have hB:isB (opJ r x)=false:=by rw [hop,isB,h41,h42]; rfl
      have him:immJ (opJ r x) (fvP 105 x r.pat)=FV 105:=by rw [immJ,hB,e105]; rfl
      cases hs1:fvP 115 x r.pat == 1
      · refine (say_t1 b o0 r.form ol s x w FV CN HN HF hs r.ops.length (by omega) hcn (by rw [hS1,hs1]) h41 h42).mono ?_
        rintro e w' ⟨rfl,hb⟩
        refine ⟨congrArg _ (ins_of r x FV hF _ _ _ hop ?_ him),hb⟩
        rw [hs1,Bool.false_or,hop,tests_or]
      · refine (say_t2 b o0 r.form ol s x w FV CN HN HF hs r.ops.length (by omega) hcn (by rw [hS1,hs1]) h41 h42).mono ?_
        rintro e w' ⟨rfl,hb⟩
        exact ⟨congrArg _ (ins_of r x FV hF _ _ _ hop (by rw [hs1]; rfl) him),hb⟩
def mayL (ANY L1 L15:Bool) (q jc jo jd jn jm ja jk jl:Int) (jp jw:Bool):Bool :=
  bif (jc == 15 || (q == 3 && ANY)) then false else
  bif (decide (17≤jo) && decide (jo≤30)) then (!ANY && (decide (jo<21) || (decide (24<jo) || jd !=ja))) else
  bif (decide (31≤jo) && decide (jo≤38)) then (bif ((jw && !jp) || ((jw || !jp) && (jn == 15 || jn == jd))) then false else ((q == 1 || jm !=15) && (jd !=15 || jo == 31))) else
  bif (jo == 39 || jo == 40) then (bif (jl == 0 || (jn == 15 || (jw && L1))) then false else (jo == 39 || !L15)) else
  bif (jo == 43 || jo == 44) then jm !=15 else
  bif (jo == 46) then jc == 14 else
  bif (jo == 47 || (jo == 49 || jo == 50)) then jd !=15 else
  bif (jo == 48) then (jk !=0 && (q == 1 || jm !=15)) else true
theorem wm_cells {W w:World} {a b c x0 x1 x2 x3 x4 x5 x6 x7 x8 x9 x10 x11 x12 x13 x14 x15:Value} {L:List Value} (h:WX W [a,b,c] (x0::x1::x2::x3::x4::x5::x6::x7::x8::x9::x10::x11::x12::x13::x14::x15::L) w) :
    w.cell? ⟨W.heap.size,0,none⟩=some a∧w.cell? ⟨W.heap.size,1,none⟩=some b∧w.cell? ⟨W.heap.size,2,none⟩=some c∧w.cell? ⟨W.heap.size+1,0,none⟩=some x0∧w.cell? ⟨W.heap.size+1,1,none⟩=some x1∧w.cell? ⟨W.heap.size+1,4,none⟩=some x4∧w.cell? ⟨W.heap.size+1,5,none⟩=some x5∧w.cell? ⟨W.heap.size+1,6,none⟩=some x6∧w.cell? ⟨W.heap.size+1,8,none⟩=some x8∧w.cell? ⟨W.heap.size+1,11,none⟩=some x11∧w.cell? ⟨W.heap.size+1,12,none⟩=some x12∧w.cell? ⟨W.heap.size+1,14,none⟩=some x14∧w.cell? ⟨W.heap.size+1,15,none⟩=some x15 :=
  ⟨h.row.cell 0,h.row.cell 1,h.row.cell 2,h.ins.cell 0,h.ins.cell 1,h.ins.cell 4,h.ins.cell 5,h.ins.cell 6,h.ins.cell 8,h.ins.cell 11,h.ins.cell 12,h.ins.cell 14,h.ins.cell 15⟩
end Go.Proofs.YtkmgmmmpiallhaaDoor

import Derived.Test.YtnjlajjjcmhfgaaGreatDoorProg
import Derived.WalkKit
import Derived.ProofKit
import Derived.Outline
import Derived.Deep.QuietTactic
import Derived.BigQuiet
import Derived.LoopTactic
import Derived.Deep.RegionHeld3
import Derived.Laws.BitsAllLaws
namespace Go.Proofs.YtnjlajjjcmhfgaaGreatDoor
open Go.RowKit
set_option linter.unusedVariables false
theorem below_drewN {B:Nat} {a w:World} (h:Below B a w) (q:Nat):Below B a (w.drewN q):=⟨h.os,h.tape,h.output,h.size,h.block⟩
theorem below_drew {B:Nat} {a w:World} (h:Below B a w):Below B a w.drew:=⟨h.os,h.tape,h.output,h.size,h.block⟩
def F (w a n:Int):Int:=w / 2^a.toNat%2^n.toNat
def G (v a n:Int):Int:=v%2^n.toNat*2^a.toNat
theorem pow_nat (n:Nat):((2^n:Nat):Int)=2^n:=Int.natCast_pow 2 n
theorem pow_pos (n:Nat):(0:Int)<2^n:=by have:=Nat.two_pow_pos n; have:=pow_nat n; omega
theorem F_lo (w a n:Int):0≤F w a n:=Int.emod_nonneg _ (by have:=pow_pos n.toNat; omega)
theorem F_hi (w a n:Int):F w a n<2^n.toNat:=Int.emod_lt_of_pos _ (pow_pos _)
theorem and_low (y:Int) (n:Nat) (hy:0≤y∧y<4294967296) (hn:n≤8):bits .and .u32 y ((2^n-1)%4294967296)=y%2^n:=by
  obtain ⟨y,rfl⟩:=Int.eq_ofNat_of_zero_le hy.1
  have h1:2^n≤2^8:=Nat.pow_le_pow_right (by omega) hn
  have h2:=Nat.two_pow_pos n
  have e:((2:Int)^n-1)%4294967296=((2^n-1:Nat):Int):=by have:=pow_nat n; omega
  rw [e,u32_and_nat _ _ (by omega) (by omega),Nat.and_two_pow_sub_one_eq_mod,Int.natCast_emod,pow_nat]
theorem shr_range (x:Int) (n:Nat) (hx:0≤x∧x<4294967296):0≤x / 2^n∧x / 2^n<4294967296:=by
  have h:=pow_pos n
  refine ⟨Int.ediv_nonneg hx.1 (by omega),?_⟩
  have:=Int.ediv_le_self (2^n) hx.1
  omega
set_option maxRecDepth 100000 in
theorem field_any (x a n:Int) (w:World) (hx:0≤x∧x<4294967296) (ha:0≤a∧a<32) (hn:0≤n∧n≤8) :
    Calls Tryz.prog 180 #[.int .u32 x,.int .u8 a,.int .u8 n] w fun e w'=>e= .returned (.int .u32 (F x a n))∧w=w':=by
  have hk:=and_low (x / 2^a.toNat) n.toNat (shr_range x _ hx) (by omega)
  go_enter Tryz.func180,Tryz.ntmps180
  go_wp2
  go_ret
  exact ⟨rfl,rfl⟩
set_option maxRecDepth 100000 in
theorem flag_any (x a:Int) (w:World) (hx:0≤x∧x<4294967296) (ha:0≤a∧a<32) :
    Calls Tryz.prog 139 #[.int .u32 x,.int .u8 a] w fun e w'=>e= .returned (.bool (F x a 1 == 1))∧w=w':=by
  go_enter Tryz.func139,Tryz.ntmps139
  go_wp2_with (first|(go_at_call 180; refine (field_any x a 1 _ hx ha (by decide)).mono ?_; rintro e w' ⟨rfl,rfl⟩)|go_in)
  go_ret
  exact ⟨rfl,rfl⟩
set_option maxRecDepth 100000 in
theorem place_any (x a n:Int) (w:World) (hx:0≤x∧x<4294967296) (ha:0≤a∧a<32) (hn:0≤n∧n≤8) (han:a+n≤32) :
    Calls Tryz.prog 182 #[.int .u32 x,.int .u8 a,.int .u8 n] w fun e w'=>e= .returned (.int .u32 (G x a n))∧w=w':=by
  have hk:=and_low x n.toNat hx (by omega)
  have hw:x%2^n.toNat*2^a.toNat%4294967296=x%2^n.toNat*2^a.toNat:=by
    have h1:=Int.emod_nonneg x (show (2:Int)^n.toNat≠0 by have:=pow_pos n.toNat; omega)
    have h2:=Int.emod_lt_of_pos x (pow_pos n.toNat)
    have h3:=pow_pos a.toNat
    have h4:(2:Int)^n.toNat*2^a.toNat≤4294967296:=by
      rw [←Int.pow_add,←pow_nat]
      have:=Nat.pow_le_pow_right (n:=2) (by omega) (show n.toNat+a.toNat≤32 by omega)
      omega
    refine Int.emod_eq_of_lt (Int.mul_nonneg h1 (by omega)) ?_
    exact Int.lt_of_lt_of_le (Int.mul_lt_mul_of_pos_right h2 h3) h4
  go_enter Tryz.func182,Tryz.ntmps182
  go_wp2
  go_ret
  exact ⟨rfl,rfl⟩
set_option maxRecDepth 100000 in
theorem placeFlag_any (b:Bool) (a:Int) (w:World) (ha:0≤a∧a<32) :
    Calls Tryz.prog 183 #[.bool b,.int .u8 a] w fun e w'=>e= .returned (.int .u32 (G (if b then 1 else 0) a 1))∧w=w':=by
  have hw:(2:Int)^a.toNat%4294967296=2^a.toNat:=by
    have h3:=pow_pos a.toNat
    refine Int.emod_eq_of_lt (by omega) ?_
    have:=Nat.pow_lt_pow_right (a:=2) (by omega) (show a.toNat<32 by omega)
    rw [←pow_nat]
    omega
  have e0:G 0 a 1=0:=by unfold G; simp
  have e1:G 1 a 1=2^a.toNat:=by
    unfold G
    rw [show (1:Int)%2^(1:Int).toNat=1 from rfl,Int.one_mul]
  cases b
  · go_enter Tryz.func183,Tryz.ntmps183
    go_wp2
    go_ret
    exact ⟨by simp,rfl⟩
  · go_enter Tryz.func183,Tryz.ntmps183
    go_wp2
    go_ret
    exact ⟨by simp,rfl⟩
def Tb (k:IntKind) (w:World) (g:Nat) (l:List Int):Prop:=∀i v,l[i]? =some v→w.cell? ⟨g,i,none⟩=some (.int k v)
theorem cell_lt {w:World} {p:Addr} {v:Value} (h:w.cell? p=some v):p.block<w.heap.size:=by
  cases hb:w.heap[p.block]? with
  | none=>simp [World.cell?,hb] at h
  | some o=>exact (Array.getElem?_eq_some_iff.1 hb).1
theorem Tb.below {k:IntKind} {w w':World} {g:Nat} {l:List Int} (h:Tb k w g l) (hb:Below w.heap.size w w'):Tb k w' g l:=fun i v hv=>(hb.cell (cell_lt (h i v hv))).trans (h i v hv)
def lFirst:List Int:=[0,1,2,0]
def lSecond:List Int:=[0,4,5,5]
def lBase:List Int:=[0,10,20,24,16,12]
def lTags:List Int:=[0,1,2,262146,1,2]
def lLeaf:List Int:=[0,0,0,0,0,0,0,0,0,0,0,0,10,15,12,16,17,4,10,15,12,16,17,4,4,9,12,10,11,15,4,9,6,10,11,0]
def lKind:List Int:=[0,5,4,2,3]
def lSize:List Int:=[0,0,3,4,2,1]
def lRep:List Int:=[0,1,16,1,16]
structure TD (w:World):Prop where
  first:Tb .u8 w 5 lFirst
  second:Tb .u8 w 6 lSecond
  base:Tb .u8 w 1 lBase
  leaf:Tb .u8 w 8 lLeaf
theorem TD.below {w w':World} (h:TD w) (hb:Below w.heap.size w w'):TD w':=⟨h.first.below hb,h.second.below hb,h.base.below hb,h.leaf.below hb⟩
structure TE (w:World):Prop extends TD w where
  tags:Tb .u32 w 7 lTags
theorem TE.below {w w':World} (h:TE w) (hb:Below w.heap.size w w'):TE w':=⟨h.toTD.below hb,h.tags.below hb⟩
structure TT (w:World):Prop extends TE w where
  size:Tb .u8 w 3 lSize
theorem TT.below {w w':World} (h:TT w) (hb:Below w.heap.size w w'):TT w':=⟨h.toTE.below hb,h.size.below hb⟩
structure TR (w:World):Prop extends TT w where
  kind:Tb .u8 w 2 lKind
theorem TR.below {w w':World} (h:TR w) (hb:Below w.heap.size w w'):TR w':=⟨h.toTT.below hb,h.kind.below hb⟩
end Go.Proofs.YtnjlajjjcmhfgaaGreatDoor
namespace Go.Proofs.YtnjlajjjcmhfgaaGreatDoor
open Go.RowKit
set_option linter.unusedVariables false
structure Ent where
  kind:Int
  base:Int
  dom:Int
  ns:Bool
  ap:Int
  bits:Int
  ng:Bool
  xn:Bool
structure Tra where
  size:Int
  va:Int
  pa:Int
  dom:Int
  ap:Int
  bits:Int
  ng:Bool
  xn:Bool
def Ent.same (a b:Ent):Bool:=a.kind == b.kind && (a.base == b.base && (a.dom == b.dom && (a.ns == b.ns && (a.ap == b.ap && (a.bits == b.bits && (a.ng == b.ng && a.xn == b.xn))))))
def Tra.same (a b:Tra):Bool:=a.size == b.size && (a.va == b.va && (a.pa == b.pa && (a.dom == b.dom && (a.ap == b.ap && (a.bits == b.bits && (a.ng == b.ng && a.xn == b.xn))))))
theorem Ent.same_iff (a b:Ent):a.same b=true↔a=b:=by
  obtain ⟨a1,a2,a3,a4,a5,a6,a7,a8⟩:=a
  obtain ⟨b1,b2,b3,b4,b5,b6,b7,b8⟩:=b
  simp [Ent.same]
theorem Tra.same_iff (a b:Tra):a.same b=true↔a=b:=by
  obtain ⟨a1,a2,a3,a4,a5,a6,a7,a8⟩:=a
  obtain ⟨b1,b2,b3,b4,b5,b6,b7,b8⟩:=b
  simp [Tra.same]
theorem Tra.same_self (a:Tra):a.same a=true:=(Tra.same_iff a a).2 rfl
set_option maxRecDepth 100000 in
theorem eqE (a b:Ent) (w:World):(Op.equalIn 10000 140 (.agg #[.int .i64 a.kind,.int .u64 a.base,.int .i64 a.dom,.bool a.ns,.int .i64 a.ap,.int .u32 a.bits,.bool a.ng,.bool a.xn]) (.agg #[.int .i64 b.kind,.int .u64 b.base,.int .i64 b.dom,.bool b.ns,.int .i64 b.ap,.int .u32 b.bits,.bool b.ng,.bool b.xn])).run Tryz.prog w= .ok (a.same b) w:=by
  obtain ⟨a1,a2,a3,a4,a5,a6,a7,a8⟩:=a
  obtain ⟨b1,b2,b3,b4,b5,b6,b7,b8⟩:=b
  go_simp
  simp only [Ent.same]
  repeat' split
  all_goals simp_all
set_option maxRecDepth 100000 in
theorem eqT (a b:Tra) (w:World):(Op.equalIn 10000 43 (.agg #[.int .i64 a.size,.int .u32 a.va,.int .u64 a.pa,.int .i64 a.dom,.int .i64 a.ap,.int .u32 a.bits,.bool a.ng,.bool a.xn]) (.agg #[.int .i64 b.size,.int .u32 b.va,.int .u64 b.pa,.int .i64 b.dom,.int .i64 b.ap,.int .u32 b.bits,.bool b.ng,.bool b.xn])).run Tryz.prog w= .ok (a.same b) w:=by
  obtain ⟨a1,a2,a3,a4,a5,a6,a7,a8⟩:=a
  obtain ⟨b1,b2,b3,b4,b5,b6,b7,b8⟩:=b
  go_simp
  simp only [Tra.same]
  repeat' split
  all_goals simp_all
def In (m:Nat) (a:Int):Prop:=∃k:Nat,a=(k:Int)∧k &&& m=k
theorem nat_or_add {k l:Nat} (hk:k<2^63) (hl:l<2^63) (h:k &&& l=0):k ||| l=k+l:=by
  have e:=BitVec.add_eq_or_of_and_eq_zero (BitVec.ofNat 64 k) (BitVec.ofNat 64 l) (by
    apply BitVec.eq_of_toNat_eq
    rw [BitVec.toNat_and,BitVec.toNat_ofNat,BitVec.toNat_ofNat,Nat.mod_eq_of_lt (by omega),Nat.mod_eq_of_lt (by omega),h]
    rfl)
  have e2:=congrArg BitVec.toNat e
  rw [BitVec.toNat_add,BitVec.toNat_or,BitVec.toNat_ofNat,BitVec.toNat_ofNat,Nat.mod_eq_of_lt (show k<2^64 by omega),Nat.mod_eq_of_lt (show l<2^64 by omega)] at e2
  omega
theorem in_or {m n:Nat} {a b:Int} (ha:In m a) (hb:In n b) (hd:m &&& n=0) (hm:m<2^63) (hn:n<2^63):∃k l:Nat,a=k∧b=l∧k≤m∧l≤n∧k ||| l=k+l∧In (m ||| n) (a+b):=by
  obtain ⟨k,rfl,hk⟩:=ha
  obtain ⟨l,rfl,hl⟩:=hb
  have k1:=Nat.and_le_right (n:=k) (m:=m)
  have l1:=Nat.and_le_right (n:=l) (m:=n)
  have hz:k &&& l=0:=by
    rw [←hk,←hl,Nat.and_assoc,←Nat.and_assoc m l n,Nat.and_comm m l,Nat.and_assoc l m n,hd,Nat.and_zero,Nat.and_zero]
  have ho:=nat_or_add (by omega) (by omega) hz
  refine ⟨k,l,rfl,rfl,by omega,by omega,ho,k+l,by omega,?_⟩
  rw [←ho]
  apply Nat.eq_of_testBit_eq
  intro j
  have tk:=congrArg (fun z=>z.testBit j) hk
  have tl:=congrArg (fun z=>z.testBit j) hl
  simp only [Nat.testBit_and] at tk tl
  simp only [Nat.testBit_and,Nat.testBit_or]
  revert tk tl
  cases k.testBit j <;>cases l.testBit j <;>cases m.testBit j <;>cases n.testBit j <;>simp
theorem or32 {m n:Nat} {a b:Int} (ha:In m a) (hb:In n b) (hd:m &&& n=0) (hm:m<4294967296) (hn:n<4294967296):bits .or .u32 a b=a+b∧In (m ||| n) (a+b):=by
  obtain ⟨k,l,rfl,rfl,hk,hl,ho,hi⟩:=in_or ha hb hd (by omega) (by omega)
  refine ⟨?_,hi⟩
  rw [u32_or_nat k l (by omega) (by omega),ho]
  omega
theorem or64 {m n:Nat} {a b:Int} (ha:In m a) (hb:In n b) (hd:m &&& n=0) (hm:m<2^63) (hn:n<2^63):bits .or .u64 a b=a+b∧In (m ||| n) (a+b):=by
  obtain ⟨k,l,rfl,rfl,hk,hl,ho,hi⟩:=in_or ha hb hd (by omega) (by omega)
  refine ⟨?_,hi⟩
  rw [u64_or_nat k l (by omega) (by omega),ho]
  omega
theorem in_low (v:Int) (n:Nat) (hv:0≤v) (h:v<2^n):In (2^n-1) v:=by
  obtain ⟨k,rfl⟩:=Int.eq_ofNat_of_zero_le hv
  refine ⟨k,rfl,?_⟩
  rw [Nat.and_two_pow_sub_one_eq_mod,Nat.mod_eq_of_lt]
  rw [←pow_nat] at h
  omega
theorem In.shl {m:Nat} {v:Int} (h:In m v) (a:Nat):In (m*2^a) (v*2^a):=by
  obtain ⟨k,rfl,hk⟩:=h
  refine ⟨k*2^a,by rw [Int.natCast_mul,pow_nat],?_⟩
  apply Nat.eq_of_testBit_eq
  intro j
  rw [Nat.testBit_and,Nat.testBit_mul_two_pow,Nat.testBit_mul_two_pow]
  have tk:=congrArg (fun z=>z.testBit (j-a)) hk
  simp only [Nat.testBit_and] at tk
  revert tk
  by_cases hj:a≤j
  · simp [hj]
  · simp [hj]
theorem in_F (x a n:Int):In (2^n.toNat-1) (F x a n):=in_low _ _ (F_lo x a n) (F_hi x a n)
theorem in_G (x a n:Int):In ((2^n.toNat-1)*2^a.toNat) (G x a n):=(in_low _ _ (Int.emod_nonneg _ (by have:=pow_pos n.toNat; omega)) (Int.emod_lt_of_pos _ (pow_pos _))).shl _
end Go.Proofs.YtnjlajjjcmhfgaaGreatDoor
namespace Go.Proofs.YtnjlajjjcmhfgaaGreatDoor
open Go.RowKit
set_option linter.unusedVariables false
def dZ:Ent:=⟨0,0,0,false,0,0,false,false⟩
def dT (x:Int):Ent:=⟨1,x / 1024*1024,F x 5 4,F x 3 1 == 1,0,0,false,false⟩
def dS (x:Int):Ent:=⟨2,x / 1048576*1048576,F x 5 4,F x 19 1 == 1,F x 15 1*4+F x 10 2,F x 12 3*8+F x 2 2*2+F x 16 1,F x 17 1 == 1,F x 4 1 == 1⟩
def dU (x:Int):Ent:=⟨3,x / 16777216*16777216+(F x 20 4*4294967296+F x 5 4*68719476736),0,F x 19 1 == 1,F x 15 1*4+F x 10 2,F x 12 3*8+F x 2 2*2+F x 16 1,F x 17 1 == 1,F x 4 1 == 1⟩
def dL (x:Int):Ent:=⟨4,x / 65536*65536,0,false,F x 9 1*4+F x 4 2,F x 12 3*8+F x 2 2*2+F x 10 1,F x 11 1 == 1,F x 15 1 == 1⟩
def dM (x:Int):Ent:=⟨5,x / 4096*4096,0,false,F x 9 1*4+F x 4 2,F x 6 3*8+F x 2 2*2+F x 10 1,F x 11 1 == 1,F x 0 1 == 1⟩
def D1 (x:Int):Ent:=if x%4=1 then dT x else if x%4=2 then (if F x 18 1=1 then dU x else dS x) else dZ
def D2 (x:Int):Ent:=if x%4=0 then dZ else if x%4=1 then dL x else dM x
theorem leafA (x a b:Int):IntKind.i64.wrap (bits .or .u32 (IntKind.u32.wrap (F x a 1*4)) (F x b 2))=F x a 1*4+F x b 2:=by
  have h1:=F_lo x a 1
  have h2:F x a 1<2:=F_hi x a 1
  have h3:=F_lo x b 2
  have h4:F x b 2<4:=F_hi x b 2
  rw [IntKind.wrap_u32,show F x a 1*4%4294967296=F x a 1*4 by omega,(or32 (m:=4) (n:=3) (show In 4 (F x a 1*4) from (in_F x a 1).shl 2) (in_F x b 2) (by decide) (by decide) (by decide)).1,IntKind.wrap_i64]
  omega
theorem leafB (x t s:Int):bits .or .u32 (bits .or .u32 (IntKind.u32.wrap (F x t 3*8)) (IntKind.u32.wrap (F x 2 2*2))) (F x s 1)=F x t 3*8+F x 2 2*2+F x s 1:=by
  have h1:=F_lo x t 3
  have h2:F x t 3<8:=F_hi x t 3
  have h3:=F_lo x 2 2
  have h4:F x 2 2<4:=F_hi x 2 2
  have ho:=or32 (m:=56) (n:=6) ((in_F x t 3).shl 3) ((in_F x 2 2).shl 1) (by decide) (by decide) (by decide)
  rw [IntKind.wrap_u32,IntKind.wrap_u32,show F x t 3*8%4294967296=F x t 3*8 by omega,show F x 2 2*2%4294967296=F x 2 2*2 by omega]
  rw [show F x t 3*8=F x t 3*2^3 from rfl,show F x 2 2*2=F x 2 2*2^1 from rfl]
  rw [ho.1,(or32 ho.2 (in_F x s 1) (by decide) (by decide) (by decide)).1]
end Go.Proofs.YtnjlajjjcmhfgaaGreatDoor
namespace Go.Proofs.YtnjlajjjcmhfgaaGreatDoor
open Go.RowKit
set_option linter.unusedVariables false
set_option linter.unusedSimpArgs false
def b2 (b:Bool):Int:=if b then 1 else 0
def EL (lo hi tx sh ng xn:Int) (ap bt:Int) (g x:Bool):Int:=G (ap%4294967296) lo 2+G (ap%4294967296 / 4) hi 1+G bt sh 1+G (bt / 2) 2 2+G (bt / 8) tx 3+G (b2 g) ng 1+G (b2 x) xn 1
def eT (e:Ent):Int:=1+e.base%4294967296 / 1024*1024+G (e.dom%4294967296) 5 4+G (b2 e.ns) 3 1
def eS (e:Ent):Int:=2+e.base%4294967296 / 1048576*1048576+(G (e.dom%4294967296) 5 4+G (b2 e.ns) 19 1)+EL 10 15 12 16 17 4 e.ap e.bits e.ng e.xn
def eU (e:Ent):Int:=262146+e.base%4294967296 / 16777216*16777216+(G (e.base / 4294967296%4294967296) 20 4+G (e.base / 68719476736%4294967296) 5 4+G (b2 e.ns) 19 1)+EL 10 15 12 16 17 4 e.ap e.bits e.ng e.xn
def eL (e:Ent):Int:=1+e.base%4294967296 / 65536*65536+EL 4 9 12 10 11 15 e.ap e.bits e.ng e.xn
def eM (e:Ent):Int:=2+e.base%4294967296 / 4096*4096+EL 4 9 6 10 11 0 e.ap e.bits e.ng e.xn
def E (e:Ent):Int:=if e.kind=1 then eT e else if e.kind=2 then eS e else if e.kind=3 then eU e else if e.kind=4 then eL e else if e.kind=5 then eM e else 0
theorem or7 {m1 m2 m3 m4 m5 m6 m7:Nat} {a1 a2 a3 a4 a5 a6 a7:Int} (h1:In m1 a1) (h2:In m2 a2) (h3:In m3 a3) (h4:In m4 a4) (h5:In m5 a5) (h6:In m6 a6) (h7:In m7 a7)
    (g:(m1 &&& m2=0∧(m1 ||| m2) &&& m3=0∧(m1 ||| m2 ||| m3) &&& m4=0∧(m1 ||| m2 ||| m3 ||| m4) &&& m5=0∧(m1 ||| m2 ||| m3 ||| m4 ||| m5) &&& m6=0∧(m1 ||| m2 ||| m3 ||| m4 ||| m5 ||| m6) &&& m7=0)∧
      m1<4294967296∧m2<4294967296∧m3<4294967296∧m4<4294967296∧m5<4294967296∧m6<4294967296∧m7<4294967296∧m1 ||| m2<4294967296∧m1 ||| m2 ||| m3<4294967296∧m1 ||| m2 ||| m3 ||| m4<4294967296∧m1 ||| m2 ||| m3 ||| m4 ||| m5<4294967296∧m1 ||| m2 ||| m3 ||| m4 ||| m5 ||| m6<4294967296) :
    bits .or .u32 (bits .or .u32 (bits .or .u32 (bits .or .u32 (bits .or .u32 (bits .or .u32 a1 a2) a3) a4) a5) a6) a7=a1+a2+a3+a4+a5+a6+a7∧In (m1 ||| m2 ||| m3 ||| m4 ||| m5 ||| m6 ||| m7) (a1+a2+a3+a4+a5+a6+a7):=by
  obtain ⟨⟨d1,d2,d3,d4,d5,d6⟩,l1,l2,l3,l4,l5,l6,l7,k2,k3,k4,k5,k6⟩:=g
  have o1:=or32 h1 h2 d1 l1 l2
  have o2:=or32 o1.2 h3 d2 k2 l3
  have o3:=or32 o2.2 h4 d3 k3 l4
  have o4:=or32 o3.2 h5 d4 k4 l5
  have o5:=or32 o4.2 h6 d5 k5 l6
  have o6:=or32 o5.2 h7 d6 k6 l7
  exact ⟨by rw [o1.1,o2.1,o3.1,o4.1,o5.1,o6.1],o6.2⟩
theorem in_one (n:Nat):In n (n:Int):=⟨n,rfl,Nat.and_self n⟩
theorem in_base (x:Int) (n:Nat) (hn:n≤32):In ((2^(32-n)-1)*2^n) (x%4294967296 / 2^n*2^n):=by
  have h0:=pow_pos n
  refine In.shl (in_low _ (32-n) (Int.ediv_nonneg (by omega) (by omega)) ?_) n
  refine Int.ediv_lt_of_lt_mul h0 ?_
  rw [←Int.pow_add,show 32-n+n=32 by omega]
  have:(2:Int)^32=4294967296:=by decide
  omega
theorem base_lt (x:Int) (a:Int) (ha:0<a):x%4294967296 / a*a%4294967296=x%4294967296 / a*a:=by
  have h1:=Int.ediv_mul_le (x%4294967296) (b:=a) (by omega)
  have h2:0≤x%4294967296 / a:=Int.ediv_nonneg (by omega) (by omega)
  have h3:=Int.mul_nonneg h2 (Int.le_of_lt ha)
  omega
theorem elA (ap bt:Int) (g x:Bool):bits .or .u32 (bits .or .u32 (bits .or .u32 (bits .or .u32 (bits .or .u32 (bits .or .u32 (G (ap%4294967296) 10 2) (G (ap%4294967296 / 4) 15 1)) (G bt 16 1)) (G (bt / 2) 2 2)) (G (bt / 8) 12 3)) (G (b2 g) 17 1)) (G (b2 x) 4 1)=EL 10 15 12 16 17 4 ap bt g x∧In 261148 (EL 10 15 12 16 17 4 ap bt g x) :=
  or7 (in_G _ 10 2) (in_G _ 15 1) (in_G _ 16 1) (in_G _ 2 2) (in_G _ 12 3) (in_G _ 17 1) (in_G _ 4 1) (by decide)
theorem elB (ap bt:Int) (g x:Bool):bits .or .u32 (bits .or .u32 (bits .or .u32 (bits .or .u32 (bits .or .u32 (bits .or .u32 (G (ap%4294967296) 4 2) (G (ap%4294967296 / 4) 9 1)) (G bt 10 1)) (G (bt / 2) 2 2)) (G (bt / 8) 12 3)) (G (b2 g) 11 1)) (G (b2 x) 15 1)=EL 4 9 12 10 11 15 ap bt g x∧In 65084 (EL 4 9 12 10 11 15 ap bt g x) :=
  or7 (in_G _ 4 2) (in_G _ 9 1) (in_G _ 10 1) (in_G _ 2 2) (in_G _ 12 3) (in_G _ 11 1) (in_G _ 15 1) (by decide)
theorem elC (ap bt:Int) (g x:Bool):bits .or .u32 (bits .or .u32 (bits .or .u32 (bits .or .u32 (bits .or .u32 (bits .or .u32 (G (ap%4294967296) 4 2) (G (ap%4294967296 / 4) 9 1)) (G bt 10 1)) (G (bt / 2) 2 2)) (G (bt / 8) 6 3)) (G (b2 g) 11 1)) (G (b2 x) 0 1)=EL 4 9 6 10 11 0 ap bt g x∧In 4093 (EL 4 9 6 10 11 0 ap bt g x) :=
  or7 (in_G _ 4 2) (in_G _ 9 1) (in_G _ 10 1) (in_G _ 2 2) (in_G _ 6 3) (in_G _ 11 1) (in_G _ 0 1) (by decide)
end Go.Proofs.YtnjlajjjcmhfgaaGreatDoor

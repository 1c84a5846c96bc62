import Derived.Test.YtkmgmmmpiallhaaDoorBa
namespace Go.Proofs.YtkmgmmmpiallhaaDoor
open Go.RowKit
set_option linter.unusedVariables false
structure Ins where
  cond:Int
  op:Int
  s:Bool
  form:Int
  rd:Int
  rn:Int
  rm:Int
  rs:Int
  ra:Int
  imm:Int
  shift:Int
  amount:Int
  pre:Bool
  up:Bool
  write:Bool
  list:Int
  crn:Int
  op1:Int
  crm:Int
  op2:Int
def insL (i:Ins):List Value:=[.int .i64 i.cond,.int .i64 i.op,.bool i.s,.int .i64 i.form,.int .i64 i.rd,.int .i64 i.rn,.int .i64 i.rm,.int .i64 i.rs,.int .i64 i.ra,.int .u32 i.imm,.int .i64 i.shift,.int .i64 i.amount,.bool i.pre,.bool i.up,.bool i.write,.int .u16 i.list,.int .i64 i.crn,.int .i64 i.op1,.int .i64 i.crm,.int .i64 i.op2]
def insA (i:Ins):Array Value:=(insL i).toArray
def insZ:Ins:=⟨0,0,false,0,0,0,0,0,0,0,0,0,false,false,false,0,0,0,0,0⟩
theorem insL_len (i:Ins):(insL i).length=20:=rfl
def Ins.same (i j:Ins):Bool:=i.cond == j.cond && (i.op == j.op && (i.s == j.s && (i.form == j.form && (i.rd == j.rd && (i.rn == j.rn && (i.rm == j.rm && (i.rs == j.rs && (i.ra == j.ra && (i.imm == j.imm && (i.shift == j.shift && (i.amount == j.amount && (i.pre == j.pre && (i.up == j.up && (i.write == j.write && (i.list == j.list && (i.crn == j.crn && (i.op1 == j.op1 && (i.crm == j.crm && i.op2 == j.op2))))))))))))))))))
theorem Ins.same_iff (i j:Ins):i.same j=true↔i=j:=by
  cases i; cases j
  simp only [Ins.same,Bool.and_eq_true,beq_iff_eq,Ins.mk.injEq]
theorem Ins.same_self (i:Ins):i.same i=true:=(Ins.same_iff i i).2 rfl
theorem Ins.same_ne {i j:Ins} (h:i≠j):i.same j=false:=by
  cases e:i.same j
  · rfl
  · exact absurd ((Ins.same_iff i j).1 e) h
structure IOk (i:Ins):Prop where
  cond: -9223372036854775808≤i.cond∧i.cond≤9223372036854775807
  op: -9223372036854775808≤i.op∧i.op≤9223372036854775807
  form: -9223372036854775808≤i.form∧i.form≤9223372036854775807
  rd: -9223372036854775808≤i.rd∧i.rd≤9223372036854775807
  rn: -9223372036854775808≤i.rn∧i.rn≤9223372036854775807
  rm: -9223372036854775808≤i.rm∧i.rm≤9223372036854775807
  rs: -9223372036854775808≤i.rs∧i.rs≤9223372036854775807
  ra: -9223372036854775808≤i.ra∧i.ra≤9223372036854775807
  imm:0≤i.imm∧i.imm<4294967296
  shift: -9223372036854775808≤i.shift∧i.shift≤9223372036854775807
  amount: -9223372036854775808≤i.amount∧i.amount≤9223372036854775807
  list:0≤i.list∧i.list<65536
  crn: -9223372036854775808≤i.crn∧i.crn≤9223372036854775807
  op1: -9223372036854775808≤i.op1∧i.op1≤9223372036854775807
  crm: -9223372036854775808≤i.crm∧i.crm≤9223372036854775807
  op2: -9223372036854775808≤i.op2∧i.op2≤9223372036854775807
structure RowP where
  op:Nat
  form:Nat
  mask:Nat
  bits:Nat
  parts:Nat
def rowL (r:RowP):List Value:=[.int .u8 (r.op:Int),.int .u8 (r.form:Int),.int .u32 (r.mask:Int),.int .u32 (r.bits:Int),.int .u32 (r.parts:Int)]
def rowZ:RowP:=⟨0,0,0,0,0⟩
structure PartP where
  fld:Nat
  at_:Nat
  wide:Nat
  frm:Nat
def lowL:List RowP:=[
  ⟨1,1,251658240,33554432,555⟩,
  ⟨1,2,251658256,0,196715⟩,
  ⟨1,3,251658384,16,65771⟩,
  ⟨13,1,262144000,58720256,555⟩,
  ⟨13,2,262144016,25165824,196715⟩,
  ⟨13,3,262144144,25165840,65771⟩,
  ⟨9,1,261156864,51380224,547⟩,
  ⟨9,2,261156880,17825792,196707⟩,
  ⟨9,3,261157008,17825808,65763⟩,
  ⟨14,1,263127040,60817408,523⟩,
  ⟨14,2,263127056,27262976,196683⟩,
  ⟨14,3,263127184,27262992,65739⟩,
  ⟨17,0,267386880,50331648,33288⟩,
  ⟨18,0,267386880,54525952,33288⟩,
  ⟨19,0,266399984,144,210⟩,
  ⟨20,0,266338544,2097296,466⟩,
  ⟨21,0,266338544,8388752,466⟩,
  ⟨22,0,266338544,10485904,466⟩,
  ⟨23,0,266338544,12583056,466⟩,
  ⟨24,0,266338544,14680208,466⟩,
  ⟨25,0,268374000,24055568,72⟩,
  ⟨35,1,240124144,5243056,7352360⟩,
  ⟨36,1,240124144,4194480,7352360⟩,
  ⟨37,1,240124144,5243088,7352360⟩,
  ⟨38,1,240124144,5243120,7352360⟩,
  ⟨35,2,240127984,1048752,7340136⟩,
  ⟨36,2,240127984,176,7340136⟩,
  ⟨37,2,240127984,1048784,7340136⟩,
  ⟨38,2,240127984,1048816,7340136⟩,
  ⟨43,0,268435440,19922704,64⟩,
  ⟨44,0,268435440,19922736,64⟩,
  ⟨46,0,267387120,18874480,20480⟩,
  ⟨47,0,264179711,17760256,12⟩,
  ⟨51,0,268435455,52490240,0⟩,
  ⟨52,0,268435455,52490243,0⟩,
  ⟨48,2,263258096,18935808,524356⟩,
  ⟨48,1,263254016,52490240,524804⟩]
def highL:List RowP:=[
  ⟨31,1,240123904,68157440,7340584⟩,
  ⟨32,1,240123904,67108864,7340584⟩,
  ⟨33,1,240123904,72351744,7340584⟩,
  ⟨34,1,240123904,71303168,7340584⟩,
  ⟨31,2,240123920,101711872,7536744⟩,
  ⟨32,2,240123920,100663296,7536744⟩,
  ⟨33,2,240123920,105906176,7536744⟩,
  ⟨34,2,240123920,104857600,7536744⟩,
  ⟨26,0,268374000,113184560,72⟩,
  ⟨27,0,268370928,116326512,262216⟩,
  ⟨28,0,268370928,117375088,262216⟩,
  ⟨29,0,268370928,112132208,262216⟩,
  ⟨30,0,268370928,113180784,262216⟩,
  ⟨39,0,240123904,135266304,15728672⟩,
  ⟨40,0,240123904,134217728,15728672⟩,
  ⟨41,0,251658240,167772160,2048⟩,
  ⟨42,0,251658240,184549376,2048⟩,
  ⟨45,0,251658240,251658240,1024⟩,
  ⟨49,0,252710672,234884880,251658248⟩,
  ⟨50,0,252710672,235933456,251658248⟩]
def plL:List PartP:=[
  ⟨0,21,4,0⟩,
  ⟨1,20,1,0⟩,
  ⟨1,22,1,0⟩,
  ⟨2,12,4,0⟩,
  ⟨2,16,4,0⟩,
  ⟨3,16,4,0⟩,
  ⟨4,0,4,0⟩,
  ⟨5,8,4,0⟩,
  ⟨6,12,4,0⟩,
  ⟨7,0,12,0⟩,
  ⟨7,0,24,0⟩,
  ⟨7,0,24,2⟩,
  ⟨7,0,4,0⟩,
  ⟨7,8,4,4⟩,
  ⟨7,8,12,4⟩,
  ⟨7,16,4,12⟩,
  ⟨8,5,2,0⟩,
  ⟨9,7,5,0⟩,
  ⟨9,10,2,0⟩,
  ⟨9,16,4,0⟩,
  ⟨10,24,1,0⟩,
  ⟨11,23,1,0⟩,
  ⟨12,21,1,0⟩,
  ⟨13,0,16,0⟩,
  ⟨14,16,4,0⟩,
  ⟨15,21,3,0⟩,
  ⟨16,0,4,0⟩,
  ⟨17,5,3,0⟩]
def dbL:List Nat:=[0,1,28,2,29,14,24,3,30,22,20,15,25,17,4,8,31,27,13,23,21,19,16,7,26,12,18,6,11,5,10,9]
def tzP (x:Nat):Nat:=dbL.getD ((x &&& (4294967296-x))*125613361%4294967296 / 134217728) 0
def plP (k:Nat):PartP:=plL.getD k ⟨0,0,0,0⟩
def fitR (w:Nat) (r:RowP):Bool:=w &&& r.mask == r.bits
def rowW (w:Nat):Option RowP:=if w / 67108864%4=0 then lowL.find? (fitR w) else highL.find? (fitR w)
def alikeP (op:Int):Int :=
  if op=1∨op=2∨op=3∨op=4∨op=5∨op=6∨op=7∨op=8 then 1 else
  if op=9∨op=10∨op=11∨op=12 then 9 else
  if op=13∨op=15 then 13 else
  if op=14∨op=16 then 14 else op
def isOfR (op form:Int) (r:RowP):Bool:=(r.op:Int) == op && (r.form:Int) == form
def rowN (op form:Int):Option RowP:=(lowL++highL).find? (isOfR (alikeP op) form)
def putP (i:Ins) (f v:Nat):Ins :=
  if f=0 then { i with op:=(v:Int)+1 } else
  if f=1 then { i with s:=v == 1 } else
  if f=2 then { i with rd:=v } else
  if f=3 then { i with rn:=v } else
  if f=4 then { i with rm:=v } else
  if f=5 then { i with rs:=v } else
  if f=6 then { i with ra:=v } else
  if f=7 then { i with imm:=((i.imm.toNat ||| v:Nat):Int) } else
  if f=8 then { i with shift:=v } else
  if f=9 then { i with amount:=v } else
  if f=10 then { i with pre:=v == 1 } else
  if f=11 then { i with up:=v == 1 } else
  if f=12 then { i with write:=v == 1 } else
  if f=13 then { i with list:=((v%65536:Nat):Int) } else
  if f=14 then { i with crn:=v } else
  if f=15 then { i with op1:=v } else
  if f=16 then { i with crm:=v } else
  if f=17 then { i with op2:=v } else i
def valP (i:Ins) (f:Nat):Nat :=
  if f=0 then ((i.op-1)%4294967296).toNat else
  if f=1 then i.s.toNat else
  if f=2 then (i.rd%4294967296).toNat else
  if f=3 then (i.rn%4294967296).toNat else
  if f=4 then (i.rm%4294967296).toNat else
  if f=5 then (i.rs%4294967296).toNat else
  if f=6 then (i.ra%4294967296).toNat else
  if f=7 then i.imm.toNat else
  if f=8 then (i.shift%4294967296).toNat else
  if f=9 then (i.amount%4294967296).toNat else
  if f=10 then i.pre.toNat else
  if f=11 then i.up.toNat else
  if f=12 then i.write.toNat else
  if f=13 then i.list.toNat else
  if f=14 then (i.crn%4294967296).toNat else
  if f=15 then (i.op1%4294967296).toNat else
  if f=16 then (i.crm%4294967296).toNat else (i.op2%4294967296).toNat
def chainP:Nat→Nat→List Nat
  | 0,_=>[]
  | n+1,left=>if left=0 then [] else tzP left::chainP n (left &&& (left-1))
def getP (w k:Nat):Nat:=w / 2^(plP k).at_%2^(plP k).wide*2^(plP k).frm%4294967296
def readF (w:Nat) (i:Ins):List Nat→Ins
  | []=>i
  | k::l=>readF w (putP i (plP k).fld (getP w k)) l
def signP (x:Nat):Nat:=if x / 33554432%2=1 then x%67108864+4227858432 else x%67108864
def hasR (r:RowP) (k:Nat):Bool:=r.parts / 2^k%2 == 1
def readP (r:RowP) (w:Nat):Ins :=
  let i:=readF w { insZ with cond:=((w / 268435456:Nat):Int),op:=r.op,form:=r.form } (chainP 32 r.parts)
  if hasR r 11 then { i with imm:=(signP i.imm.toNat:Nat) } else i
def layG (i:Ins) (k:Nat):Nat:=valP i (plP k).fld / 2^(plP k).frm%2^(plP k).wide*2^(plP k).at_%4294967296
def layF (i:Ins) (w:Nat):List Nat→Nat
  | []=>w
  | k::l=>layF i (w ||| layG i k) l
def layP (r:RowP) (i:Ins):Nat:=layF i (r.bits ||| (i.cond%4294967296*268435456%4294967296).toNat) (chainP 32 r.parts)
def isLongP (op:Int):Bool:=decide (21≤op) && decide (op≤24)
def isOneP (op:Int):Bool:=decide (31≤op) && decide (op≤38)
def movesP (i:Ins):Bool:=i.write || isOneP i.op && !i.pre
def oneMayP (i:Ins):Bool:= !(i.write && !i.pre) && (!(movesP i && (i.rn == 15 || i.rn == i.rd)) && (!(i.rm == 15) && (!(i.rd == 15) || i.op == 31)))
def lsP (l n:Int):Bool:=l / 2^n.toNat%2 == 1
def manyMayP (i:Ins):Bool:= !(i.list == 0 || i.rn == 15) && (!(i.write && lsP i.list i.rn) && (i.op == 39 || !lsP i.list 15))
def mayP (i:Ins):Bool :=
  if i.cond=15 then false else
  if i.form=3 then !(i.rd == 15 || (i.rn == 15 || (i.rm == 15 || i.rs == 15))) else
  if 17≤i.op∧i.op≤30 then !(i.rd == 15 || (i.rm == 15 || (i.rs == 15 || i.ra == 15))) && !(isLongP i.op && i.rd == i.ra) else
  if isOneP i.op then oneMayP i else
  if i.op=39∨i.op=40 then manyMayP i else
  if i.op=43∨i.op=44 then !(i.rm == 15) else
  if i.op=47∨i.op=49∨i.op=50 then !(i.rd == 15) else
  if i.op=48 then !(i.amount == 0) && !(i.rm == 15) else
  if i.op=46 then i.cond == 14 else true
def decP (w:Nat):Option Ins :=
  match rowW w with
  | none=>none
  | some r=>if mayP (readP r w) then some (readP r w) else none
def encP (i:Ins):Option Nat :=
  match rowN i.op i.form with
  | none=>none
  | some r=>match decP (layP r i) with
    | none=>none
    | some j=>if j.same i then some (layP r i) else none
end Go.Proofs.YtkmgmmmpiallhaaDoor

import Derived.Test.YtilhceajhlaojaaGreatDoorZ0
namespace Go.Proofs.YtilhceajhlaojaaGreatDoor.Is
open Go.RowKit
set_option linter.unusedVariables false
/-- An instruction. -/
structure Ins where
  cond : Int
  op : Int
  s : Bool
  form : Int
  rd : Int
  rn : Int
  rm : Int
  rs : Int
  ra : Int
  imm : Int
  shift : Int
  amount : Int
  pre : Bool
  up : Bool
  write : Bool
  list : Int
  crn : Int
  op1 : Int
  crm : Int
  op2 : Int
def insL (i : Ins) : List Value := [.int .i64 i.cond, .int .i64 i.op, .bool i.s, .int .i64 i.form, .int .i64 i.rd, .int .i64 i.rn, .int .i64 i.rm, .int .i64 i.rs, .int .i64 i.ra, .int .u32 i.imm, .int .i64 i.shift, .int .i64 i.amount, .bool i.pre, .bool i.up, .bool i.write, .int .u16 i.list, .int .i64 i.crn, .int .i64 i.op1, .int .i64 i.crm, .int .i64 i.op2]
def insA (i : Ins) : Array Value := (insL i).toArray
def insZ : Ins := ⟨0, 0, false, 0, 0, 0, 0, 0, 0, 0, 0, 0, false, false, false, 0, 0, 0, 0, 0⟩
theorem insL_len (i : Ins) : (insL i).length = 20 := rfl
def Ins.same (i j : Ins) : Bool := i.cond == j.cond && (i.op == j.op && (i.s == j.s && (i.form == j.form && (i.rd == j.rd && (i.rn == j.rn && (i.rm == j.rm && (i.rs == j.rs && (i.ra == j.ra && (i.imm == j.imm && (i.shift == j.shift && (i.amount == j.amount && (i.pre == j.pre && (i.up == j.up && (i.write == j.write && (i.list == j.list && (i.crn == j.crn && (i.op1 == j.op1 && (i.crm == j.crm && i.op2 == j.op2))))))))))))))))))
theorem Ins.same_iff (i j : Ins) : i.same j = true ↔ i = j := by
  cases i; cases j
  simp only [Ins.same, Bool.and_eq_true, beq_iff_eq, Ins.mk.injEq]
theorem Ins.same_self (i : Ins) : i.same i = true := (Ins.same_iff i i).2 rfl
theorem Ins.same_ne {i j : Ins} (h : i ≠ j) : i.same j = false := by
  cases e : i.same j
  · rfl
  · exact absurd ((Ins.same_iff i j).1 e) h
/-- The numbers of an instruction are numbers of their kinds. -/
structure IOk (i : Ins) : Prop where
  cond : -9223372036854775808 ≤ i.cond ∧ i.cond ≤ 9223372036854775807
  op : -9223372036854775808 ≤ i.op ∧ i.op ≤ 9223372036854775807
  form : -9223372036854775808 ≤ i.form ∧ i.form ≤ 9223372036854775807
  rd : -9223372036854775808 ≤ i.rd ∧ i.rd ≤ 9223372036854775807
  rn : -9223372036854775808 ≤ i.rn ∧ i.rn ≤ 9223372036854775807
  rm : -9223372036854775808 ≤ i.rm ∧ i.rm ≤ 9223372036854775807
  rs : -9223372036854775808 ≤ i.rs ∧ i.rs ≤ 9223372036854775807
  ra : -9223372036854775808 ≤ i.ra ∧ i.ra ≤ 9223372036854775807
  imm : 0 ≤ i.imm ∧ i.imm < 4294967296
  shift : -9223372036854775808 ≤ i.shift ∧ i.shift ≤ 9223372036854775807
  amount : -9223372036854775808 ≤ i.amount ∧ i.amount ≤ 9223372036854775807
  list : 0 ≤ i.list ∧ i.list < 65536
  crn : -9223372036854775808 ≤ i.crn ∧ i.crn ≤ 9223372036854775807
  op1 : -9223372036854775808 ≤ i.op1 ∧ i.op1 ≤ 9223372036854775807
  crm : -9223372036854775808 ≤ i.crm ∧ i.crm ≤ 9223372036854775807
  op2 : -9223372036854775808 ≤ i.op2 ∧ i.op2 ≤ 9223372036854775807
/-- A row of the program's tables. -/
structure RowP where
  op : Nat
  form : Nat
  mask : Nat
  bits : Nat
  parts : Nat
def rowL (r : RowP) : List Value := [.int .u8 (r.op : Int), .int .u8 (r.form : Int), .int .u32 (r.mask : Int), .int .u32 (r.bits : Int), .int .u32 (r.parts : Int)]
def rowZ : RowP := ⟨0, 0, 0, 0, 0⟩
/-- A part: its field, its place, its width, the field's bit. -/
structure PartP where
  fld : Nat
  at_ : Nat
  wide : Nat
  frm : Nat
def lowL : List RowP := [
  ⟨1, 1, 251658240, 33554432, 555⟩,
  ⟨1, 2, 251658256, 0, 196715⟩,
  ⟨1, 3, 251658384, 16, 65771⟩,
  ⟨13, 1, 262144000, 58720256, 555⟩,
  ⟨13, 2, 262144016, 25165824, 196715⟩,
  ⟨13, 3, 262144144, 25165840, 65771⟩,
  ⟨9, 1, 261156864, 51380224, 547⟩,
  ⟨9, 2, 261156880, 17825792, 196707⟩,
  ⟨9, 3, 261157008, 17825808, 65763⟩,
  ⟨14, 1, 263127040, 60817408, 523⟩,
  ⟨14, 2, 263127056, 27262976, 196683⟩,
  ⟨14, 3, 263127184, 27262992, 65739⟩,
  ⟨17, 0, 267386880, 50331648, 33288⟩,
  ⟨18, 0, 267386880, 54525952, 33288⟩,
  ⟨19, 0, 266399984, 144, 210⟩,
  ⟨20, 0, 266338544, 2097296, 466⟩,
  ⟨21, 0, 266338544, 8388752, 466⟩,
  ⟨22, 0, 266338544, 10485904, 466⟩,
  ⟨23, 0, 266338544, 12583056, 466⟩,
  ⟨24, 0, 266338544, 14680208, 466⟩,
  ⟨25, 0, 268374000, 24055568, 72⟩,
  ⟨35, 1, 240124144, 5243056, 7352360⟩,
  ⟨36, 1, 240124144, 4194480, 7352360⟩,
  ⟨37, 1, 240124144, 5243088, 7352360⟩,
  ⟨38, 1, 240124144, 5243120, 7352360⟩,
  ⟨35, 2, 240127984, 1048752, 7340136⟩,
  ⟨36, 2, 240127984, 176, 7340136⟩,
  ⟨37, 2, 240127984, 1048784, 7340136⟩,
  ⟨38, 2, 240127984, 1048816, 7340136⟩,
  ⟨43, 0, 268435440, 19922704, 64⟩,
  ⟨44, 0, 268435440, 19922736, 64⟩,
  ⟨46, 0, 267387120, 18874480, 20480⟩,
  ⟨47, 0, 264179711, 17760256, 12⟩,
  ⟨51, 0, 268435455, 52490240, 0⟩,
  ⟨52, 0, 268435455, 52490243, 0⟩,
  ⟨48, 2, 263258096, 18935808, 524356⟩,
  ⟨48, 1, 263254016, 52490240, 524804⟩]
def highL : List RowP := [
  ⟨31, 1, 240123904, 68157440, 7340584⟩,
  ⟨32, 1, 240123904, 67108864, 7340584⟩,
  ⟨33, 1, 240123904, 72351744, 7340584⟩,
  ⟨34, 1, 240123904, 71303168, 7340584⟩,
  ⟨31, 2, 240123920, 101711872, 7536744⟩,
  ⟨32, 2, 240123920, 100663296, 7536744⟩,
  ⟨33, 2, 240123920, 105906176, 7536744⟩,
  ⟨34, 2, 240123920, 104857600, 7536744⟩,
  ⟨26, 0, 268374000, 113184560, 72⟩,
  ⟨27, 0, 268370928, 116326512, 262216⟩,
  ⟨28, 0, 268370928, 117375088, 262216⟩,
  ⟨29, 0, 268370928, 112132208, 262216⟩,
  ⟨30, 0, 268370928, 113180784, 262216⟩,
  ⟨39, 0, 240123904, 135266304, 15728672⟩,
  ⟨40, 0, 240123904, 134217728, 15728672⟩,
  ⟨41, 0, 251658240, 167772160, 2048⟩,
  ⟨42, 0, 251658240, 184549376, 2048⟩,
  ⟨45, 0, 251658240, 251658240, 1024⟩,
  ⟨49, 0, 252710672, 234884880, 251658248⟩,
  ⟨50, 0, 252710672, 235933456, 251658248⟩]
def plL : List PartP := [
  ⟨0, 21, 4, 0⟩,
  ⟨1, 20, 1, 0⟩,
  ⟨1, 22, 1, 0⟩,
  ⟨2, 12, 4, 0⟩,
  ⟨2, 16, 4, 0⟩,
  ⟨3, 16, 4, 0⟩,
  ⟨4, 0, 4, 0⟩,
  ⟨5, 8, 4, 0⟩,
  ⟨6, 12, 4, 0⟩,
  ⟨7, 0, 12, 0⟩,
  ⟨7, 0, 24, 0⟩,
  ⟨7, 0, 24, 2⟩,
  ⟨7, 0, 4, 0⟩,
  ⟨7, 8, 4, 4⟩,
  ⟨7, 8, 12, 4⟩,
  ⟨7, 16, 4, 12⟩,
  ⟨8, 5, 2, 0⟩,
  ⟨9, 7, 5, 0⟩,
  ⟨9, 10, 2, 0⟩,
  ⟨9, 16, 4, 0⟩,
  ⟨10, 24, 1, 0⟩,
  ⟨11, 23, 1, 0⟩,
  ⟨12, 21, 1, 0⟩,
  ⟨13, 0, 16, 0⟩,
  ⟨14, 16, 4, 0⟩,
  ⟨15, 21, 3, 0⟩,
  ⟨16, 0, 4, 0⟩,
  ⟨17, 5, 3, 0⟩]
def dbL : List Nat := [0, 1, 28, 2, 29, 14, 24, 3, 30, 22, 20, 15, 25, 17, 4, 8, 31, 27, 13, 23, 21, 19, 16, 7, 26, 12, 18, 6, 11, 5, 10, 9]
/-- The place of the lowest one. -/
def tzP (x : Nat) : Nat := dbL.getD ((x &&& (4294967296 - x)) * 125613361 % 4294967296 / 134217728) 0
def plP (k : Nat) : PartP := plL.getD k ⟨0, 0, 0, 0⟩
/-- The row that a word fits. -/
def fitR (w : Nat) (r : RowP) : Bool := w &&& r.mask == r.bits
def rowW (w : Nat) : Option RowP := if w / 67108864 % 4 = 0 then lowL.find? (fitR w) else highL.find? (fitR w)
/-- The operation by which a row goes. -/
def alikeP (op : Int) : Int :=
  if op = 1 ∨ op = 2 ∨ op = 3 ∨ op = 4 ∨ op = 5 ∨ op = 6 ∨ op = 7 ∨ op = 8 then 1 else
  if op = 9 ∨ op = 10 ∨ op = 11 ∨ op = 12 then 9 else
  if op = 13 ∨ op = 15 then 13 else
  if op = 14 ∨ op = 16 then 14 else op
def isOfR (op form : Int) (r : RowP) : Bool := (r.op : Int) == op && (r.form : Int) == form
def rowN (op form : Int) : Option RowP := (lowL ++ highL).find? (isOfR (alikeP op) form)
/-- Bits of a field, into an instruction. -/
def putP (i : Ins) (f v : Nat) : Ins :=
  if f = 0 then { i with op := (v : Int) + 1 } else
  if f = 1 then { i with s := v == 1 } else
  if f = 2 then { i with rd := v } else
  if f = 3 then { i with rn := v } else
  if f = 4 then { i with rm := v } else
  if f = 5 then { i with rs := v } else
  if f = 6 then { i with ra := v } else
  if f = 7 then { i with imm := ((i.imm.toNat ||| v : Nat) : Int) } else
  if f = 8 then { i with shift := v } else
  if f = 9 then { i with amount := v } else
  if f = 10 then { i with pre := v == 1 } else
  if f = 11 then { i with up := v == 1 } else
  if f = 12 then { i with write := v == 1 } else
  if f = 13 then { i with list := ((v % 65536 : Nat) : Int) } else
  if f = 14 then { i with crn := v } else
  if f = 15 then { i with op1 := v } else
  if f = 16 then { i with crm := v } else
  if f = 17 then { i with op2 := v } else i
/-- A field of an instruction, as bits. -/
def valP (i : Ins) (f : Nat) : Nat :=
  if f = 0 then ((i.op - 1) % 4294967296).toNat else
  if f = 1 then i.s.toNat else
  if f = 2 then (i.rd % 4294967296).toNat else
  if f = 3 then (i.rn % 4294967296).toNat else
  if f = 4 then (i.rm % 4294967296).toNat else
  if f = 5 then (i.rs % 4294967296).toNat else
  if f = 6 then (i.ra % 4294967296).toNat else
  if f = 7 then i.imm.toNat else
  if f = 8 then (i.shift % 4294967296).toNat else
  if f = 9 then (i.amount % 4294967296).toNat else
  if f = 10 then i.pre.toNat else
  if f = 11 then i.up.toNat else
  if f = 12 then i.write.toNat else
  if f = 13 then i.list.toNat else
  if f = 14 then (i.crn % 4294967296).toNat else
  if f = 15 then (i.op1 % 4294967296).toNat else
  if f = 16 then (i.crm % 4294967296).toNat else (i.op2 % 4294967296).toNat
/-- The parts of a row, from the lowest on. -/
def chainP : Nat → Nat → List Nat
  | 0, _ => []
  | n + 1, left => if left = 0 then [] else tzP left :: chainP n (left &&& (left - 1))
/-- What a part reads. -/
def getP (w k : Nat) : Nat := w / 2 ^ (plP k).at_ % 2 ^ (plP k).wide * 2 ^ (plP k).frm % 4294967296
def readF (w : Nat) (i : Ins) : List Nat → Ins
  | [] => i
  | k :: l => readF w (putP i (plP k).fld (getP w k)) l
/-- The sign of a reach. -/
def signP (x : Nat) : Nat := if x / 33554432 % 2 = 1 then x % 67108864 + 4227858432 else x % 67108864
def hasR (r : RowP) (k : Nat) : Bool := r.parts / 2 ^ k % 2 == 1
def readP (r : RowP) (w : Nat) : Ins :=
  let i := readF w { insZ with cond := ((w / 268435456 : Nat) : Int), op := r.op, form := r.form } (chainP 32 r.parts)
  if hasR r 11 then { i with imm := (signP i.imm.toNat : Nat) } else i
/-- What a part lays. -/
def layG (i : Ins) (k : Nat) : Nat := valP i (plP k).fld / 2 ^ (plP k).frm % 2 ^ (plP k).wide * 2 ^ (plP k).at_ % 4294967296
def layF (i : Ins) (w : Nat) : List Nat → Nat
  | [] => w
  | k :: l => layF i (w ||| layG i k) l
def layP (r : RowP) (i : Ins) : Nat := layF i (r.bits ||| (i.cond % 4294967296 * 268435456 % 4294967296).toNat) (chainP 32 r.parts)
/-- What may be. -/
def isLongP (op : Int) : Bool := decide (21 ≤ op) && decide (op ≤ 24)
def isOneP (op : Int) : Bool := decide (31 ≤ op) && decide (op ≤ 38)
def movesP (i : Ins) : Bool := i.write || isOneP i.op && !i.pre
def oneMayP (i : Ins) : Bool := !(i.write && !i.pre) && (!(movesP i && (i.rn == 15 || i.rn == i.rd)) && (!(i.rm == 15) && (!(i.rd == 15) || i.op == 31)))
def lsP (l n : Int) : Bool := l / 2 ^ n.toNat % 2 == 1
def manyMayP (i : Ins) : Bool := !(i.list == 0 || i.rn == 15) && (!(i.write && lsP i.list i.rn) && (i.op == 39 || !lsP i.list 15))
def mayP (i : Ins) : Bool :=
  if i.cond = 15 then false else
  if i.form = 3 then !(i.rd == 15 || (i.rn == 15 || (i.rm == 15 || i.rs == 15))) else
  if 17 ≤ i.op ∧ i.op ≤ 30 then !(i.rd == 15 || (i.rm == 15 || (i.rs == 15 || i.ra == 15))) && !(isLongP i.op && i.rd == i.ra) else
  if isOneP i.op then oneMayP i else
  if i.op = 39 ∨ i.op = 40 then manyMayP i else
  if i.op = 43 ∨ i.op = 44 then !(i.rm == 15) else
  if i.op = 47 ∨ i.op = 49 ∨ i.op = 50 then !(i.rd == 15) else
  if i.op = 48 then !(i.amount == 0) && !(i.rm == 15) else
  if i.op = 46 then i.cond == 14 else true
def decP (w : Nat) : Option Ins :=
  match rowW w with
  | none => none
  | some r => if mayP (readP r w) then some (readP r w) else none
def encP (i : Ins) : Option Nat :=
  match rowN i.op i.form with
  | none => none
  | some r => match decP (layP r i) with
    | none => none
    | some j => if j.same i then some (layP r i) else none
end Go.Proofs.YtilhceajhlaojaaGreatDoor.Is
namespace Go.Proofs.YtilhceajhlaojaaGreatDoor
open Go.RowKit
set_option linter.unusedVariables false
set_option linter.unusedSimpArgs false
/-- A word, as a value. -/
def W32 (x : Int) : Value := .int .u32 x
/-- The registers: R0 to R12, SP, LR, SPSR by bank, PC, CPSR. -/
def rg (R : List Int) (k : Nat) : Int := R.getD k 0
def RL (R : List Int) : List Value := R.map W32
structure ROk (R : List Int) : Prop where
  len : R.length = 30
  rng : ∀ k, 0 ≤ rg R k ∧ rg R k < 4294967296
/-- The bank of a mode. -/
def bkO (m : Int) : Option Nat := if m = 16 ∨ m = 31 then some 0 else if m = 19 then some 1 else if m = 23 then some 2 else if m = 27 then some 3 else if m = 18 then some 4 else none
def bkN (m : Int) : Nat := (bkO m).getD 0
def mdR (R : List Int) : Int := rg R 29 % 32
def bkR (R : List Int) : Nat := bkN (mdR R)
/-- Where a register stands. -/
def plc (n : Int) (k : Nat) : Nat := if n = 13 then 13 + k else if n = 14 then 18 + k else if n = 15 then 28 else n.toNat
def gtR (R : List Int) (n : Int) : Int := rg R (plc n (bkR R))
def alW (x : Int) : Int := x - x % 4
def stR (R : List Int) (n v : Int) : List Int := R.set (plc n (bkR R)) (if n = 15 then alW v else v)
def flR (R : List Int) : Fl := ⟨Al.fb (rg R 29).toNat 31, Al.fb (rg R 29).toNat 30, Al.fb (rg R 29).toNat 29, Al.fb (rg R 29).toNat 28⟩
def sfR (R : List Int) (f : Fl) : List Int := R.set 29 (rg R 29 % 268435456 + Al.wdW f)
def lvO (R : List Int) (to : Int) : Option (List Int) := if (bkO (rg R (23 + bkR R) % 32)).isSome then some ((R.set 29 (rg R (23 + bkR R))).set 28 (alW to)) else none
def enR (R : List Int) (mode back vec : Int) : List Int :=
  (((R.set (23 + bkN mode) (rg R 29)).set (18 + bkN mode) ((rg R 28 + back) % 4294967296)).set 29 (rg R 29 / 268435456 * 268435456 + rg R 29 / 128 % 2 * 0 + 128 + mode)).set 28 vec
theorem bkN_lt (m : Int) : bkN m < 5 := by
  unfold bkN bkO
  repeat' split
  all_goals decide
theorem bkR_lt (R : List Int) : bkR R < 5 := bkN_lt _
theorem rg_set (R : List Int) (k j : Nat) (v : Int) (h : k < R.length) : rg (R.set k v) j = if k = j then v else rg R j := by
  unfold rg
  by_cases hkj : k = j
  · subst hkj
    rw [if_pos rfl, List.getD_eq_getElem?_getD, List.getElem?_set_self h]
    rfl
  · rw [if_neg hkj, List.getD_eq_getElem?_getD, List.getD_eq_getElem?_getD, List.getElem?_set_ne hkj]
theorem ROk.set {R : List Int} (h : ROk R) {k : Nat} {v : Int} (hv : 0 ≤ v ∧ v < 4294967296) : ROk (R.set k v) := by
  refine ⟨by rw [List.length_set]; exact h.len, fun j => ?_⟩
  by_cases hk : k < R.length
  · rw [rg_set R k j v hk]
    split
    · exact hv
    · exact h.rng j
  · rw [List.set_eq_of_length_le (by omega)]
    exact h.rng j
theorem plc_lt {n : Int} {k : Nat} (h : 0 ≤ n ∧ n ≤ 15) (hk : k < 5) : plc n k < 30 := by
  unfold plc
  repeat' split
  all_goals omega
theorem alW_range {x : Int} (h : 0 ≤ x ∧ x < 4294967296) : 0 ≤ alW x ∧ alW x < 4294967296 := by unfold alW; omega
theorem ROk.st {R : List Int} (h : ROk R) {n v : Int} (hv : 0 ≤ v ∧ v < 4294967296) : ROk (stR R n v) := by
  refine h.set ?_
  split
  · exact alW_range hv
  · exact hv
theorem ROk.gt {R : List Int} (h : ROk R) (n : Int) : 0 ≤ gtR R n ∧ gtR R n < 4294967296 := h.rng _
/-- A block that begins with registers. -/
structure RS (w : World) (b : Nat) (R : List Int) : Prop where
  ok : ROk R
  cell : ∀ k, k < 30 → w.cell? ⟨b, k, none⟩ = some (.int .u32 (rg R k))
  frz : ∀ k, w.frozen? ⟨b, k, none⟩ = false
theorem RL_get {R : List Int} {E : List Value} {k : Nat} (hl : R.length = 30) (h : k < 30) : (RL R ++ E)[k]? = some (.int .u32 (rg R k)) := by
  unfold RL rg
  rw [List.getElem?_append_left (by rw [List.length_map, hl]; exact h), List.getElem?_map, List.getElem?_eq_getElem (by omega), List.getD_eq_getElem?_getD, List.getElem?_eq_getElem (by omega)]
  rfl
theorem RS.of {w : World} {b : Nat} {t : TypeId} {R : List Int} {E : List Value} (ho : ROk R) (h : Bl w b t (RL R ++ E)) : RS w b R :=
  ⟨ho, fun k hk => by rw [h.cell, RL_get ho.len hk], fun k => h.frozen k⟩
theorem RS.below {w w' : World} {b : Nat} {R : List Int} (h : RS w b R) (hb : Below w.heap.size w w') : RS w' b R := by
  have hl : b < w.heap.size := cell_lt (h.cell 0 (by decide))
  have he := hb.block b hl
  refine ⟨h.ok, fun k hk => by rw [← h.cell k hk]; unfold World.cell?; rw [he], fun k => by rw [← h.frz k]; unfold World.frozen?; rw [he]⟩
theorem set_regs {R : List Int} {E : List Value} {k : Nat} {v : Int} (hl : R.length = 30) (h : k < 30) : (RL R ++ E).set k (.int .u32 v) = RL (R.set k v) ++ E := by
  unfold RL
  rw [List.set_append_left _ _ (by rw [List.length_map, hl]; exact h), List.map_set]
  rfl
theorem and_masks (x k n : Nat) (hx : x < 4294967296) (hkn : k + n = 32) : x &&& (4294967295 - (2 ^ k - 1)) = x / 2 ^ k * 2 ^ k := by
  have h2 : (4294967295 - (2 ^ k - 1) : Nat) = 2 ^ k * (2 ^ n - 1) := by
    have : (2 : Nat) ^ k * 2 ^ n = 4294967296 := by rw [← Nat.pow_add, hkn]
    have hp := Nat.two_pow_pos k
    rw [Nat.mul_sub, this]
    omega
  rw [h2]
  apply Nat.eq_of_testBit_eq
  intro j
  rw [Nat.testBit_and, Nat.testBit_two_pow_mul, Nat.testBit_two_pow_sub_one, Nat.mul_comm, Nat.testBit_two_pow_mul, Nat.testBit_div_two_pow]
  by_cases hj : k ≤ j
  · simp only [hj, decide_true, Bool.true_and]
    rw [show j - k + k = j by omega]
    by_cases h3 : j - k < n
    · simp [h3]
    · simp only [h3, decide_false, Bool.and_false]
      symm
      exact Nat.testBit_lt_two_pow (Nat.lt_of_lt_of_le hx (by rw [show (4294967296 : Nat) = 2 ^ 32 by decide]; exact Nat.pow_le_pow_right (by decide) (by omega)))
  · simp [hj]
theorem andNot_low (x : Int) (k n : Nat) (m : Int) (hm : m = ((2 ^ k - 1 : Nat) : Int)) (hkn : k + n = 32) (hx : 0 ≤ x ∧ x < 4294967296) : bits .andNot .u32 x m = x - x % (2 ^ k : Nat) := by
  have hp := Nat.two_pow_pos k
  have h1 : (2 : Nat) ^ k * 2 ^ n = 4294967296 := by rw [← Nat.pow_add, hkn]
  have h4 : 2 ^ k ≤ 4294967296 := by
    have := Nat.two_pow_pos n
    calc 2 ^ k = 2 ^ k * 1 := by omega
      _ ≤ 2 ^ k * 2 ^ n := Nat.mul_le_mul_left _ this
      _ = _ := h1
  obtain ⟨X, rfl⟩ := Int.eq_ofNat_of_zero_le hx.1
  rw [hm, u32_andNot_nat X _ (by omega) (by omega), and_masks X k n (by omega) hkn]
  have := Nat.div_add_mod X (2 ^ k)
  have h5 : X / 2 ^ k * 2 ^ k = X - X % 2 ^ k := by rw [Nat.mul_comm]; omega
  rw [h5]
  have := Nat.mod_le X (2 ^ k)
  omega
theorem andNot3 (x : Int) (hx : 0 ≤ x ∧ x < 4294967296) : bits .andNot .u32 x 3 = x - x % 4 := andNot_low x 2 30 3 rfl rfl hx
theorem andNot31 (x : Int) (hx : 0 ≤ x ∧ x < 4294967296) : bits .andNot .u32 x 31 = x - x % 32 := andNot_low x 5 27 31 rfl rfl hx
theorem andNotF (x : Int) (hx : 0 ≤ x ∧ x < 4294967296) : bits .andNot .u32 x 4026531840 = x % 268435456 := by
  obtain ⟨X, rfl⟩ := Int.eq_ofNat_of_zero_le hx.1
  rw [show (4026531840 : Int) = ((4026531840 : Nat) : Int) from rfl, u32_andNot_nat X _ (by omega) (by omega), show (4294967295 - 4026531840 : Nat) = 2 ^ 28 - 1 by decide, Nat.and_two_pow_sub_one_eq_mod]
  omega
end Go.Proofs.YtilhceajhlaojaaGreatDoor
namespace Go.Proofs.YtilhceajhlaojaaGreatDoor
open Go.RowKit
set_option linter.unusedVariables false
set_option linter.unusedSimpArgs false
set_option maxRecDepth 100000 in
theorem gmode (x : Int) (w : World) (hx : 0 ≤ x ∧ x < 4294967296) : Calls Tryz.prog 53 #[.int .u32 x] w fun e w' => e = .returned (.int .i64 (x % 32)) ∧ w' = w := by
  have e1 : bits .and .u32 x 31 = x % 32 := band_mod 5 31 x (by decide) (by decide) hx
  have h0 : 0 ≤ x % 32 := by omega
  have h1 : x % 32 < 32 := by omega
  generalize x % 32 = m at *
  go_enter Tryz.func53, Tryz.ntmps53
  go_wp2
  exact bodyPost_ret (v := .int .i64 m) (by simp [results, Tryz.results53, go_sem]) rfl ⟨rfl, rfl⟩
set_option maxRecDepth 100000 in
theorem galign (x : Int) (w : World) (hx : 0 ≤ x ∧ x < 4294967296) : Calls Tryz.prog 54 #[.int .u32 x] w fun e w' => e = .returned (.int .u32 (alW x)) ∧ w' = w := by
  have e1 : bits .andNot .u32 x 3 = alW x := andNot3 x hx
  generalize alW x = m at *
  go_enter Tryz.func54, Tryz.ntmps54
  go_wp2
  exact bodyPost_ret (v := .int .u32 m) (by simp [results, Tryz.results54, go_sem]) rfl ⟨rfl, rfl⟩
set_option maxRecDepth 100000 in
theorem gBank_at (m : Int) (w : World) : Calls Tryz.prog 40 #[.int .i64 m] w fun e w' => e = .returned (.tuple #[.int .i64 (bkN m : Nat), .bool (bkO m).isSome]) ∧ w' = w := by
  by_cases h0 : m = 16
  · subst h0
    go_enter Tryz.func40, Tryz.ntmps40
    go_wp2
    exact bodyPost_ret (v := .tuple #[.int .i64 0, .bool true]) (by simp [results, Tryz.results40, go_sem]) rfl ⟨rfl, rfl⟩
  by_cases h1 : m = 31
  · subst h1
    go_enter Tryz.func40, Tryz.ntmps40
    go_wp2
    exact bodyPost_ret (v := .tuple #[.int .i64 0, .bool true]) (by simp [results, Tryz.results40, go_sem]) rfl ⟨rfl, rfl⟩
  by_cases h2 : m = 19
  · subst h2
    go_enter Tryz.func40, Tryz.ntmps40
    go_wp2
    exact bodyPost_ret (v := .tuple #[.int .i64 1, .bool true]) (by simp [results, Tryz.results40, go_sem]) rfl ⟨rfl, rfl⟩
  by_cases h3 : m = 23
  · subst h3
    go_enter Tryz.func40, Tryz.ntmps40
    go_wp2
    exact bodyPost_ret (v := .tuple #[.int .i64 2, .bool true]) (by simp [results, Tryz.results40, go_sem]) rfl ⟨rfl, rfl⟩
  by_cases h4 : m = 27
  · subst h4
    go_enter Tryz.func40, Tryz.ntmps40
    go_wp2
    exact bodyPost_ret (v := .tuple #[.int .i64 3, .bool true]) (by simp [results, Tryz.results40, go_sem]) rfl ⟨rfl, rfl⟩
  by_cases h5 : m = 18
  · subst h5
    go_enter Tryz.func40, Tryz.ntmps40
    go_wp2
    exact bodyPost_ret (v := .tuple #[.int .i64 4, .bool true]) (by simp [results, Tryz.results40, go_sem]) rfl ⟨rfl, rfl⟩
  have b0 : (m == 16) = false := beq_eq_false_iff_ne.2 h0
  have b1 : (m == 31) = false := beq_eq_false_iff_ne.2 h1
  have b2 : (m == 19) = false := beq_eq_false_iff_ne.2 h2
  have b3 : (m == 23) = false := beq_eq_false_iff_ne.2 h3
  have b4 : (m == 27) = false := beq_eq_false_iff_ne.2 h4
  have b5 : (m == 18) = false := beq_eq_false_iff_ne.2 h5
  have e1 : bkO m = none := by
    unfold bkO
    rw [if_neg (by omega), if_neg h2, if_neg h3, if_neg h4, if_neg h5]
  have e2 : bkN m = 0 := by unfold bkN; rw [e1]; rfl
  rw [e1, e2]
  clear h0 h1 h2 h3 h4 h5 e1 e2
  go_enter Tryz.func40, Tryz.ntmps40
  go_wp2
  exact bodyPost_ret (v := .tuple #[.int .i64 0, .bool false]) (by simp [results, Tryz.results40, go_sem]) rfl ⟨rfl, rfl⟩
set_option maxRecDepth 100000 in
theorem grbank (w : World) (b : Nat) (R : List Int) (h : RS w b R) : Calls Tryz.prog 52 #[.pointer (some ⟨b, 0, none⟩)] w fun e w' => e = .returned (.int .i64 (bkR R : Nat)) ∧ w' = w := by
  have c29 := h.cell 29 (by decide)
  have HM : Hid (∀ w, Calls Tryz.prog 53 #[.int .u32 (rg R 29)] w fun e w' => e = .returned (.int .i64 (mdR R)) ∧ w' = w) := fun w => gmode _ w (h.ok.rng 29)
  have HB : Hid (∀ w, Calls Tryz.prog 40 #[.int .i64 (mdR R)] w fun e w' => e = .returned (.tuple #[.int .i64 (bkR R : Nat), .bool (bkO (mdR R)).isSome]) ∧ w' = w) := fun w => gBank_at (mdR R) w
  generalize mdR R = m at *
  generalize (bkO m).isSome = o at *
  generalize bkR R = k at *
  generalize rg R 29 = x at *
  clear h
  go_enter Tryz.func52, Tryz.ntmps52
  go_wp2_with (first | (go_at_call 53; refine (HM.out _).mono ?_; rintro e w' ⟨rfl, rfl⟩) | (go_at_call 40; refine (HB.out _).mono ?_; rintro e w' ⟨rfl, rfl⟩))
  exact bodyPost_ret (v := .int .i64 (k : Nat)) (by simp [results, Tryz.results52, go_sem]) rfl ⟨rfl, rfl⟩
set_option maxRecDepth 100000 in
theorem gisUser (w : World) (b : Nat) (R : List Int) (h : RS w b R) : Calls Tryz.prog 50 #[.pointer (some ⟨b, 0, none⟩)] w fun e w' => e = .returned (.bool (mdR R == 16)) ∧ w' = w := by
  have c29 := h.cell 29 (by decide)
  have HM : Hid (∀ w, Calls Tryz.prog 53 #[.int .u32 (rg R 29)] w fun e w' => e = .returned (.int .i64 (mdR R)) ∧ w' = w) := fun w => gmode _ w (h.ok.rng 29)
  generalize mdR R = m at *
  generalize rg R 29 = x at *
  clear h
  go_enter Tryz.func50, Tryz.ntmps50
  go_wp2_with (first | (go_at_call 53; refine (HM.out _).mono ?_; rintro e w' ⟨rfl, rfl⟩))
  exact bodyPost_ret (v := .bool (m == 16)) (by simp [results, Tryz.results50, go_sem]) rfl ⟨rfl, rfl⟩
set_option maxRecDepth 100000 in
theorem gisReg (n : Int) (w : World) : Calls Tryz.prog 38 #[.int .i64 n] w fun e w' => e = .returned (.bool (decide (0 ≤ n ∧ n ≤ 15))) ∧ w' = w := by
  by_cases h0 : 0 ≤ n
  · by_cases h1 : n ≤ 15
    · have q0 : decide (n ≥ 0) = true := decide_eq_true h0
      have q1 : decide (n ≤ 15) = true := decide_eq_true h1
      rw [decide_eq_true (p := 0 ≤ n ∧ n ≤ 15) ⟨h0, h1⟩]
      clear h0 h1
      go_enter Tryz.func38, Tryz.ntmps38
      go_wp2
      exact bodyPost_ret (v := .bool true) (by simp [results, Tryz.results38, go_sem]) rfl ⟨rfl, rfl⟩
    · have q0 : decide (n ≥ 0) = true := decide_eq_true h0
      have q1 : decide (n ≤ 15) = false := decide_eq_false h1
      rw [decide_eq_false (p := 0 ≤ n ∧ n ≤ 15) (fun h => h1 h.2)]
      clear h0 h1
      go_enter Tryz.func38, Tryz.ntmps38
      go_wp2
      exact bodyPost_ret (v := .bool false) (by simp [results, Tryz.results38, go_sem]) rfl ⟨rfl, rfl⟩
  · have q0 : decide (n ≥ 0) = false := decide_eq_false h0
    rw [decide_eq_false (p := 0 ≤ n ∧ n ≤ 15) (fun h => h0 h.1)]
    clear h0
    go_enter Tryz.func38, Tryz.ntmps38
    go_wp2
    exact bodyPost_ret (v := .bool false) (by simp [results, Tryz.results38, go_sem]) rfl ⟨rfl, rfl⟩
end Go.Proofs.YtilhceajhlaojaaGreatDoor
namespace Go.Proofs.YtilhceajhlaojaaGreatDoor
open Go.RowKit
set_option linter.unusedVariables false
set_option linter.unusedSimpArgs false
theorem RS.drewN {w : World} {b : Nat} {R : List Int} (h : RS w b R) (q : Nat) : RS (w.drewN q) b R := ⟨h.ok, h.cell, h.frz⟩
theorem RS.drew {w : World} {b : Nat} {R : List Int} (h : RS w b R) : RS w.drew b R := ⟨h.ok, h.cell, h.frz⟩
set_option maxRecDepth 100000 in
theorem gplace_lo (w : World) (b : Nat) (R : List Int) (n : Nat) (h : RS w b R) (hn : n < 13) : Calls Tryz.prog 55 #[.pointer (some ⟨b, 0, none⟩), .int .i64 (n : Nat)] w fun e w' => e = .returned (.pointer (some ⟨b, n, none⟩)) ∧ Below w.heap.size w w' := by
  have b0 : ((n : Int) == 13) = false := beq_eq_false_iff_ne.2 (by omega)
  have b1 : ((n : Int) == 14) = false := beq_eq_false_iff_ne.2 (by omega)
  have b2 : ((n : Int) == 15) = false := beq_eq_false_iff_ne.2 (by omega)
  have h1 : (n : Int) < 13 := by omega
  clear h
  go_enter Tryz.func55, Tryz.ntmps55
  go_wp2
  exact bodyPost_ret (v := .pointer (some ⟨b, n, none⟩)) (by simp [results, Tryz.results55, go_sem]) rfl ⟨rfl, Below.refl _ _⟩
set_option maxRecDepth 100000 in
theorem gplace_pc (w : World) (b : Nat) (R : List Int) (h : RS w b R) : Calls Tryz.prog 55 #[.pointer (some ⟨b, 0, none⟩), .int .i64 15] w fun e w' => e = .returned (.pointer (some ⟨b, 28, none⟩)) ∧ Below w.heap.size w w' := by
  clear h
  go_enter Tryz.func55, Tryz.ntmps55
  go_wp2
  exact bodyPost_ret (v := .pointer (some ⟨b, 28, none⟩)) (by simp [results, Tryz.results55, go_sem]) rfl ⟨rfl, Below.refl _ _⟩
set_option maxRecDepth 100000 in
theorem gplace_sp (w : World) (b : Nat) (R : List Int) (h : RS w b R) : Calls Tryz.prog 55 #[.pointer (some ⟨b, 0, none⟩), .int .i64 13] w fun e w' => e = .returned (.pointer (some ⟨b, 13 + bkR R, none⟩)) ∧ Below w.heap.size w w' := by
  have HB : Hid (∀ w, RS w b R → Calls Tryz.prog 52 #[.pointer (some ⟨b, 0, none⟩)] w fun e w' => e = .returned (.int .i64 (bkR R : Nat)) ∧ w' = w) := fun w h => grbank w b R h
  have k0 := bkR_lt R
  have HS := hidW h
  generalize bkR R = k at *
  have k1 : (k : Int) < 5 := by omega
  clear h
  go_enter Tryz.func55, Tryz.ntmps55
  go_wp2
  go_region_held3 (fun _ => True) (first | trivial) ((first | (go_at_call 52; refine (HB.out _ (by first | exact HS.out | exact HS.out.drewN _)).mono ?_; rintro e w' ⟨rfl, rfl⟩)))
  go_wp2
  exact bodyPost_ret (v := .pointer (some ⟨b, 13 + k, none⟩)) (by simp [results, Tryz.results55, go_sem]) rfl ⟨rfl, by first | exact Below.refl _ _ | exact below_drewN (Below.refl _ _) _⟩
set_option maxRecDepth 100000 in
theorem gplace_lr (w : World) (b : Nat) (R : List Int) (h : RS w b R) : Calls Tryz.prog 55 #[.pointer (some ⟨b, 0, none⟩), .int .i64 14] w fun e w' => e = .returned (.pointer (some ⟨b, 18 + bkR R, none⟩)) ∧ Below w.heap.size w w' := by
  have HB : Hid (∀ w, RS w b R → Calls Tryz.prog 52 #[.pointer (some ⟨b, 0, none⟩)] w fun e w' => e = .returned (.int .i64 (bkR R : Nat)) ∧ w' = w) := fun w h => grbank w b R h
  have k0 := bkR_lt R
  have HS := hidW h
  generalize bkR R = k at *
  have k1 : (k : Int) < 5 := by omega
  clear h
  go_enter Tryz.func55, Tryz.ntmps55
  go_wp2
  go_region_held3 (fun _ => True) (first | trivial) ((first | (go_at_call 52; refine (HB.out _ (by first | exact HS.out | exact HS.out.drewN _)).mono ?_; rintro e w' ⟨rfl, rfl⟩)))
  go_wp2
  exact bodyPost_ret (v := .pointer (some ⟨b, 18 + k, none⟩)) (by simp [results, Tryz.results55, go_sem]) rfl ⟨rfl, by first | exact Below.refl _ _ | exact below_drewN (Below.refl _ _) _⟩
theorem gplace (w : World) (b : Nat) (R : List Int) (n : Int) (h : RS w b R) (hn : 0 ≤ n ∧ n ≤ 15) : Calls Tryz.prog 55 #[.pointer (some ⟨b, 0, none⟩), .int .i64 n] w fun e w' => e = .returned (.pointer (some ⟨b, plc n (bkR R), none⟩)) ∧ Below w.heap.size w w' := by
  by_cases h1 : n = 13
  · subst h1; exact gplace_sp w b R h
  by_cases h2 : n = 14
  · subst h2; exact gplace_lr w b R h
  by_cases h3 : n = 15
  · subst h3; exact gplace_pc w b R h
  obtain ⟨N, rfl⟩ := Int.eq_ofNat_of_zero_le hn.1
  have e : plc (N : Int) (bkR R) = N := by unfold plc; rw [if_neg h1, if_neg h2, if_neg h3]; rfl
  rw [e]
  exact gplace_lo w b R N h (by omega)
set_option maxRecDepth 100000 in
theorem gget (w : World) (b : Nat) (R : List Int) (n : Int) (h : RS w b R) (hn : 0 ≤ n ∧ n ≤ 15) : Calls Tryz.prog 36 #[.pointer (some ⟨b, 0, none⟩), .int .i64 n] w fun e w' => e = .returned (.int .u32 (gtR R n)) ∧ Below w.heap.size w w' := by
  have HP : Hid (Calls Tryz.prog 55 #[.pointer (some ⟨b, 0, none⟩), .int .i64 n] w fun e w' => e = .returned (.pointer (some ⟨b, plc n (bkR R), none⟩)) ∧ Below w.heap.size w w') := gplace w b R n h hn
  have HC : Hid (∀ w', Below w.heap.size w w' → w'.cell? ⟨b, plc n (bkR R), none⟩ = some (.int .u32 (gtR R n))) := fun w' hb => (h.below hb).cell _ (plc_lt hn (bkR_lt R))
  generalize plc n (bkR R) = p at *
  generalize gtR R n = v at *
  clear h hn
  go_enter Tryz.func36, Tryz.ntmps36
  go_wp2_with (first | (go_at_call 55; refine HP.out.mono ?_; rintro e w1 ⟨rfl, hb⟩; have c0 := HC.out _ hb))
  exact bodyPost_ret (v := .int .u32 v) (by simp [results, Tryz.results36, go_sem]) rfl ⟨rfl, hb⟩
/-- A block that begins with registers: the block whole. -/
structure RB (w : World) (b : Nat) (t : TypeId) (R : List Int) (E : List Value) : Prop where
  ok : ROk R
  bl : Bl w b t (RL R ++ E)
theorem RB.rs {w : World} {b : Nat} {t : TypeId} {R : List Int} {E : List Value} (h : RB w b t R E) : RS w b R := RS.of h.ok h.bl
theorem RB.below {w w' : World} {b : Nat} {t : TypeId} {R : List Int} {E : List Value} (h : RB w b t R E) (hb : Below w.heap.size w w') : RB w' b t R E := ⟨h.ok, h.bl.below hb⟩
theorem RB.put {w : World} {b : Nat} {t : TypeId} {R : List Int} {E : List Value} (h : RB w b t R E) {k : Nat} (hk : k < 30) {v : Int} (hv : 0 ≤ v ∧ v < 4294967296) : RB (w.setCell ⟨b, k, none⟩ (.int .u32 v)) b t (R.set k v) E :=
  ⟨h.ok.set hv, by rw [← set_regs h.ok.len hk]; exact h.bl.set k _⟩
theorem ta_put {w w1 : World} {b k : Nat} {v : Value} (hb : Below w.heap.size w w1) : TA b w (w1.setCell ⟨b, k, none⟩ v) := (TA.of hb).set k v
set_option maxRecDepth 100000 in
theorem gset_n (w : World) (b : Nat) (t : TypeId) (R : List Int) (E : List Value) (n v : Int) (h : RB w b t R E) (hn : 0 ≤ n ∧ n ≤ 15) (hv : 0 ≤ v ∧ v < 4294967296) (h15 : ¬ n = 15) : Calls Tryz.prog 39 #[.pointer (some ⟨b, 0, none⟩), .int .i64 n, .int .u32 v] w fun e w' => e = .returned (.tuple #[]) ∧ TA b w w' ∧ RB w' b t (stR R n v) E := by
  have HP : Hid (Calls Tryz.prog 55 #[.pointer (some ⟨b, 0, none⟩), .int .i64 n] w fun e w' => e = .returned (.pointer (some ⟨b, plc n (bkR R), none⟩)) ∧ Below w.heap.size w w') := gplace w b R n h.rs hn
  have HC : Hid (∀ w', Below w.heap.size w w' → w'.cell? ⟨b, plc n (bkR R), none⟩ = some (.int .u32 (gtR R n)) ∧ w'.frozen? ⟨b, plc n (bkR R), none⟩ = false) := fun w' hb => ⟨(h.rs.below hb).cell _ (plc_lt hn (bkR_lt R)), (h.rs.below hb).frz _⟩
  have HE : Hid (∀ w', Below w.heap.size w w' → TA b w (w'.setCell ⟨b, plc n (bkR R), none⟩ (.int .u32 v)) ∧ RB (w'.setCell ⟨b, plc n (bkR R), none⟩ (.int .u32 v)) b t (stR R n v) E) := fun w' hb => ⟨ta_put hb, by have := (h.below hb).put (plc_lt hn (bkR_lt R)) hv; unfold stR; rw [if_neg h15]; exact this⟩
  have b0 : (n == 15) = false := beq_eq_false_iff_ne.2 h15
  generalize plc n (bkR R) = p at *
  generalize gtR R n = u at *
  generalize stR R n v = R' at *
  clear h hn hv h15
  go_enter Tryz.func39, Tryz.ntmps39
  go_wp2_with (first | (go_at_call 55; refine HP.out.mono ?_; rintro e w1 ⟨rfl, hb⟩; obtain ⟨c0, f0⟩ := HC.out _ hb; have HR := hidW (HE.out _ hb)))
  exact bodyPost_end (v := .tuple #[]) (by simp [results, Tryz.results39, go_sem]) rfl ⟨rfl, HR.out⟩
set_option maxRecDepth 100000 in
theorem gset_pc (w : World) (b : Nat) (t : TypeId) (R : List Int) (E : List Value) (v : Int) (h : RB w b t R E) (hv : 0 ≤ v ∧ v < 4294967296) : Calls Tryz.prog 39 #[.pointer (some ⟨b, 0, none⟩), .int .i64 15, .int .u32 v] w fun e w' => e = .returned (.tuple #[]) ∧ TA b w w' ∧ RB w' b t (stR R 15 v) E := by
  have HP : Hid (Calls Tryz.prog 55 #[.pointer (some ⟨b, 0, none⟩), .int .i64 15] w fun e w' => e = .returned (.pointer (some ⟨b, 28, none⟩)) ∧ Below w.heap.size w w') := gplace w b R 15 h.rs (by decide)
  have HA : Hid (∀ w, Calls Tryz.prog 54 #[.int .u32 v] w fun e w' => e = .returned (.int .u32 (alW v)) ∧ w' = w) := fun w => galign v w hv
  have HC : Hid (∀ w', Below w.heap.size w w' → w'.cell? ⟨b, 28, none⟩ = some (.int .u32 (rg R 28)) ∧ w'.frozen? ⟨b, 28, none⟩ = false) := fun w' hb => ⟨(h.rs.below hb).cell _ (by decide), (h.rs.below hb).frz _⟩
  have HE : Hid (∀ w', Below w.heap.size w w' → TA b w (w'.setCell ⟨b, 28, none⟩ (.int .u32 (alW v))) ∧ RB (w'.setCell ⟨b, 28, none⟩ (.int .u32 (alW v))) b t (stR R 15 v) E) := fun w' hb => ⟨ta_put hb, (h.below hb).put (k := 28) (by decide) (alW_range hv)⟩
  generalize stR R 15 v = R' at *
  generalize alW v = u at *
  generalize rg R 28 = y at *
  clear h hv
  go_enter Tryz.func39, Tryz.ntmps39
  go_wp2_with (first | (go_at_call 54; refine (HA.out _).mono ?_; rintro e w1 ⟨rfl, rfl⟩) | (go_at_call 55; refine HP.out.mono ?_; rintro e w1 ⟨rfl, hb⟩; obtain ⟨c0, f0⟩ := HC.out _ hb; have HR := hidW (HE.out _ hb)))
  exact bodyPost_end (v := .tuple #[]) (by simp [results, Tryz.results39, go_sem]) rfl ⟨rfl, HR.out⟩
theorem gset (w : World) (b : Nat) (t : TypeId) (R : List Int) (E : List Value) (n v : Int) (h : RB w b t R E) (hn : 0 ≤ n ∧ n ≤ 15) (hv : 0 ≤ v ∧ v < 4294967296) : Calls Tryz.prog 39 #[.pointer (some ⟨b, 0, none⟩), .int .i64 n, .int .u32 v] w fun e w' => e = .returned (.tuple #[]) ∧ TA b w w' ∧ RB w' b t (stR R n v) E := by
  by_cases h15 : n = 15
  · subst h15; exact gset_pc w b t R E v h hv
  · exact gset_n w b t R E n v h hn hv h15
end Go.Proofs.YtilhceajhlaojaaGreatDoor
namespace Go.Proofs.YtilhceajhlaojaaGreatDoor.Al
open Go.RowKit
set_option linter.unusedVariables false
set_option linter.unusedSimpArgs false
set_option maxRecDepth 100000 in
theorem gset_any (x i : Int) (w : World) (hx : 0 ≤ x ∧ x < 4294967296) (hi : 0 ≤ i ∧ i < 32) :
    Calls Tryz.prog 31 #[.int .u32 x, .int .i64 i] w fun e w' => e = .returned (.bool (bt x i.toNat)) ∧ w' = w := by
  have h3 := band1 (x / 2 ^ i.toNat) (shr_range x _ hx)
  have hm : 0 ≤ i := by omega
  have hm2 : i < 32 := by omega
  clear hx hi
  unfold bt
  go_enter Tryz.func31, Tryz.ntmps31
  go_wp2
  go_ret
  exact ⟨rfl, rfl⟩
theorem gset_nat (x i : Nat) (w : World) (hx : x < 4294967296) (hi : i < 32) :
    Calls Tryz.prog 31 #[.int .u32 x, .int .i64 i] w fun e w' => e = .returned (.bool (fb x i)) ∧ w' = w := by
  have := gset_any x i w (by omega) (by omega)
  rwa [show ((i : Int)).toNat = i by omega, bt_nat] at this
theorem gset_31 (x : Int) (w : World) (h0 : 0 ≤ x) (h1 : x < 4294967296) :
    Calls Tryz.prog 31 #[.int .u32 x, .int .i64 31] w fun e w' => e = .returned (.bool (decide (2147483648 ≤ x))) ∧ w' = w := by
  have := gset_any x 31 w ⟨h0, h1⟩ (by omega)
  have e : bt x (31 : Int).toNat = decide (2147483648 ≤ x) := by
    unfold bt
    rw [show (31 : Int).toNat = 31 by decide, show (2 : Int) ^ 31 = 2147483648 by decide]
    by_cases h : 2147483648 ≤ x
    · rw [decide_eq_true h, show x / 2147483648 % 2 = 1 by omega]; rfl
    · rw [decide_eq_false h, show x / 2147483648 % 2 = 0 by omega]; rfl
  rwa [e] at this
set_option maxRecDepth 100000 in
theorem gbit_any (c : Bool) (w : World) :
    Calls Tryz.prog 112 #[.bool c] w fun e w' => e = .returned (.int .u32 (cI c)) ∧ w' = w := by
  cases c
  all_goals
    go_enter Tryz.func112, Tryz.ntmps112
    go_wp2
    go_ret
    exact ⟨rfl, rfl⟩
set_option maxRecDepth 100000 in
theorem gflagsof_any (x : Int) (c v : Bool) (w : World) (h0 : 0 ≤ x) (h1 : x < 4294967296) :
    Calls Tryz.prog 117 #[.int .u32 x, .bool c, .bool v] w fun e w' => e = .returned (.agg #[.bool (decide (2147483648 ≤ x)), .bool (x == 0), .bool c, .bool v]) ∧ Below w.heap.size w w' := by
  have HB : Hid (∀ w, Calls Tryz.prog 31 #[.int .u32 x, .int .i64 31] w fun e w' => e = .returned (.bool (decide (2147483648 ≤ x))) ∧ w' = w) := fun w => gset_31 x w h0 h1
  clear h0 h1
  generalize decide (2147483648 ≤ x) = nb at *
  go_enter Tryz.func117, Tryz.ntmps117
  go_wp2_with (go_at_call 31; refine (HB.out _).mono ?_; rintro e w' ⟨rfl, rfl⟩)
  refine bodyPost_ret (v := .agg #[.bool nb, .bool (x == 0), .bool c, .bool v]) (by simp [results, Tryz.results117, go_sem]) rfl ⟨rfl, ?_⟩
  (repeat (first | apply below_drew | refine Below.setCell ?_ (by simp) _ | refine Below.alloc ?_ (by simp) _)); exact Below.refl _ _
end Go.Proofs.YtilhceajhlaojaaGreatDoor.Al
namespace Go.Proofs.YtilhceajhlaojaaGreatDoor.Al
open Go.RowKit
set_option linter.unusedVariables false
set_option linter.unusedSimpArgs false
theorem wrap_i32 (x : Int) (h0 : 0 ≤ x) (h1 : x < 4294967296) : IntKind.i32.wrap x = sgn x := by
  rw [IntKind.wrap_i32]
  unfold sgn
  split <;> omega
theorem wrap_32 (x : Int) (h0 : 0 ≤ x) (h1 : x < 4294967296) : wrap32 x = sgn x := by
  rw [← wrap_i32 x h0 h1, IntKind.wrap_i32]
  unfold wrap32
  rfl
theorem gtr_max (a : Int) : decide (4294967295 < a) = decide (4294967296 ≤ a) := by
  by_cases h : 4294967296 ≤ a
  · rw [decide_eq_true h, decide_eq_true (by omega)]
  · rw [decide_eq_false h, decide_eq_false (by omega)]
set_option maxRecDepth 100000 in
set_option maxHeartbeats 1000000 in
theorem gsum_0 (x y U : Int) (w : World) (x0 : 0 ≤ x) (x1 : x < 4294967296) (y0 : 0 ≤ y) (y1 : y < 4294967296) (hU : (x + y) % 4294967296 = U) :
    Calls Tryz.prog 121 #[.int .u32 x, .int .u32 y, .bool false] w fun e w' => e = .returned (.tuple #[.int .u32 U, .agg #[.bool (decide (2147483648 ≤ U)), .bool (U == 0), .bool (decide (4294967296 ≤ x + y)), .bool (sgn x + sgn y != sgn U)]]) ∧ Below w.heap.size w w' := by
  have u0 : 0 ≤ U := by omega
  have u1 : U < 4294967296 := by omega
  have HF : Hid (∀ c v w, Calls Tryz.prog 117 #[.int .u32 U, .bool c, .bool v] w fun e w' => e = .returned (.agg #[.bool (decide (2147483648 ≤ U)), .bool (U == 0), .bool c, .bool v]) ∧ Below w.heap.size w w') := fun c v w => gflagsof_any U c v w u0 u1
  have HB : Hid (∀ w, Calls Tryz.prog 112 #[.bool false] w fun e w' => e = .returned (.int .u32 0) ∧ w' = w) := fun w => gbit_any false w
  have r1 := sgn_range x x0 x1
  have r2 := sgn_range y y0 y1
  have r3 := sgn_range U u0 u1
  have e1 := wrap_i32 x x0 x1
  have e2 := wrap_i32 y y0 y1
  have e3 := wrap_i32 U u0 u1
  have f1 := wrap_32 x x0 x1
  have f2 := wrap_32 y y0 y1
  have f3 := wrap_32 U u0 u1
  have g2 : IntKind.i64.wrap (sgn x + sgn y) = sgn x + sgn y := by rw [IntKind.wrap_i64]; omega
  have g3 : IntKind.i64.wrap (sgn x + sgn y) = sgn x + sgn y := by rw [IntKind.wrap_i64]; omega
  have e4 : IntKind.i64.wrap (sgn x) = sgn x := by rw [IntKind.wrap_i64]; omega
  have e5 : IntKind.i64.wrap (sgn y) = sgn y := by rw [IntKind.wrap_i64]; omega
  have e6 : IntKind.i64.wrap (sgn U) = sgn U := by rw [IntKind.wrap_i64]; omega
  have HG : Hid (decide (4294967295 < x + y) = decide (4294967296 ≤ x + y)) := gtr_max _
  clear r1 r2 r3
  go_enter Tryz.func121, Tryz.ntmps121
  go_wp2_with (first | (go_at_call 112; refine (HB.out _).mono ?_; rintro e w' ⟨rfl, rfl⟩) | (go_at_call 117; refine Hid.out ?_))
  show Calls _ _ _ _ _
  refine (HF.out _ _ _).mono ?_
  rintro e w' ⟨rfl, hb⟩
  have B := (Bl.new _ _ _).below hb
  have HW : Hid (Below w.heap.size w w') := Below.step (below_new _ _) hb
  obtain ⟨⟨c0, c1, c2, c3⟩, d0, d1, d2, d3⟩ := B.four
  clear B hb
  go_wp2_with fail
  rw [HG.out]
  refine bodyPost_ret (v := .tuple #[.int .u32 U, .agg #[.bool (decide (2147483648 ≤ U)), .bool (U == 0), .bool (decide (4294967296 ≤ x + y)), .bool (sgn x + sgn y != sgn U)]]) (by simp [results, Tryz.results121, go_sem, c0, c1, c2, c3]) rfl ⟨rfl, ?_⟩
  iterate 4 refine Below.setCell ?_ (by simp) _
  exact HW.out
set_option maxRecDepth 100000 in
set_option maxHeartbeats 1000000 in
theorem gsum_1 (x y U : Int) (w : World) (x0 : 0 ≤ x) (x1 : x < 4294967296) (y0 : 0 ≤ y) (y1 : y < 4294967296) (hU : (x + y + 1) % 4294967296 = U) :
    Calls Tryz.prog 121 #[.int .u32 x, .int .u32 y, .bool true] w fun e w' => e = .returned (.tuple #[.int .u32 U, .agg #[.bool (decide (2147483648 ≤ U)), .bool (U == 0), .bool (decide (4294967296 ≤ x + y + 1)), .bool (sgn x + sgn y + 1 != sgn U)]]) ∧ Below w.heap.size w w' := by
  have u0 : 0 ≤ U := by omega
  have u1 : U < 4294967296 := by omega
  have HF : Hid (∀ c v w, Calls Tryz.prog 117 #[.int .u32 U, .bool c, .bool v] w fun e w' => e = .returned (.agg #[.bool (decide (2147483648 ≤ U)), .bool (U == 0), .bool c, .bool v]) ∧ Below w.heap.size w w') := fun c v w => gflagsof_any U c v w u0 u1
  have HB : Hid (∀ w, Calls Tryz.prog 112 #[.bool true] w fun e w' => e = .returned (.int .u32 1) ∧ w' = w) := fun w => gbit_any true w
  have r1 := sgn_range x x0 x1
  have r2 := sgn_range y y0 y1
  have r3 := sgn_range U u0 u1
  have e1 := wrap_i32 x x0 x1
  have e2 := wrap_i32 y y0 y1
  have e3 := wrap_i32 U u0 u1
  have f1 := wrap_32 x x0 x1
  have f2 := wrap_32 y y0 y1
  have f3 := wrap_32 U u0 u1
  have g2 : IntKind.i64.wrap (sgn x + sgn y) = sgn x + sgn y := by rw [IntKind.wrap_i64]; omega
  have g3 : IntKind.i64.wrap (sgn x + sgn y + 1) = sgn x + sgn y + 1 := by rw [IntKind.wrap_i64]; omega
  have e4 : IntKind.i64.wrap (sgn x) = sgn x := by rw [IntKind.wrap_i64]; omega
  have e5 : IntKind.i64.wrap (sgn y) = sgn y := by rw [IntKind.wrap_i64]; omega
  have e6 : IntKind.i64.wrap (sgn U) = sgn U := by rw [IntKind.wrap_i64]; omega
  have HG : Hid (decide (4294967295 < x + y + 1) = decide (4294967296 ≤ x + y + 1)) := gtr_max _
  clear r1 r2 r3
  go_enter Tryz.func121, Tryz.ntmps121
  go_wp2_with (first | (go_at_call 112; refine (HB.out _).mono ?_; rintro e w' ⟨rfl, rfl⟩) | (go_at_call 117; refine Hid.out ?_))
  show Calls _ _ _ _ _
  refine (HF.out _ _ _).mono ?_
  rintro e w' ⟨rfl, hb⟩
  have B := (Bl.new _ _ _).below hb
  have HW : Hid (Below w.heap.size w w') := Below.step (below_new _ _) hb
  obtain ⟨⟨c0, c1, c2, c3⟩, d0, d1, d2, d3⟩ := B.four
  clear B hb
  go_wp2_with fail
  rw [HG.out]
  refine bodyPost_ret (v := .tuple #[.int .u32 U, .agg #[.bool (decide (2147483648 ≤ U)), .bool (U == 0), .bool (decide (4294967296 ≤ x + y + 1)), .bool (sgn x + sgn y + 1 != sgn U)]]) (by simp [results, Tryz.results121, go_sem, c0, c1, c2, c3]) rfl ⟨rfl, ?_⟩
  iterate 4 refine Below.setCell ?_ (by simp) _
  exact HW.out
theorem gsum_any (x y : Int) (c : Bool) (w : World) (x0 : 0 ≤ x) (x1 : x < 4294967296) (y0 : 0 ≤ y) (y1 : y < 4294967296) :
    Calls Tryz.prog 121 #[.int .u32 x, .int .u32 y, .bool c] w fun e w' => e = .returned (.tuple #[.int .u32 (suW x y c), .agg #[.bool (suF x y c).n, .bool (suF x y c).z, .bool (suF x y c).c, .bool (suF x y c).v]]) ∧ Below w.heap.size w w' := by
  cases c
  · have := gsum_0 x y (suW x y false) w x0 x1 y0 y1 (by simp [suW, cI])
    simpa [suF, cI] using this
  · exact gsum_1 x y (suW x y true) w x0 x1 y0 y1 rfl
end Go.Proofs.YtilhceajhlaojaaGreatDoor.Al

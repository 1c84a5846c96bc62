import Derived.Test.YtfgfjodajjfbaaaDoorNuD
import Derived.Test.YtfgfjodajjfbaaaDoorRg
import Derived.Test.YtfgfjodajjfbaaaDoorBa
namespace Go.Proofs.YtfgfjodajjfbaaaDoor
open Go.RowKit
set_option linter.unusedVariables false

/-- A command. -/
structure Cmd where
  k : Int
  f0 : Int
  f1 : Int
  f2 : Int
  f3 : Int
  f4 : Int
  f5 : Int
  act : Int
  which : Int
  slot : Int
  nva : Int
  fetch : Bool
  pick : Int
  mf : Bool
  name : ByteArray
  other : ByteArray
  va : Int
  frm : Int
  size : Int
  count : Int
  len : Int
  rd : Bool
  wr : Bool
  ex : Bool
  bytes : Int
  value : Int
  priv : Bool
  pa : Int
  c0 : Int
  c1 : Int
  c2 : Int
  c3 : Int
def eW : ByteArray := ⟨#[]⟩
def zC (k : Int) : Cmd := ⟨k, 0, 0, 0, 0, 0, 0, 0, 0, 0, 0, false, 0, false, eW, eW, 0, 0, 0, 0, 0, false, false, false, 0, 0, false, 0, 0, 0, 0, 0⟩
def Cmd.cells (c : Cmd) : List Value := [.int .i64 c.k, .int .i64 c.f0, .int .i64 c.f1, .int .i64 c.f2, .int .i64 c.f3, .int .i64 c.f4, .int .i64 c.f5, .int .i64 c.act, .int .i64 c.which, .int .i64 c.slot, .int .u32 c.nva, .bool c.fetch, .int .i64 c.pick, .bool c.mf, .string c.name, .string c.other, .int .u32 c.va, .int .u32 c.frm, .int .i64 c.size, .int .i64 c.count, .int .u64 c.len, .bool c.rd, .bool c.wr, .bool c.ex, .int .i64 c.bytes, .int .u32 c.value, .bool c.priv, .int .u64 c.pa, .int .i64 c.c0, .int .i64 c.c1, .int .i64 c.c2, .int .i64 c.c3]
def Cmd.noise (c : Cmd) : Value := .agg #[.int .i64 c.act, .int .i64 c.which, .int .i64 c.slot, .int .u32 c.nva, .bool c.fetch, .int .i64 c.pick, .bool c.mf]
def Cmd.val (c : Cmd) : Value := .agg #[.int .i64 c.k, .int .i64 c.f0, .int .i64 c.f1, .int .i64 c.f2, .int .i64 c.f3, .int .i64 c.f4, .int .i64 c.f5, .int .i64 c.act, .int .i64 c.which, .int .i64 c.slot, .int .u32 c.nva, .bool c.fetch, .int .i64 c.pick, .bool c.mf, .string c.name, .string c.other, .int .u32 c.va, .int .u32 c.frm, .int .i64 c.size, .int .i64 c.count, .int .u64 c.len, .bool c.rd, .bool c.wr, .bool c.ex, .int .i64 c.bytes, .int .u32 c.value, .bool c.priv, .int .u64 c.pa, .int .i64 c.c0, .int .i64 c.c1, .int .i64 c.c2, .int .i64 c.c3]

/-- The names of the commands. -/
def nmW (n : Nat) : ByteArray := match n with
  | 1 => ⟨#[98, 111, 111, 116]⟩
  | 2 => ⟨#[98, 97, 114, 101]⟩
  | 3 => ⟨#[110, 111, 105, 115, 101]⟩
  | 4 => ⟨#[99, 114, 101, 97, 116, 101]⟩
  | 5 => ⟨#[100, 101, 115, 116, 114, 111, 121]⟩
  | 6 => ⟨#[115, 119, 105, 116, 99, 104]⟩
  | 7 => ⟨#[109, 97, 112]⟩
  | 8 => ⟨#[117, 110, 109, 97, 112]⟩
  | 9 => ⟨#[112, 114, 111, 116, 101, 99, 116]⟩
  | 10 => ⟨#[115, 104, 97, 114, 101]⟩
  | 11 => ⟨#[113, 117, 101, 114, 121]⟩
  | 12 => ⟨#[108, 111, 97, 100]⟩
  | 13 => ⟨#[115, 116, 111, 114, 101]⟩
  | 14 => ⟨#[102, 101, 116, 99, 104]⟩
  | 15 => ⟨#[115, 112, 97, 99, 101, 115]⟩
  | 16 => ⟨#[112, 111, 107, 101]⟩
  | 17 => ⟨#[112, 101, 101, 107]⟩
  | 18 => ⟨#[109, 99, 114]⟩
  | 19 => ⟨#[109, 114, 99]⟩
  | 20 => ⟨#[100, 105, 114, 116, 121]⟩
  | _ => eW
def kindN (s : ByteArray) : Int :=
  if s = nmW 1 then 1 else if s = nmW 2 then 2 else if s = nmW 3 then 3 else if s = nmW 4 then 4 else if s = nmW 5 then 5 else if s = nmW 6 then 6 else if s = nmW 7 then 7 else if s = nmW 8 then 8 else if s = nmW 9 then 9 else if s = nmW 10 then 10 else if s = nmW 11 then 11 else if s = nmW 12 then 12 else if s = nmW 13 then 13 else if s = nmW 14 then 14 else if s = nmW 15 then 15 else if s = nmW 16 then 16 else if s = nmW 17 then 17 else if s = nmW 18 then 18 else if s = nmW 19 then 19 else if s = nmW 20 then 20 else 0
def dashW : ByteArray := ⟨#[45]⟩
def firstW : ByteArray := ⟨#[102, 105, 114, 115, 116]⟩
def privW : ByteArray := ⟨#[112, 114, 105, 118]⟩
def userW : ByteArray := ⟨#[117, 115, 101, 114]⟩
def noneW : ByteArray := ⟨#[110, 111, 110, 101]⟩
def evictW : ByteArray := ⟨#[101, 118, 105, 99, 116]⟩
def fillW : ByteArray := ⟨#[102, 105, 108, 108]⟩
def iW : ByteArray := ⟨#[105]⟩
def dW : ByteArray := ⟨#[100]⟩
def mainW : ByteArray := ⟨#[109, 97, 105, 110]⟩
def fetchW : ByteArray := ⟨#[102, 101, 116, 99, 104]⟩
def loadW : ByteArray := ⟨#[108, 111, 97, 100]⟩

/-- A number below an end: its error. -/
def blE (e : Int) (s : ByteArray) : Int := if numE (numAll s) = 0 ∧ numV (numAll s) < e then 0 else 11
def nv (s : ByteArray) : Int := numV (numAll s)
def nmE (s : ByteArray) : Int := if nameB s = true then 0 else 10
def actN (s : ByteArray) : Int := if s = noneW then 0 else if s = evictW then 1 else if s = fillW then 2 else 3
def tlbN (s : ByteArray) : Int := if s = iW then 1 else if s = dW then 2 else if s = mainW then 3 else 0
def rgE (s : ByteArray) : Int := if s.size = 3 ∧ (bt s 0 = 114 ∨ bt s 0 = 45) ∧ (bt s 1 = 119 ∨ bt s 1 = 45) ∧ (bt s 2 = 120 ∨ bt s 2 = 45) then 0 else 12
/-- The error of a word of a kind. -/
def rdE (x : Nat) (s : ByteArray) : Int := match x with
  | 78 => nmE s
  | 79 => nmE s
  | 83 => if s = dashW then 0 else nmE s
  | 86 => blE 4294967296 s
  | 70 => blE 4294967296 s
  | 87 => blE 4294967296 s
  | 118 => blE 4294967296 s
  | 76 => numE (numAll s)
  | 80 => numE (numAll s)
  | 67 => blE 16 s
  | 77 => blE 16 s
  | 111 => blE 8 s
  | 112 => blE 8 s
  | 115 => szE s
  | 114 => rgE s
  | 97 => if actN s = 3 then 12 else 0
  | 116 => if tlbN s = 0 then 12 else 0
  | 104 => if s = fetchW ∨ s = loadW then 0 else 12
  | 113 => if s = privW then 0 else 12
  | 117 => if s = userW then 0 else 12
  | _ => blE 2147483648 s
/-- The command with the word's field. -/
def rdC (x : Nat) (s : ByteArray) (c : Cmd) : Cmd := match x with
  | 49 => { c with f0 := nv s }
  | 50 => { c with f1 := nv s }
  | 51 => { c with f2 := nv s }
  | 52 => { c with f3 := nv s }
  | 53 => { c with f4 := nv s }
  | 54 => { c with f5 := nv s }
  | 97 => { c with act := actN s }
  | 116 => { c with which := tlbN s }
  | 108 => { c with slot := nv s }
  | 118 => { c with nva := nv s }
  | 104 => { c with fetch := decide (s = fetchW) }
  | 107 => { c with pick := nv s }
  | 78 => { c with name := s }
  | 79 => { c with other := s }
  | 83 => if s = dashW then c else { c with name := s }
  | 86 => { c with va := nv s }
  | 70 => { c with frm := nv s }
  | 115 => { c with size := szN s }
  | 99 => { c with count := nv s }
  | 76 => { c with len := nv s }
  | 114 => { c with rd := decide (bt s 0 = 114), wr := decide (bt s 1 = 119), ex := decide (bt s 2 = 120) }
  | 98 => { c with bytes := nv s }
  | 87 => { c with value := nv s }
  | 113 => { c with priv := true }
  | 117 => { c with priv := false }
  | 80 => { c with pa := nv s }
  | 67 => { c with c0 := nv s }
  | 111 => { c with c1 := nv s }
  | 77 => { c with c2 := nv s }
  | 112 => { c with c3 := nv s }
  | _ => c
/-- The kinds of noise's words behind the first. -/
def nL (a : Int) : List Nat := if a = 0 then [107] else if a = 1 then [116, 108, 107] else if a = 2 then [118, 104, 107] else []
/-- The kinds of a command's words. -/
def kL (k a : Int) : List Nat :=
  if k = 1 then [49, 50, 51, 52, 53, 54] else if k = 2 then [49, 50, 51, 52] else if k = 3 then 97 :: nL a else if k = 4 then [78] else if k = 5 then [78]
  else if k = 6 then [83] else if k = 7 then [78, 86, 115, 99, 114] else if k = 8 then [78, 86, 76] else if k = 9 then [78, 86, 76, 114]
  else if k = 10 then [78, 86, 79, 70, 76, 114] else if k = 11 then [78, 86] else if k = 12 then [86, 98] else if k = 14 then [86, 98] else if k = 13 then [86, 98, 87]
  else if k = 16 then [80, 87] else if k = 17 then [80] else if k = 18 then [67, 111, 77, 112, 87] else if k = 19 then [67, 111, 77, 112] else []
/-- The word that may be missing: 0 none, 102 first, 113 priv, 117 user. -/
def mk (k : Int) : Nat := if k = 3 then 102 else if k = 12 then 113 else if k = 13 then 113 else if k = 14 then 113 else if k = 18 then 117 else if k = 19 then 117 else 0
def mkW (m : Nat) : ByteArray := if m = 102 then firstW else if m = 113 then privW else userW
def mkC (m : Nat) (b : Bool) (c : Cmd) : Cmd := if m = 102 then { c with mf := b } else if m = 113 then { c with priv := b } else { c with priv := !b }
/-- How it ended: the error, the word, the command. -/
structure Res where
  e : Int
  at_ : Int
  c : Cmd
def fin (m : Nat) (at_ : Nat) (c : Cmd) : List ByteArray → Res
  | [] => if m = 0 then ⟨0, -1, c⟩ else ⟨0, -1, mkC m false c⟩
  | w :: ws => if m = 0 then ⟨152, at_, c⟩ else if w = mkW m then (match ws with | [] => ⟨0, -1, mkC m true c⟩ | _ :: _ => ⟨152, (at_ : Int) + 1, c⟩) else ⟨12, at_, c⟩
def stepL (x : Nat) (w : ByteArray) (xs : List Nat) : List Nat := if x = 97 then nL (actN w) else xs
/-- The words taken from the left. -/
def goP : List ByteArray → List Nat → Nat → Nat → Cmd → Res
  | [], [], m, at_, c => fin m at_ c []
  | [], _ :: _, _, at_, c => ⟨152, at_, c⟩
  | w :: ws, [], m, at_, c => fin m at_ c (w :: ws)
  | w :: ws, x :: xs, m, at_, c => if rdE x w = 0 then goP ws (stepL x w xs) m (at_ + 1) (rdC x w c) else ⟨rdE x w, at_, c⟩
/-- What Parse says of a line's words. -/
def saysP (ws : List ByteArray) : Res := match ws with
  | [] => ⟨0, -1, zC 0⟩
  | w :: ws => if kindN w = 0 then ⟨151, 0, zC 0⟩ else (let r := goP ws (kL (kindN w) 0) (mk (kindN w)) 1 (zC (kindN w)); if r.e = 0 then r else ⟨r.e, r.at_, zC 0⟩)
def parseP (s : ByteArray) : Res := if 256 < s.size then ⟨153, -1, zC 0⟩ else saysP (fieldsB (ahead s))

theorem kindN_at : ∀ n, 1 ≤ n → n ≤ 20 → kindN (nmW n) = n := by
  intro n h1 h2
  rcases (show n = 1 ∨ n = 2 ∨ n = 3 ∨ n = 4 ∨ n = 5 ∨ n = 6 ∨ n = 7 ∨ n = 8 ∨ n = 9 ∨ n = 10 ∨ n = 11 ∨ n = 12 ∨ n = 13 ∨ n = 14 ∨ n = 15 ∨ n = 16 ∨ n = 17 ∨ n = 18 ∨ n = 19 ∨ n = 20 by omega) with rfl | rfl | rfl | rfl | rfl | rfl | rfl | rfl | rfl | rfl | rfl | rfl | rfl | rfl | rfl | rfl | rfl | rfl | rfl | rfl
  all_goals decide +kernel
theorem kindN_no {s : ByteArray} (h : ∀ n, 1 ≤ n → n ≤ 20 → nmW n ≠ s) : kindN s = 0 := by
  unfold kindN
  rw [if_neg (fun e => h 1 (by omega) (by omega) e.symm)]
  rw [if_neg (fun e => h 2 (by omega) (by omega) e.symm)]
  rw [if_neg (fun e => h 3 (by omega) (by omega) e.symm)]
  rw [if_neg (fun e => h 4 (by omega) (by omega) e.symm)]
  rw [if_neg (fun e => h 5 (by omega) (by omega) e.symm)]
  rw [if_neg (fun e => h 6 (by omega) (by omega) e.symm)]
  rw [if_neg (fun e => h 7 (by omega) (by omega) e.symm)]
  rw [if_neg (fun e => h 8 (by omega) (by omega) e.symm)]
  rw [if_neg (fun e => h 9 (by omega) (by omega) e.symm)]
  rw [if_neg (fun e => h 10 (by omega) (by omega) e.symm)]
  rw [if_neg (fun e => h 11 (by omega) (by omega) e.symm)]
  rw [if_neg (fun e => h 12 (by omega) (by omega) e.symm)]
  rw [if_neg (fun e => h 13 (by omega) (by omega) e.symm)]
  rw [if_neg (fun e => h 14 (by omega) (by omega) e.symm)]
  rw [if_neg (fun e => h 15 (by omega) (by omega) e.symm)]
  rw [if_neg (fun e => h 16 (by omega) (by omega) e.symm)]
  rw [if_neg (fun e => h 17 (by omega) (by omega) e.symm)]
  rw [if_neg (fun e => h 18 (by omega) (by omega) e.symm)]
  rw [if_neg (fun e => h 19 (by omega) (by omega) e.symm)]
  rw [if_neg (fun e => h 20 (by omega) (by omega) e.symm)]
theorem kindN_bd (s : ByteArray) : 0 ≤ kindN s ∧ kindN s ≤ 20 := by
  unfold kindN
  repeat' split
  all_goals omega
theorem rdC_k (x : Nat) (s : ByteArray) (c : Cmd) : (rdC x s c).k = c.k := by
  unfold rdC
  repeat' split
  all_goals rfl
theorem rdC_act (x : Nat) (s : ByteArray) (c : Cmd) (h : x ≠ 97) : (rdC x s c).act = c.act := by
  unfold rdC
  split
  case h_7 => exact absurd rfl h
  all_goals first | rfl | (split <;> rfl)
theorem kL_else {k a : Int} (h : ¬ (1 ≤ k ∧ k ≤ 19)) : kL k a = [] := by
  unfold kL
  rw [if_neg (by omega)]
  rw [if_neg (by omega)]
  rw [if_neg (by omega)]
  rw [if_neg (by omega)]
  rw [if_neg (by omega)]
  rw [if_neg (by omega)]
  rw [if_neg (by omega)]
  rw [if_neg (by omega)]
  rw [if_neg (by omega)]
  rw [if_neg (by omega)]
  rw [if_neg (by omega)]
  rw [if_neg (by omega)]
  rw [if_neg (by omega)]
  rw [if_neg (by omega)]
  rw [if_neg (by omega)]
  rw [if_neg (by omega)]
  rw [if_neg (by omega)]
  rw [if_neg (by omega)]
theorem kL_15 (a : Int) : kL 15 a = [] := rfl
theorem kL_97 {k a : Int} {i x : Nat} (h : (kL k a)[i]? = some x) : x = 97 ↔ (k = 3 ∧ i = 0) := by
  by_cases hk : 1 ≤ k ∧ k ≤ 19
  · rcases (show k = 3 ∨ k = 1 ∨ k = 2 ∨ k = 4 ∨ k = 5 ∨ k = 6 ∨ k = 7 ∨ k = 8 ∨ k = 9 ∨ k = 10 ∨ k = 11 ∨ k = 12 ∨ k = 13 ∨ k = 14 ∨ k = 16 ∨ k = 17 ∨ k = 18 ∨ k = 19 ∨ k = 15 by omega) with rfl | rfl | rfl | rfl | rfl | rfl | rfl | rfl | rfl | rfl | rfl | rfl | rfl | rfl | rfl | rfl | rfl | rfl | rfl
    · unfold kL at h
      rw [if_neg (by omega), if_neg (by omega), if_pos rfl] at h
      unfold nL at h
      rcases i with _ | i
      · simp at h
        omega
      · simp only [List.getElem?_cons_succ] at h
        split at h
        · rcases i with _ | _ | i <;> simp at h <;> omega
        split at h
        · rcases i with _ | _ | _ | _ | i <;> simp at h <;> omega
        split at h
        · rcases i with _ | _ | _ | _ | i <;> simp at h <;> omega
        · simp at h
    all_goals
      simp only [kL, Int.reduceEq, if_false, if_true] at h
      rcases i with _ | _ | _ | _ | _ | _ | _ | i <;> simp at h <;> omega
  · rw [kL_else hk] at h
    simp at h
theorem kL_step {c : Cmd} {i x : Nat} {w : ByteArray} (h : (kL c.k c.act)[i]? = some x) : (kL (rdC x w c).k (rdC x w c).act).drop (i + 1) = stepL x w ((kL c.k c.act).drop (i + 1)) := by
  by_cases hx : x = 97
  · obtain ⟨h3, rfl⟩ := (kL_97 h).1 hx
    subst hx
    rw [rdC_k, h3]
    rfl
  · rw [rdC_k, rdC_act _ _ _ hx]
    unfold stepL
    rw [if_neg hx]
end Go.Proofs.YtfgfjodajjfbaaaDoor

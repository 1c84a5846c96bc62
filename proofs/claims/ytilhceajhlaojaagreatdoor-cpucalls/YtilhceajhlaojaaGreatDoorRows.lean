/-
  NARROWER THAN 'FOR EVERY INPUT', by the rows' own cells (each row's printed sentence says how): CpuPassed: laid · CpuCalls: laid · CpuAgain: laid · CpuBanks: laid · CpuSame: laid · CpuStates: laid.
  DERIVED. THE GIVEN ROWS OF THIS SEAT. 6 by the template 'for every input the law returns true; each argument reads behind the call as it read before'; 0 by the template 'total and deterministic' (their statements: YtilhceajhlaojaaGreatDoorTotals.lean).
  GIVEN WITH THE SEED: the statements are not yours to turn. If you find one false, say at which input.
  Laid BY PROGRAM, IN A SANDBOX (cutbox-rows.mjs): the forced cells as the released guide's own fill.sh prints them over the translation f83761c7b6509113… (all of the seat's roots in one cut). By AI agents, Wed Nov 11 2026. No macro, syntax, notation, axiom, sorry.
-/
import Derived.Test.YtilhceajhlaojaaGreatDoorChecked
import GoSem.Claim
import GoSem.ClaimJoined
import GoSem.ClaimMapViews
import Derived.JoinedTies
import Derived.KernelRfl
namespace Go.Proofs.YtilhceajhlaojaaGreatDoor
/- THE CELL 'sum', in the pinned program and in every row, IS THE sha256 OF THE DUMP (.gsa) THAT YtilhceajhlaojaaGreatDoorProg.lean LOADS. Nothing in Lean hashes anything: it is a label: what it is worth is what the hold of that sum in a sandbox is worth. -/
noncomputable def Tryz.pinned : Pinned := { name := "ytilhceajhlaojaagreatdoor", sum := "f83761c7b6509113bc202e016d86c59edd5a4b59be5fa26333aa65ea5fd161a2", checked := Tryz.checked }
namespace Rows
def none {H : Type} : Left H := { results := [], args := [] }

/- WHAT THE LISTED PACKAGE-LEVEL VARIABLES READ AS WHEN THE CALL BEGINS. Each datum BY PROGRAM (the guide's laid-datum.mjs) off the statement by which the dump's own 'gosem.cut.vars' lays the variable. In a bare row this is a premise. The card (YtilhceajhlaojaaGreatDoorCards.lean) ties it to the program's text. -/
def laid_math_bits_deBruijn32tab {H : Type} : DataW H := .agg [.lit (.int .u8 0), .lit (.int .u8 1), .lit (.int .u8 28), .lit (.int .u8 2), .lit (.int .u8 29), .lit (.int .u8 14), .lit (.int .u8 24), .lit (.int .u8 3), .lit (.int .u8 30), .lit (.int .u8 22), .lit (.int .u8 20), .lit (.int .u8 15), .lit (.int .u8 25), .lit (.int .u8 17), .lit (.int .u8 4), .lit (.int .u8 8), .lit (.int .u8 31), .lit (.int .u8 27), .lit (.int .u8 13), .lit (.int .u8 23), .lit (.int .u8 21), .lit (.int .u8 19), .lit (.int .u8 16), .lit (.int .u8 7), .lit (.int .u8 26), .lit (.int .u8 12), .lit (.int .u8 18), .lit (.int .u8 6), .lit (.int .u8 11), .lit (.int .u8 5), .lit (.int .u8 10), .lit (.int .u8 9)]
def laid_atlas_isa_places {H : Type} : DataW H := .agg [.agg [.lit (.int .u8 0), .lit (.int .u8 21), .lit (.int .u8 4), .lit (.int .u8 0)], .agg [.lit (.int .u8 1), .lit (.int .u8 20), .lit (.int .u8 1), .lit (.int .u8 0)], .agg [.lit (.int .u8 1), .lit (.int .u8 22), .lit (.int .u8 1), .lit (.int .u8 0)], .agg [.lit (.int .u8 2), .lit (.int .u8 12), .lit (.int .u8 4), .lit (.int .u8 0)], .agg [.lit (.int .u8 2), .lit (.int .u8 16), .lit (.int .u8 4), .lit (.int .u8 0)], .agg [.lit (.int .u8 3), .lit (.int .u8 16), .lit (.int .u8 4), .lit (.int .u8 0)], .agg [.lit (.int .u8 4), .lit (.int .u8 0), .lit (.int .u8 4), .lit (.int .u8 0)], .agg [.lit (.int .u8 5), .lit (.int .u8 8), .lit (.int .u8 4), .lit (.int .u8 0)], .agg [.lit (.int .u8 6), .lit (.int .u8 12), .lit (.int .u8 4), .lit (.int .u8 0)], .agg [.lit (.int .u8 7), .lit (.int .u8 0), .lit (.int .u8 12), .lit (.int .u8 0)], .agg [.lit (.int .u8 7), .lit (.int .u8 0), .lit (.int .u8 24), .lit (.int .u8 0)], .agg [.lit (.int .u8 7), .lit (.int .u8 0), .lit (.int .u8 24), .lit (.int .u8 2)], .agg [.lit (.int .u8 7), .lit (.int .u8 0), .lit (.int .u8 4), .lit (.int .u8 0)], .agg [.lit (.int .u8 7), .lit (.int .u8 8), .lit (.int .u8 4), .lit (.int .u8 4)], .agg [.lit (.int .u8 7), .lit (.int .u8 8), .lit (.int .u8 12), .lit (.int .u8 4)], .agg [.lit (.int .u8 7), .lit (.int .u8 16), .lit (.int .u8 4), .lit (.int .u8 12)], .agg [.lit (.int .u8 8), .lit (.int .u8 5), .lit (.int .u8 2), .lit (.int .u8 0)], .agg [.lit (.int .u8 9), .lit (.int .u8 7), .lit (.int .u8 5), .lit (.int .u8 0)], .agg [.lit (.int .u8 9), .lit (.int .u8 10), .lit (.int .u8 2), .lit (.int .u8 0)], .agg [.lit (.int .u8 9), .lit (.int .u8 16), .lit (.int .u8 4), .lit (.int .u8 0)], .agg [.lit (.int .u8 10), .lit (.int .u8 24), .lit (.int .u8 1), .lit (.int .u8 0)], .agg [.lit (.int .u8 11), .lit (.int .u8 23), .lit (.int .u8 1), .lit (.int .u8 0)], .agg [.lit (.int .u8 12), .lit (.int .u8 21), .lit (.int .u8 1), .lit (.int .u8 0)], .agg [.lit (.int .u8 13), .lit (.int .u8 0), .lit (.int .u8 16), .lit (.int .u8 0)], .agg [.lit (.int .u8 14), .lit (.int .u8 16), .lit (.int .u8 4), .lit (.int .u8 0)], .agg [.lit (.int .u8 15), .lit (.int .u8 21), .lit (.int .u8 3), .lit (.int .u8 0)], .agg [.lit (.int .u8 16), .lit (.int .u8 0), .lit (.int .u8 4), .lit (.int .u8 0)], .agg [.lit (.int .u8 17), .lit (.int .u8 5), .lit (.int .u8 3), .lit (.int .u8 0)]]
def laid_atlas_isa_lowRows {H : Type} : DataW H := .agg [.agg [.lit (.int .u8 1), .lit (.int .u8 1), .lit (.int .u32 251658240), .lit (.int .u32 33554432), .lit (.int .u32 555)], .agg [.lit (.int .u8 1), .lit (.int .u8 2), .lit (.int .u32 251658256), .lit (.int .u32 0), .lit (.int .u32 196715)], .agg [.lit (.int .u8 1), .lit (.int .u8 3), .lit (.int .u32 251658384), .lit (.int .u32 16), .lit (.int .u32 65771)], .agg [.lit (.int .u8 13), .lit (.int .u8 1), .lit (.int .u32 262144000), .lit (.int .u32 58720256), .lit (.int .u32 555)], .agg [.lit (.int .u8 13), .lit (.int .u8 2), .lit (.int .u32 262144016), .lit (.int .u32 25165824), .lit (.int .u32 196715)], .agg [.lit (.int .u8 13), .lit (.int .u8 3), .lit (.int .u32 262144144), .lit (.int .u32 25165840), .lit (.int .u32 65771)], .agg [.lit (.int .u8 9), .lit (.int .u8 1), .lit (.int .u32 261156864), .lit (.int .u32 51380224), .lit (.int .u32 547)], .agg [.lit (.int .u8 9), .lit (.int .u8 2), .lit (.int .u32 261156880), .lit (.int .u32 17825792), .lit (.int .u32 196707)], .agg [.lit (.int .u8 9), .lit (.int .u8 3), .lit (.int .u32 261157008), .lit (.int .u32 17825808), .lit (.int .u32 65763)], .agg [.lit (.int .u8 14), .lit (.int .u8 1), .lit (.int .u32 263127040), .lit (.int .u32 60817408), .lit (.int .u32 523)], .agg [.lit (.int .u8 14), .lit (.int .u8 2), .lit (.int .u32 263127056), .lit (.int .u32 27262976), .lit (.int .u32 196683)], .agg [.lit (.int .u8 14), .lit (.int .u8 3), .lit (.int .u32 263127184), .lit (.int .u32 27262992), .lit (.int .u32 65739)], .agg [.lit (.int .u8 17), .lit (.int .u8 0), .lit (.int .u32 267386880), .lit (.int .u32 50331648), .lit (.int .u32 33288)], .agg [.lit (.int .u8 18), .lit (.int .u8 0), .lit (.int .u32 267386880), .lit (.int .u32 54525952), .lit (.int .u32 33288)], .agg [.lit (.int .u8 19), .lit (.int .u8 0), .lit (.int .u32 266399984), .lit (.int .u32 144), .lit (.int .u32 210)], .agg [.lit (.int .u8 20), .lit (.int .u8 0), .lit (.int .u32 266338544), .lit (.int .u32 2097296), .lit (.int .u32 466)], .agg [.lit (.int .u8 21), .lit (.int .u8 0), .lit (.int .u32 266338544), .lit (.int .u32 8388752), .lit (.int .u32 466)], .agg [.lit (.int .u8 22), .lit (.int .u8 0), .lit (.int .u32 266338544), .lit (.int .u32 10485904), .lit (.int .u32 466)], .agg [.lit (.int .u8 23), .lit (.int .u8 0), .lit (.int .u32 266338544), .lit (.int .u32 12583056), .lit (.int .u32 466)], .agg [.lit (.int .u8 24), .lit (.int .u8 0), .lit (.int .u32 266338544), .lit (.int .u32 14680208), .lit (.int .u32 466)], .agg [.lit (.int .u8 25), .lit (.int .u8 0), .lit (.int .u32 268374000), .lit (.int .u32 24055568), .lit (.int .u32 72)], .agg [.lit (.int .u8 35), .lit (.int .u8 1), .lit (.int .u32 240124144), .lit (.int .u32 5243056), .lit (.int .u32 7352360)], .agg [.lit (.int .u8 36), .lit (.int .u8 1), .lit (.int .u32 240124144), .lit (.int .u32 4194480), .lit (.int .u32 7352360)], .agg [.lit (.int .u8 37), .lit (.int .u8 1), .lit (.int .u32 240124144), .lit (.int .u32 5243088), .lit (.int .u32 7352360)], .agg [.lit (.int .u8 38), .lit (.int .u8 1), .lit (.int .u32 240124144), .lit (.int .u32 5243120), .lit (.int .u32 7352360)], .agg [.lit (.int .u8 35), .lit (.int .u8 2), .lit (.int .u32 240127984), .lit (.int .u32 1048752), .lit (.int .u32 7340136)], .agg [.lit (.int .u8 36), .lit (.int .u8 2), .lit (.int .u32 240127984), .lit (.int .u32 176), .lit (.int .u32 7340136)], .agg [.lit (.int .u8 37), .lit (.int .u8 2), .lit (.int .u32 240127984), .lit (.int .u32 1048784), .lit (.int .u32 7340136)], .agg [.lit (.int .u8 38), .lit (.int .u8 2), .lit (.int .u32 240127984), .lit (.int .u32 1048816), .lit (.int .u32 7340136)], .agg [.lit (.int .u8 43), .lit (.int .u8 0), .lit (.int .u32 268435440), .lit (.int .u32 19922704), .lit (.int .u32 64)], .agg [.lit (.int .u8 44), .lit (.int .u8 0), .lit (.int .u32 268435440), .lit (.int .u32 19922736), .lit (.int .u32 64)], .agg [.lit (.int .u8 46), .lit (.int .u8 0), .lit (.int .u32 267387120), .lit (.int .u32 18874480), .lit (.int .u32 20480)], .agg [.lit (.int .u8 47), .lit (.int .u8 0), .lit (.int .u32 264179711), .lit (.int .u32 17760256), .lit (.int .u32 12)], .agg [.lit (.int .u8 51), .lit (.int .u8 0), .lit (.int .u32 268435455), .lit (.int .u32 52490240), .lit (.int .u32 0)], .agg [.lit (.int .u8 52), .lit (.int .u8 0), .lit (.int .u32 268435455), .lit (.int .u32 52490243), .lit (.int .u32 0)], .agg [.lit (.int .u8 48), .lit (.int .u8 2), .lit (.int .u32 263258096), .lit (.int .u32 18935808), .lit (.int .u32 524356)], .agg [.lit (.int .u8 48), .lit (.int .u8 1), .lit (.int .u32 263254016), .lit (.int .u32 52490240), .lit (.int .u32 524804)]]
def laid_atlas_isa_highRows {H : Type} : DataW H := .agg [.agg [.lit (.int .u8 31), .lit (.int .u8 1), .lit (.int .u32 240123904), .lit (.int .u32 68157440), .lit (.int .u32 7340584)], .agg [.lit (.int .u8 32), .lit (.int .u8 1), .lit (.int .u32 240123904), .lit (.int .u32 67108864), .lit (.int .u32 7340584)], .agg [.lit (.int .u8 33), .lit (.int .u8 1), .lit (.int .u32 240123904), .lit (.int .u32 72351744), .lit (.int .u32 7340584)], .agg [.lit (.int .u8 34), .lit (.int .u8 1), .lit (.int .u32 240123904), .lit (.int .u32 71303168), .lit (.int .u32 7340584)], .agg [.lit (.int .u8 31), .lit (.int .u8 2), .lit (.int .u32 240123920), .lit (.int .u32 101711872), .lit (.int .u32 7536744)], .agg [.lit (.int .u8 32), .lit (.int .u8 2), .lit (.int .u32 240123920), .lit (.int .u32 100663296), .lit (.int .u32 7536744)], .agg [.lit (.int .u8 33), .lit (.int .u8 2), .lit (.int .u32 240123920), .lit (.int .u32 105906176), .lit (.int .u32 7536744)], .agg [.lit (.int .u8 34), .lit (.int .u8 2), .lit (.int .u32 240123920), .lit (.int .u32 104857600), .lit (.int .u32 7536744)], .agg [.lit (.int .u8 26), .lit (.int .u8 0), .lit (.int .u32 268374000), .lit (.int .u32 113184560), .lit (.int .u32 72)], .agg [.lit (.int .u8 27), .lit (.int .u8 0), .lit (.int .u32 268370928), .lit (.int .u32 116326512), .lit (.int .u32 262216)], .agg [.lit (.int .u8 28), .lit (.int .u8 0), .lit (.int .u32 268370928), .lit (.int .u32 117375088), .lit (.int .u32 262216)], .agg [.lit (.int .u8 29), .lit (.int .u8 0), .lit (.int .u32 268370928), .lit (.int .u32 112132208), .lit (.int .u32 262216)], .agg [.lit (.int .u8 30), .lit (.int .u8 0), .lit (.int .u32 268370928), .lit (.int .u32 113180784), .lit (.int .u32 262216)], .agg [.lit (.int .u8 39), .lit (.int .u8 0), .lit (.int .u32 240123904), .lit (.int .u32 135266304), .lit (.int .u32 15728672)], .agg [.lit (.int .u8 40), .lit (.int .u8 0), .lit (.int .u32 240123904), .lit (.int .u32 134217728), .lit (.int .u32 15728672)], .agg [.lit (.int .u8 41), .lit (.int .u8 0), .lit (.int .u32 251658240), .lit (.int .u32 167772160), .lit (.int .u32 2048)], .agg [.lit (.int .u8 42), .lit (.int .u8 0), .lit (.int .u32 251658240), .lit (.int .u32 184549376), .lit (.int .u32 2048)], .agg [.lit (.int .u8 45), .lit (.int .u8 0), .lit (.int .u32 251658240), .lit (.int .u32 251658240), .lit (.int .u32 1024)], .agg [.lit (.int .u8 49), .lit (.int .u8 0), .lit (.int .u32 252710672), .lit (.int .u32 234884880), .lit (.int .u32 251658248)], .agg [.lit (.int .u8 50), .lit (.int .u8 0), .lit (.int .u32 252710672), .lit (.int .u32 235933456), .lit (.int .u32 251658248)]]
def laid_atlas_cpu_exceptions {H : Type} : DataW H := .agg [.agg [.lit (.int .i64 0), .lit (.int .u32 0), .lit (.int .u32 0)], .agg [.lit (.int .i64 27), .lit (.int .u32 4), .lit (.int .u32 4)], .agg [.lit (.int .i64 19), .lit (.int .u32 4), .lit (.int .u32 8)], .agg [.lit (.int .i64 23), .lit (.int .u32 4), .lit (.int .u32 12)], .agg [.lit (.int .i64 23), .lit (.int .u32 8), .lit (.int .u32 16)], .agg [.lit (.int .i64 18), .lit (.int .u32 4), .lit (.int .u32 24)], .agg [.lit (.int .i64 0), .lit (.int .u32 0), .lit (.int .u32 0)]]

/-- 'atlaslaw20.CpuPassed': WHATEVER THE INPUT: true; the input reads as it did. -/
def cpuPassedSpec : ChangeSpec := { name := "cpuPassed", fn := fun _ => fun
  | [d1, d2] => { results := [.lit (.bool true)], args := [d1, d2] }
  | _ => none }
def cpuPassedRow : OpenClaim := { program := "ytilhceajhlaojaagreatdoor", sum := "f83761c7b6509113bc202e016d86c59edd5a4b59be5fa26333aa65ea5fd161a2", func := "atlas/atlaslaw20.CpuPassed", spec := "cpuPassed", unfollowed := true, recurses := true, named := ["atlas/cpu.exceptions", "atlas/isa.lowRows", "atlas/isa.highRows", "atlas/isa.places", "math/bits.deBruijn32tab"], apart := false, laid := [("math/bits.deBruijn32tab", laid_math_bits_deBruijn32tab), ("atlas/isa.places", laid_atlas_isa_places), ("atlas/isa.lowRows", laid_atlas_isa_lowRows), ("atlas/isa.highRows", laid_atlas_isa_highRows), ("atlas/cpu.exceptions", laid_atlas_cpu_exceptions)] }
def CpuPassedSaid : Prop := cpuPassedRow.holds Tryz.pinned (OpenSpec.ofChange cpuPassedSpec)

/-- ITS FALSE NEIGHBOUR: 'it returns false'. Refute it at one input. -/
def cpuPassedWrong : ChangeSpec := { name := "cpuPassed", fn := fun _ => fun
  | [d1, d2] => { results := [.lit (.bool false)], args := [d1, d2] }
  | _ => none }
def CpuPassedWrongFalsely : Prop := cpuPassedRow.holds Tryz.pinned (OpenSpec.ofChange cpuPassedWrong)

/-- 'atlaslaw20.CpuCalls': WHATEVER THE INPUT: true; the input reads as it did. -/
def cpuCallsSpec : ChangeSpec := { name := "cpuCalls", fn := fun _ => fun
  | [d1, d2, d3] => { results := [.lit (.bool true)], args := [d1, d2, d3] }
  | _ => none }
def cpuCallsRow : OpenClaim := { program := "ytilhceajhlaojaagreatdoor", sum := "f83761c7b6509113bc202e016d86c59edd5a4b59be5fa26333aa65ea5fd161a2", func := "atlas/atlaslaw20.CpuCalls", spec := "cpuCalls", unfollowed := true, recurses := true, named := ["atlas/cpu.exceptions", "atlas/isa.lowRows", "atlas/isa.highRows", "atlas/isa.places", "math/bits.deBruijn32tab"], apart := false, laid := [("math/bits.deBruijn32tab", laid_math_bits_deBruijn32tab), ("atlas/isa.places", laid_atlas_isa_places), ("atlas/isa.lowRows", laid_atlas_isa_lowRows), ("atlas/isa.highRows", laid_atlas_isa_highRows), ("atlas/cpu.exceptions", laid_atlas_cpu_exceptions)] }
def CpuCallsSaid : Prop := cpuCallsRow.holds Tryz.pinned (OpenSpec.ofChange cpuCallsSpec)

/-- ITS FALSE NEIGHBOUR: 'it returns false'. Refute it at one input. -/
def cpuCallsWrong : ChangeSpec := { name := "cpuCalls", fn := fun _ => fun
  | [d1, d2, d3] => { results := [.lit (.bool false)], args := [d1, d2, d3] }
  | _ => none }
def CpuCallsWrongFalsely : Prop := cpuCallsRow.holds Tryz.pinned (OpenSpec.ofChange cpuCallsWrong)

/-- 'atlaslaw20.CpuAgain': WHATEVER THE INPUT: true; the input reads as it did. -/
def cpuAgainSpec : ChangeSpec := { name := "cpuAgain", fn := fun _ => fun
  | [d1, d2, d3] => { results := [.lit (.bool true)], args := [d1, d2, d3] }
  | _ => none }
def cpuAgainRow : OpenClaim := { program := "ytilhceajhlaojaagreatdoor", sum := "f83761c7b6509113bc202e016d86c59edd5a4b59be5fa26333aa65ea5fd161a2", func := "atlas/atlaslaw20.CpuAgain", spec := "cpuAgain", unfollowed := true, recurses := true, named := ["atlas/cpu.exceptions", "atlas/isa.lowRows", "atlas/isa.highRows", "atlas/isa.places", "math/bits.deBruijn32tab"], apart := false, laid := [("math/bits.deBruijn32tab", laid_math_bits_deBruijn32tab), ("atlas/isa.places", laid_atlas_isa_places), ("atlas/isa.lowRows", laid_atlas_isa_lowRows), ("atlas/isa.highRows", laid_atlas_isa_highRows), ("atlas/cpu.exceptions", laid_atlas_cpu_exceptions)] }
def CpuAgainSaid : Prop := cpuAgainRow.holds Tryz.pinned (OpenSpec.ofChange cpuAgainSpec)

/-- ITS FALSE NEIGHBOUR: 'it returns false'. Refute it at one input. -/
def cpuAgainWrong : ChangeSpec := { name := "cpuAgain", fn := fun _ => fun
  | [d1, d2, d3] => { results := [.lit (.bool false)], args := [d1, d2, d3] }
  | _ => none }
def CpuAgainWrongFalsely : Prop := cpuAgainRow.holds Tryz.pinned (OpenSpec.ofChange cpuAgainWrong)

/-- 'atlaslaw20.CpuBanks': WHATEVER THE INPUT: true; the input reads as it did. -/
def cpuBanksSpec : ChangeSpec := { name := "cpuBanks", fn := fun _ => fun
  | [d1, d2, d3, d4] => { results := [.lit (.bool true)], args := [d1, d2, d3, d4] }
  | _ => none }
def cpuBanksRow : OpenClaim := { program := "ytilhceajhlaojaagreatdoor", sum := "f83761c7b6509113bc202e016d86c59edd5a4b59be5fa26333aa65ea5fd161a2", func := "atlas/atlaslaw20.CpuBanks", spec := "cpuBanks", unfollowed := true, recurses := true, named := ["atlas/cpu.exceptions", "atlas/isa.lowRows", "atlas/isa.highRows", "atlas/isa.places", "math/bits.deBruijn32tab"], apart := false, laid := [("math/bits.deBruijn32tab", laid_math_bits_deBruijn32tab), ("atlas/isa.places", laid_atlas_isa_places), ("atlas/isa.lowRows", laid_atlas_isa_lowRows), ("atlas/isa.highRows", laid_atlas_isa_highRows), ("atlas/cpu.exceptions", laid_atlas_cpu_exceptions)] }
def CpuBanksSaid : Prop := cpuBanksRow.holds Tryz.pinned (OpenSpec.ofChange cpuBanksSpec)

/-- ITS FALSE NEIGHBOUR: 'it returns false'. Refute it at one input. -/
def cpuBanksWrong : ChangeSpec := { name := "cpuBanks", fn := fun _ => fun
  | [d1, d2, d3, d4] => { results := [.lit (.bool false)], args := [d1, d2, d3, d4] }
  | _ => none }
def CpuBanksWrongFalsely : Prop := cpuBanksRow.holds Tryz.pinned (OpenSpec.ofChange cpuBanksWrong)

/-- 'atlaslaw20.CpuSame': WHATEVER THE INPUT: true; the input reads as it did. -/
def cpuSameSpec : ChangeSpec := { name := "cpuSame", fn := fun _ => fun
  | [d1, d2, d3, d4, d5] => { results := [.lit (.bool true)], args := [d1, d2, d3, d4, d5] }
  | _ => none }
def cpuSameRow : OpenClaim := { program := "ytilhceajhlaojaagreatdoor", sum := "f83761c7b6509113bc202e016d86c59edd5a4b59be5fa26333aa65ea5fd161a2", func := "atlas/atlaslaw20.CpuSame", spec := "cpuSame", unfollowed := true, recurses := true, named := ["atlas/cpu.exceptions", "atlas/isa.lowRows", "atlas/isa.highRows", "atlas/isa.places", "math/bits.deBruijn32tab"], apart := false, laid := [("math/bits.deBruijn32tab", laid_math_bits_deBruijn32tab), ("atlas/isa.places", laid_atlas_isa_places), ("atlas/isa.lowRows", laid_atlas_isa_lowRows), ("atlas/isa.highRows", laid_atlas_isa_highRows), ("atlas/cpu.exceptions", laid_atlas_cpu_exceptions)] }
def CpuSameSaid : Prop := cpuSameRow.holds Tryz.pinned (OpenSpec.ofChange cpuSameSpec)

/-- ITS FALSE NEIGHBOUR: 'it returns false'. Refute it at one input. -/
def cpuSameWrong : ChangeSpec := { name := "cpuSame", fn := fun _ => fun
  | [d1, d2, d3, d4, d5] => { results := [.lit (.bool false)], args := [d1, d2, d3, d4, d5] }
  | _ => none }
def CpuSameWrongFalsely : Prop := cpuSameRow.holds Tryz.pinned (OpenSpec.ofChange cpuSameWrong)

/-- 'atlaslaw20.CpuStates': WHATEVER THE INPUT: true; the input reads as it did. -/
def cpuStatesSpec : ChangeSpec := { name := "cpuStates", fn := fun _ => fun
  | [d1, d2, d3, d4] => { results := [.lit (.bool true)], args := [d1, d2, d3, d4] }
  | _ => none }
def cpuStatesRow : OpenClaim := { program := "ytilhceajhlaojaagreatdoor", sum := "f83761c7b6509113bc202e016d86c59edd5a4b59be5fa26333aa65ea5fd161a2", func := "atlas/atlaslaw20.CpuStates", spec := "cpuStates", unfollowed := true, recurses := true, named := ["atlas/cpu.exceptions", "atlas/isa.lowRows", "atlas/isa.highRows", "atlas/isa.places", "math/bits.deBruijn32tab"], apart := false, laid := [("math/bits.deBruijn32tab", laid_math_bits_deBruijn32tab), ("atlas/isa.places", laid_atlas_isa_places), ("atlas/isa.lowRows", laid_atlas_isa_lowRows), ("atlas/isa.highRows", laid_atlas_isa_highRows), ("atlas/cpu.exceptions", laid_atlas_cpu_exceptions)] }
def CpuStatesSaid : Prop := cpuStatesRow.holds Tryz.pinned (OpenSpec.ofChange cpuStatesSpec)

/-- ITS FALSE NEIGHBOUR: 'it returns false'. Refute it at one input. -/
def cpuStatesWrong : ChangeSpec := { name := "cpuStates", fn := fun _ => fun
  | [d1, d2, d3, d4] => { results := [.lit (.bool false)], args := [d1, d2, d3, d4] }
  | _ => none }
def CpuStatesWrongFalsely : Prop := cpuStatesRow.holds Tryz.pinned (OpenSpec.ofChange cpuStatesWrong)

/- THE SECOND FORM. 'bulk': how many values and letters a reading holds, each counted each time it is reached (what is shared counts as often as it is met; a slice's spare places count too). A statement '..UptoSaid' is the law's where the arguments, and the package variables that the reading takes, are together of bulk at most 1048576: NARROWER than '..Said'. Prove '..Said' where nothing that the law and all that it calls make is longer than what came in: it says more and counts as full. Else prove '..UptoSaid'. A law counts once. -/
mutual
def uptoBulk {H : Type} : DataW H → Nat
  | .lit (.string bytes) => bytes.length + 1
  | .lit _ => 1
  | .nil => 1
  | .ptr d => uptoBulk d + 1
  | .slice elems spare => uptoBulkAll elems + uptoBulkAll spare + 1
  | .agg parts => uptoBulkAll parts + 1
  | .iface _ d => uptoBulk d + 1
  | .map entries => uptoBulkEntries entries + 1
  | .held _ => 1
def uptoBulkAll {H : Type} : List (DataW H) → Nat
  | [] => 0
  | d :: r => uptoBulk d + uptoBulkAll r
def uptoBulkEntries {H : Type} : List (Lit × DataW H) → Nat
  | [] => 0
  | x :: r => uptoBulkEntry x + uptoBulkEntries r
def uptoBulkEntry {H : Type} : Lit × DataW H → Nat
  | (.string bytes, d) => bytes.length + uptoBulk d + 1
  | (_, d) => uptoBulk d + 1
 end
def uptoSmall : (H : Type) → List (DataW H) → Bool := fun _ ds => decide (uptoBulkAll ds ≤ 1048576)
def OpenSpec.upto (s : _root_.Go.ChangeSpec) : _root_.Go.OpenSpec := { _root_.Go.OpenSpec.ofChange s with cond := some uptoSmall }

/-- 'atlaslaw20.CpuPassed', WHERE WHAT IT READS IS OF BULK AT MOST 1048576: true; the input reads as it did. -/
def cpuPassedUptoRow : OpenClaim := { program := "ytilhceajhlaojaagreatdoor", sum := "f83761c7b6509113bc202e016d86c59edd5a4b59be5fa26333aa65ea5fd161a2", func := "atlas/atlaslaw20.CpuPassed", spec := "cpuPassed", unfollowed := true, recurses := true, named := ["atlas/cpu.exceptions", "atlas/isa.lowRows", "atlas/isa.highRows", "atlas/isa.places", "math/bits.deBruijn32tab"], apart := false, laid := [("math/bits.deBruijn32tab", laid_math_bits_deBruijn32tab), ("atlas/isa.places", laid_atlas_isa_places), ("atlas/isa.lowRows", laid_atlas_isa_lowRows), ("atlas/isa.highRows", laid_atlas_isa_highRows), ("atlas/cpu.exceptions", laid_atlas_cpu_exceptions)], narrowed := true }
def CpuPassedUptoSaid : Prop := cpuPassedUptoRow.holds Tryz.pinned (OpenSpec.upto cpuPassedSpec)

/-- 'atlaslaw20.CpuCalls', WHERE WHAT IT READS IS OF BULK AT MOST 1048576: true; the input reads as it did. -/
def cpuCallsUptoRow : OpenClaim := { program := "ytilhceajhlaojaagreatdoor", sum := "f83761c7b6509113bc202e016d86c59edd5a4b59be5fa26333aa65ea5fd161a2", func := "atlas/atlaslaw20.CpuCalls", spec := "cpuCalls", unfollowed := true, recurses := true, named := ["atlas/cpu.exceptions", "atlas/isa.lowRows", "atlas/isa.highRows", "atlas/isa.places", "math/bits.deBruijn32tab"], apart := false, laid := [("math/bits.deBruijn32tab", laid_math_bits_deBruijn32tab), ("atlas/isa.places", laid_atlas_isa_places), ("atlas/isa.lowRows", laid_atlas_isa_lowRows), ("atlas/isa.highRows", laid_atlas_isa_highRows), ("atlas/cpu.exceptions", laid_atlas_cpu_exceptions)], narrowed := true }
def CpuCallsUptoSaid : Prop := cpuCallsUptoRow.holds Tryz.pinned (OpenSpec.upto cpuCallsSpec)

/-- 'atlaslaw20.CpuAgain', WHERE WHAT IT READS IS OF BULK AT MOST 1048576: true; the input reads as it did. -/
def cpuAgainUptoRow : OpenClaim := { program := "ytilhceajhlaojaagreatdoor", sum := "f83761c7b6509113bc202e016d86c59edd5a4b59be5fa26333aa65ea5fd161a2", func := "atlas/atlaslaw20.CpuAgain", spec := "cpuAgain", unfollowed := true, recurses := true, named := ["atlas/cpu.exceptions", "atlas/isa.lowRows", "atlas/isa.highRows", "atlas/isa.places", "math/bits.deBruijn32tab"], apart := false, laid := [("math/bits.deBruijn32tab", laid_math_bits_deBruijn32tab), ("atlas/isa.places", laid_atlas_isa_places), ("atlas/isa.lowRows", laid_atlas_isa_lowRows), ("atlas/isa.highRows", laid_atlas_isa_highRows), ("atlas/cpu.exceptions", laid_atlas_cpu_exceptions)], narrowed := true }
def CpuAgainUptoSaid : Prop := cpuAgainUptoRow.holds Tryz.pinned (OpenSpec.upto cpuAgainSpec)

/-- 'atlaslaw20.CpuBanks', WHERE WHAT IT READS IS OF BULK AT MOST 1048576: true; the input reads as it did. -/
def cpuBanksUptoRow : OpenClaim := { program := "ytilhceajhlaojaagreatdoor", sum := "f83761c7b6509113bc202e016d86c59edd5a4b59be5fa26333aa65ea5fd161a2", func := "atlas/atlaslaw20.CpuBanks", spec := "cpuBanks", unfollowed := true, recurses := true, named := ["atlas/cpu.exceptions", "atlas/isa.lowRows", "atlas/isa.highRows", "atlas/isa.places", "math/bits.deBruijn32tab"], apart := false, laid := [("math/bits.deBruijn32tab", laid_math_bits_deBruijn32tab), ("atlas/isa.places", laid_atlas_isa_places), ("atlas/isa.lowRows", laid_atlas_isa_lowRows), ("atlas/isa.highRows", laid_atlas_isa_highRows), ("atlas/cpu.exceptions", laid_atlas_cpu_exceptions)], narrowed := true }
def CpuBanksUptoSaid : Prop := cpuBanksUptoRow.holds Tryz.pinned (OpenSpec.upto cpuBanksSpec)

/-- 'atlaslaw20.CpuSame', WHERE WHAT IT READS IS OF BULK AT MOST 1048576: true; the input reads as it did. -/
def cpuSameUptoRow : OpenClaim := { program := "ytilhceajhlaojaagreatdoor", sum := "f83761c7b6509113bc202e016d86c59edd5a4b59be5fa26333aa65ea5fd161a2", func := "atlas/atlaslaw20.CpuSame", spec := "cpuSame", unfollowed := true, recurses := true, named := ["atlas/cpu.exceptions", "atlas/isa.lowRows", "atlas/isa.highRows", "atlas/isa.places", "math/bits.deBruijn32tab"], apart := false, laid := [("math/bits.deBruijn32tab", laid_math_bits_deBruijn32tab), ("atlas/isa.places", laid_atlas_isa_places), ("atlas/isa.lowRows", laid_atlas_isa_lowRows), ("atlas/isa.highRows", laid_atlas_isa_highRows), ("atlas/cpu.exceptions", laid_atlas_cpu_exceptions)], narrowed := true }
def CpuSameUptoSaid : Prop := cpuSameUptoRow.holds Tryz.pinned (OpenSpec.upto cpuSameSpec)

/-- 'atlaslaw20.CpuStates', WHERE WHAT IT READS IS OF BULK AT MOST 1048576: true; the input reads as it did. -/
def cpuStatesUptoRow : OpenClaim := { program := "ytilhceajhlaojaagreatdoor", sum := "f83761c7b6509113bc202e016d86c59edd5a4b59be5fa26333aa65ea5fd161a2", func := "atlas/atlaslaw20.CpuStates", spec := "cpuStates", unfollowed := true, recurses := true, named := ["atlas/cpu.exceptions", "atlas/isa.lowRows", "atlas/isa.highRows", "atlas/isa.places", "math/bits.deBruijn32tab"], apart := false, laid := [("math/bits.deBruijn32tab", laid_math_bits_deBruijn32tab), ("atlas/isa.places", laid_atlas_isa_places), ("atlas/isa.lowRows", laid_atlas_isa_lowRows), ("atlas/isa.highRows", laid_atlas_isa_highRows), ("atlas/cpu.exceptions", laid_atlas_cpu_exceptions)], narrowed := true }
def CpuStatesUptoSaid : Prop := cpuStatesUptoRow.holds Tryz.pinned (OpenSpec.upto cpuStatesSpec)

end Rows
end Go.Proofs.YtilhceajhlaojaaGreatDoor

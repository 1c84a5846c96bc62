import Derived.Test.YtnjlajjjcmhfgaaGreatDoorTP05
import Derived.Test.YtnjlajjjcmhfgaaGreatDoorTA32
namespace Go.Proofs.YtnjlajjjcmhfgaaGreatDoor
open Go.RowKit Go.Sort Go.Shelf Go.Lib
open Mm (Turn gr RowAt)
set_option linter.unusedVariables false
set_option linter.unusedSimpArgs false
theorem TkX.pages {G:Nat→Prop} {W w:World} {p kb jb:Nat} {wv iv:Value} {σ:Pst} (h:TkX G W w p kb jb wv iv σ) (hd:TSd w) (asid:Int) (ha: -9223372036854775808≤asid∧asid≤9223372036854775807) (hl:σ.K.length≤400000000000) :
    Calls Tryz.prog 33 #[.pointer (some ⟨p,0,none⟩),iv,.int .i64 asid] w fun e w'=>∃v R,e= .returned v∧Bs.Lm w' w.heap.size v R∧IsP σ.mem.mo σ.K σ.J asid R∧Below w.heap.size w w':=by
  obtain ⟨S,h1,h2⟩:=h.mem
  exact pages_any w p kb jb σ.K σ.J h.pk S iv σ.mem.mo h1.mem h.ts hd asid ha hl
end Go.Proofs.YtnjlajjjcmhfgaaGreatDoor

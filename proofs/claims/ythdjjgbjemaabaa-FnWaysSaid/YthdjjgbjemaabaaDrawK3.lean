/-
  The draw of a choice and streams. (Written by wip/tools/gendrawk3.py.)
-/
import Derived.Test.YthdjjgbjemaabaaDrawK2
import Derived.Test.YthdjjgbjemaabaaFreeS
namespace Go.Proofs.Ythdjjgbjemaabaa
open Go.ChangeShapes Go.WideShapes Go.ChangeAt Go.RowKit Go.Maps
set_option linter.unusedVariables false
set_option linter.unusedSimpArgs false

theorem Blk.fr1 {w w' : World} {b g : Nat} {vs : List Value} (h : Blk w b vs) (hf : Fr g (g + 1) w w') (hb : b ≠ g) : Blk w' b vs :=
  ⟨Nat.lt_of_lt_of_le h.lt hf.size, fun i => (World.cell?_of_block (a := ⟨b, i, none⟩) (hf.block b h.lt (by omega))).trans (h.cell i), fun o => (World.frozen?_of_block (a := ⟨b, o, none⟩) (hf.block b h.lt (by omega))).trans (h.frozen o)⟩
def strTab : List Int := [0, 1, 5, 15, -1, -7, 9223372036854775807, -9223372036854775808]
def strTab2 : List Int := [0, 1, 2, 3, 8, -1, 9223372036854775807]
end Go.Proofs.Ythdjjgbjemaabaa

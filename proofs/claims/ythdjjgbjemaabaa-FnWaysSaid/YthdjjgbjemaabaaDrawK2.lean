/-
  The draws of keys and of a choice. (Written by wip/tools/gendrawk.py.)
-/
import Derived.Test.YthdjjgbjemaabaaDrawK
namespace Go.Proofs.Ythdjjgbjemaabaa
open Go.ChangeShapes Go.WideShapes Go.ChangeAt Go.RowKit Go.Maps
set_option linter.unusedVariables false
set_option linter.unusedSimpArgs false

def keyTab : List Int := [0, 99, 100, 150, 250, 999, -1, 1000]
end Go.Proofs.Ythdjjgbjemaabaa

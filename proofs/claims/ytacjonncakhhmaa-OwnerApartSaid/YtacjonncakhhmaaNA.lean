/- Sum, difference and product of two whole numbers: what the program and the reference answer. -/
import Derived.Test.YtacjonncakhhmaaChecked
import Derived.Test.YtacjonncakhhmaaMA
import Derived.WalkKit
import Derived.WalkLawsBesides
import Derived.WalkSpells
import Derived.Outline
import Derived.KernelRfl
import Derived.Lib.Hide
namespace Go.Proofs.Ytacjonncakhhmaa
open Go.RowKit

end Go.Proofs.Ytacjonncakhhmaa

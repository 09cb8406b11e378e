/- Sum, difference and product of two whole numbers: what the program and the reference answer. -/
import Derived.Test.YtbflkdkbfidleaaChecked
import Derived.Test.YtbflkdkbfidleaaMA
import Derived.WalkKit
import Derived.WalkLawsBesides
import Derived.WalkSpells
import Derived.Outline
import Derived.KernelRfl
import Derived.Lib.Hide
namespace Go.Proofs.Ytbflkdkbfidleaa
open Go.RowKit

end Go.Proofs.Ytbflkdkbfidleaa

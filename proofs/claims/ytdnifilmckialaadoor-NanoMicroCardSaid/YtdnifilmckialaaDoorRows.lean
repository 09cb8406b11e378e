/-
  NARROWER THAN 'FOR EVERY INPUT', by the rows' own cells (each row's printed sentence says how): RealParts: laid · RealMakes: laid · RealOrders: laid · RealSorts: laid · NanoOf: laid · NanoMicro: laid · NanoOrders: laid · NanoSums: laid.
  DERIVED. THE GIVEN ROWS OF THIS SEAT. 8 by the template 'for every input the law returns true; each argument reads behind the call as it read before'; 0 by the template 'total and deterministic' (their statements: YtdnifilmckialaaDoorTotals.lean).
  GIVEN WITH THE SEED: the statements are not yours to turn. If you find one false, say at which input.
  Laid BY PROGRAM, IN A SANDBOX (cutbox-rows.mjs): the forced cells as the released guide's own fill.sh prints them over the translation fc50293722938428… (all of the seat's roots in one cut). By AI agents, Wed Nov 11 2026. No macro, syntax, notation, axiom, sorry.
-/
import Derived.Test.YtdnifilmckialaaDoorChecked
import GoSem.Claim
import GoSem.ClaimJoined
import GoSem.ClaimMapViews
import Derived.JoinedTies
import Derived.KernelRfl
namespace Go.Proofs.YtdnifilmckialaaDoor
/- THE CELL 'sum', in the pinned program and in every row, IS THE sha256 OF THE DUMP (.gsa) THAT YtdnifilmckialaaDoorProg.lean LOADS. Nothing in Lean hashes anything: it is a label: what it is worth is what the hold of that sum in a sandbox is worth. -/
noncomputable def Tryd.pinned : Pinned := { name := "ytdnifilmckialaadoor", sum := "fc502937229384281072581cc3efaa74f4023bbbd9c468afd7aa2d023654dbab", checked := Tryd.checked }
namespace Rows
def none {H : Type} : Left H := { results := [], args := [] }

/- WHAT THE LISTED PACKAGE-LEVEL VARIABLES READ AS WHEN THE CALL BEGINS. Each datum BY PROGRAM (the guide's laid-datum.mjs) off the statement by which the dump's own 'gosem.cut.vars' lays the variable. In a bare row this is a premise. The card (YtdnifilmckialaaDoorCards.lean) ties it to the program's text. -/
def laid_math_bits_deBruijn64tab {H : Type} : DataW H := .agg [.lit (.int .u8 0), .lit (.int .u8 1), .lit (.int .u8 56), .lit (.int .u8 2), .lit (.int .u8 57), .lit (.int .u8 49), .lit (.int .u8 28), .lit (.int .u8 3), .lit (.int .u8 61), .lit (.int .u8 58), .lit (.int .u8 42), .lit (.int .u8 50), .lit (.int .u8 38), .lit (.int .u8 29), .lit (.int .u8 17), .lit (.int .u8 4), .lit (.int .u8 62), .lit (.int .u8 47), .lit (.int .u8 59), .lit (.int .u8 36), .lit (.int .u8 45), .lit (.int .u8 43), .lit (.int .u8 51), .lit (.int .u8 22), .lit (.int .u8 53), .lit (.int .u8 39), .lit (.int .u8 33), .lit (.int .u8 30), .lit (.int .u8 24), .lit (.int .u8 18), .lit (.int .u8 12), .lit (.int .u8 5), .lit (.int .u8 63), .lit (.int .u8 55), .lit (.int .u8 48), .lit (.int .u8 27), .lit (.int .u8 60), .lit (.int .u8 41), .lit (.int .u8 37), .lit (.int .u8 16), .lit (.int .u8 46), .lit (.int .u8 35), .lit (.int .u8 44), .lit (.int .u8 21), .lit (.int .u8 52), .lit (.int .u8 32), .lit (.int .u8 23), .lit (.int .u8 11), .lit (.int .u8 54), .lit (.int .u8 26), .lit (.int .u8 40), .lit (.int .u8 15), .lit (.int .u8 34), .lit (.int .u8 20), .lit (.int .u8 31), .lit (.int .u8 10), .lit (.int .u8 25), .lit (.int .u8 14), .lit (.int .u8 19), .lit (.int .u8 9), .lit (.int .u8 13), .lit (.int .u8 8), .lit (.int .u8 7), .lit (.int .u8 6)]

/-- 'deckhandlaw01.RealParts': WHATEVER THE INPUT: true; the input reads as it did. -/
def realPartsSpec : ChangeSpec := { name := "realParts", fn := fun _ => fun
  | [d] => { results := [.lit (.bool true)], args := [d] }
  | _ => none }
def realPartsRow : OpenClaim := { program := "ytdnifilmckialaadoor", sum := "fc502937229384281072581cc3efaa74f4023bbbd9c468afd7aa2d023654dbab", func := "deckhand/deckhandlaw01.RealParts", spec := "realParts", inPlace := ["math.Float64bits", "math.Float64frombits"], named := ["math/bits.deBruijn64tab"], apart := false, laid := [("math/bits.deBruijn64tab", laid_math_bits_deBruijn64tab)] }
def RealPartsSaid : Prop := realPartsRow.holds Tryd.pinned (OpenSpec.ofChange realPartsSpec)

/-- ITS FALSE NEIGHBOUR: 'it returns false'. Refute it at one input. -/
def realPartsWrong : ChangeSpec := { name := "realParts", fn := fun _ => fun
  | [d] => { results := [.lit (.bool false)], args := [d] }
  | _ => none }
def RealPartsWrongFalsely : Prop := realPartsRow.holds Tryd.pinned (OpenSpec.ofChange realPartsWrong)

/-- 'deckhandlaw01.RealMakes': WHATEVER THE INPUT: true; the input reads as it did. -/
def realMakesSpec : ChangeSpec := { name := "realMakes", fn := fun _ => fun
  | [d1, d2] => { results := [.lit (.bool true)], args := [d1, d2] }
  | _ => none }
def realMakesRow : OpenClaim := { program := "ytdnifilmckialaadoor", sum := "fc502937229384281072581cc3efaa74f4023bbbd9c468afd7aa2d023654dbab", func := "deckhand/deckhandlaw01.RealMakes", spec := "realMakes", inPlace := ["math.Float64bits", "math.Float64frombits"], named := ["math/bits.deBruijn64tab"], apart := false, laid := [("math/bits.deBruijn64tab", laid_math_bits_deBruijn64tab)] }
def RealMakesSaid : Prop := realMakesRow.holds Tryd.pinned (OpenSpec.ofChange realMakesSpec)

/-- ITS FALSE NEIGHBOUR: 'it returns false'. Refute it at one input. -/
def realMakesWrong : ChangeSpec := { name := "realMakes", fn := fun _ => fun
  | [d1, d2] => { results := [.lit (.bool false)], args := [d1, d2] }
  | _ => none }
def RealMakesWrongFalsely : Prop := realMakesRow.holds Tryd.pinned (OpenSpec.ofChange realMakesWrong)

/-- 'deckhandlaw01.RealOrders': WHATEVER THE INPUT: true; the input reads as it did. -/
def realOrdersSpec : ChangeSpec := { name := "realOrders", fn := fun _ => fun
  | [d1, d2, d3] => { results := [.lit (.bool true)], args := [d1, d2, d3] }
  | _ => none }
def realOrdersRow : OpenClaim := { program := "ytdnifilmckialaadoor", sum := "fc502937229384281072581cc3efaa74f4023bbbd9c468afd7aa2d023654dbab", func := "deckhand/deckhandlaw01.RealOrders", spec := "realOrders", inPlace := ["math.Float64bits", "math.Float64frombits"], named := ["math/bits.deBruijn64tab"], apart := false, laid := [("math/bits.deBruijn64tab", laid_math_bits_deBruijn64tab)] }
def RealOrdersSaid : Prop := realOrdersRow.holds Tryd.pinned (OpenSpec.ofChange realOrdersSpec)

/-- ITS FALSE NEIGHBOUR: 'it returns false'. Refute it at one input. -/
def realOrdersWrong : ChangeSpec := { name := "realOrders", fn := fun _ => fun
  | [d1, d2, d3] => { results := [.lit (.bool false)], args := [d1, d2, d3] }
  | _ => none }
def RealOrdersWrongFalsely : Prop := realOrdersRow.holds Tryd.pinned (OpenSpec.ofChange realOrdersWrong)

/-- 'deckhandlaw01.RealSorts': WHATEVER THE INPUT: true; the input reads as it did. -/
def realSortsSpec : ChangeSpec := { name := "realSorts", fn := fun _ => fun
  | [d] => { results := [.lit (.bool true)], args := [d] }
  | _ => none }
def realSortsRow : OpenClaim := { program := "ytdnifilmckialaadoor", sum := "fc502937229384281072581cc3efaa74f4023bbbd9c468afd7aa2d023654dbab", func := "deckhand/deckhandlaw01.RealSorts", spec := "realSorts", inPlace := ["math.Float64bits", "math.Float64frombits"], named := ["math/bits.deBruijn64tab"], apart := false, laid := [("math/bits.deBruijn64tab", laid_math_bits_deBruijn64tab)] }
def RealSortsSaid : Prop := realSortsRow.holds Tryd.pinned (OpenSpec.ofChange realSortsSpec)

/-- ITS FALSE NEIGHBOUR: 'it returns false'. Refute it at one input. -/
def realSortsWrong : ChangeSpec := { name := "realSorts", fn := fun _ => fun
  | [d] => { results := [.lit (.bool false)], args := [d] }
  | _ => none }
def RealSortsWrongFalsely : Prop := realSortsRow.holds Tryd.pinned (OpenSpec.ofChange realSortsWrong)

/-- 'deckhandlaw02.NanoOf': WHATEVER THE INPUT: true; the input reads as it did. -/
def nanoOfSpec : ChangeSpec := { name := "nanoOf", fn := fun _ => fun
  | [d] => { results := [.lit (.bool true)], args := [d] }
  | _ => none }
def nanoOfRow : OpenClaim := { program := "ytdnifilmckialaadoor", sum := "fc502937229384281072581cc3efaa74f4023bbbd9c468afd7aa2d023654dbab", func := "deckhand/deckhandlaw02.NanoOf", spec := "nanoOf", inPlace := ["math.Float64bits", "math.Float64frombits"], named := ["math/bits.deBruijn64tab"], apart := false, laid := [("math/bits.deBruijn64tab", laid_math_bits_deBruijn64tab)] }
def NanoOfSaid : Prop := nanoOfRow.holds Tryd.pinned (OpenSpec.ofChange nanoOfSpec)

/-- ITS FALSE NEIGHBOUR: 'it returns false'. Refute it at one input. -/
def nanoOfWrong : ChangeSpec := { name := "nanoOf", fn := fun _ => fun
  | [d] => { results := [.lit (.bool false)], args := [d] }
  | _ => none }
def NanoOfWrongFalsely : Prop := nanoOfRow.holds Tryd.pinned (OpenSpec.ofChange nanoOfWrong)

/-- 'deckhandlaw02.NanoMicro': WHATEVER THE INPUT: true; the input reads as it did. -/
def nanoMicroSpec : ChangeSpec := { name := "nanoMicro", fn := fun _ => fun
  | [d] => { results := [.lit (.bool true)], args := [d] }
  | _ => none }
def nanoMicroRow : OpenClaim := { program := "ytdnifilmckialaadoor", sum := "fc502937229384281072581cc3efaa74f4023bbbd9c468afd7aa2d023654dbab", func := "deckhand/deckhandlaw02.NanoMicro", spec := "nanoMicro", inPlace := ["math.Float64frombits", "math.Float64bits"], named := ["math/bits.deBruijn64tab"], apart := false, laid := [("math/bits.deBruijn64tab", laid_math_bits_deBruijn64tab)] }
def NanoMicroSaid : Prop := nanoMicroRow.holds Tryd.pinned (OpenSpec.ofChange nanoMicroSpec)

/-- ITS FALSE NEIGHBOUR: 'it returns false'. Refute it at one input. -/
def nanoMicroWrong : ChangeSpec := { name := "nanoMicro", fn := fun _ => fun
  | [d] => { results := [.lit (.bool false)], args := [d] }
  | _ => none }
def NanoMicroWrongFalsely : Prop := nanoMicroRow.holds Tryd.pinned (OpenSpec.ofChange nanoMicroWrong)

/-- 'deckhandlaw02.NanoOrders': WHATEVER THE INPUT: true; the input reads as it did. -/
def nanoOrdersSpec : ChangeSpec := { name := "nanoOrders", fn := fun _ => fun
  | [d1, d2] => { results := [.lit (.bool true)], args := [d1, d2] }
  | _ => none }
def nanoOrdersRow : OpenClaim := { program := "ytdnifilmckialaadoor", sum := "fc502937229384281072581cc3efaa74f4023bbbd9c468afd7aa2d023654dbab", func := "deckhand/deckhandlaw02.NanoOrders", spec := "nanoOrders", inPlace := ["math.Float64bits", "math.Float64frombits"], named := ["math/bits.deBruijn64tab"], apart := false, laid := [("math/bits.deBruijn64tab", laid_math_bits_deBruijn64tab)] }
def NanoOrdersSaid : Prop := nanoOrdersRow.holds Tryd.pinned (OpenSpec.ofChange nanoOrdersSpec)

/-- ITS FALSE NEIGHBOUR: 'it returns false'. Refute it at one input. -/
def nanoOrdersWrong : ChangeSpec := { name := "nanoOrders", fn := fun _ => fun
  | [d1, d2] => { results := [.lit (.bool false)], args := [d1, d2] }
  | _ => none }
def NanoOrdersWrongFalsely : Prop := nanoOrdersRow.holds Tryd.pinned (OpenSpec.ofChange nanoOrdersWrong)

/-- 'deckhandlaw02.NanoSums': WHATEVER THE INPUT: true; the input reads as it did. -/
def nanoSumsSpec : ChangeSpec := { name := "nanoSums", fn := fun _ => fun
  | [d] => { results := [.lit (.bool true)], args := [d] }
  | _ => none }
def nanoSumsRow : OpenClaim := { program := "ytdnifilmckialaadoor", sum := "fc502937229384281072581cc3efaa74f4023bbbd9c468afd7aa2d023654dbab", func := "deckhand/deckhandlaw02.NanoSums", spec := "nanoSums", inPlace := ["math.Float64bits", "math.Float64frombits"], named := ["math/bits.deBruijn64tab"], apart := false, laid := [("math/bits.deBruijn64tab", laid_math_bits_deBruijn64tab)] }
def NanoSumsSaid : Prop := nanoSumsRow.holds Tryd.pinned (OpenSpec.ofChange nanoSumsSpec)

/-- ITS FALSE NEIGHBOUR: 'it returns false'. Refute it at one input. -/
def nanoSumsWrong : ChangeSpec := { name := "nanoSums", fn := fun _ => fun
  | [d] => { results := [.lit (.bool false)], args := [d] }
  | _ => none }
def NanoSumsWrongFalsely : Prop := nanoSumsRow.holds Tryd.pinned (OpenSpec.ofChange nanoSumsWrong)

/- THE SECOND FORM. 'bulk': how many values and letters a reading holds, each counted each time it is reached (what is shared counts as often as it is met; a slice's spare places count too). A statement '..UptoSaid' is the law's where the arguments, and the package variables that the reading takes, are together of bulk at most 1048576: NARROWER than '..Said'. Prove '..Said' where nothing that the law and all that it calls make is longer than what came in: it says more and counts as full. Else prove '..UptoSaid'. A law counts once. -/
mutual
def uptoBulk {H : Type} : DataW H → Nat
  | .lit (.string bytes) => bytes.length + 1
  | .lit _ => 1
  | .nil => 1
  | .ptr d => uptoBulk d + 1
  | .slice elems spare => uptoBulkAll elems + uptoBulkAll spare + 1
  | .agg parts => uptoBulkAll parts + 1
  | .iface _ d => uptoBulk d + 1
  | .map entries => uptoBulkEntries entries + 1
  | .held _ => 1
def uptoBulkAll {H : Type} : List (DataW H) → Nat
  | [] => 0
  | d :: r => uptoBulk d + uptoBulkAll r
def uptoBulkEntries {H : Type} : List (Lit × DataW H) → Nat
  | [] => 0
  | x :: r => uptoBulkEntry x + uptoBulkEntries r
def uptoBulkEntry {H : Type} : Lit × DataW H → Nat
  | (.string bytes, d) => bytes.length + uptoBulk d + 1
  | (_, d) => uptoBulk d + 1
 end
def uptoSmall : (H : Type) → List (DataW H) → Bool := fun _ ds => decide (uptoBulkAll ds ≤ 1048576)
def OpenSpec.upto (s : _root_.Go.ChangeSpec) : _root_.Go.OpenSpec := { _root_.Go.OpenSpec.ofChange s with cond := some uptoSmall }

/-- 'deckhandlaw01.RealParts', WHERE WHAT IT READS IS OF BULK AT MOST 1048576: true; the input reads as it did. -/
def realPartsUptoRow : OpenClaim := { program := "ytdnifilmckialaadoor", sum := "fc502937229384281072581cc3efaa74f4023bbbd9c468afd7aa2d023654dbab", func := "deckhand/deckhandlaw01.RealParts", spec := "realParts", inPlace := ["math.Float64bits", "math.Float64frombits"], named := ["math/bits.deBruijn64tab"], apart := false, laid := [("math/bits.deBruijn64tab", laid_math_bits_deBruijn64tab)], narrowed := true }
def RealPartsUptoSaid : Prop := realPartsUptoRow.holds Tryd.pinned (OpenSpec.upto realPartsSpec)

/-- 'deckhandlaw01.RealMakes', WHERE WHAT IT READS IS OF BULK AT MOST 1048576: true; the input reads as it did. -/
def realMakesUptoRow : OpenClaim := { program := "ytdnifilmckialaadoor", sum := "fc502937229384281072581cc3efaa74f4023bbbd9c468afd7aa2d023654dbab", func := "deckhand/deckhandlaw01.RealMakes", spec := "realMakes", inPlace := ["math.Float64bits", "math.Float64frombits"], named := ["math/bits.deBruijn64tab"], apart := false, laid := [("math/bits.deBruijn64tab", laid_math_bits_deBruijn64tab)], narrowed := true }
def RealMakesUptoSaid : Prop := realMakesUptoRow.holds Tryd.pinned (OpenSpec.upto realMakesSpec)

/-- 'deckhandlaw01.RealOrders', WHERE WHAT IT READS IS OF BULK AT MOST 1048576: true; the input reads as it did. -/
def realOrdersUptoRow : OpenClaim := { program := "ytdnifilmckialaadoor", sum := "fc502937229384281072581cc3efaa74f4023bbbd9c468afd7aa2d023654dbab", func := "deckhand/deckhandlaw01.RealOrders", spec := "realOrders", inPlace := ["math.Float64bits", "math.Float64frombits"], named := ["math/bits.deBruijn64tab"], apart := false, laid := [("math/bits.deBruijn64tab", laid_math_bits_deBruijn64tab)], narrowed := true }
def RealOrdersUptoSaid : Prop := realOrdersUptoRow.holds Tryd.pinned (OpenSpec.upto realOrdersSpec)

/-- 'deckhandlaw01.RealSorts', WHERE WHAT IT READS IS OF BULK AT MOST 1048576: true; the input reads as it did. -/
def realSortsUptoRow : OpenClaim := { program := "ytdnifilmckialaadoor", sum := "fc502937229384281072581cc3efaa74f4023bbbd9c468afd7aa2d023654dbab", func := "deckhand/deckhandlaw01.RealSorts", spec := "realSorts", inPlace := ["math.Float64bits", "math.Float64frombits"], named := ["math/bits.deBruijn64tab"], apart := false, laid := [("math/bits.deBruijn64tab", laid_math_bits_deBruijn64tab)], narrowed := true }
def RealSortsUptoSaid : Prop := realSortsUptoRow.holds Tryd.pinned (OpenSpec.upto realSortsSpec)

/-- 'deckhandlaw02.NanoOf', WHERE WHAT IT READS IS OF BULK AT MOST 1048576: true; the input reads as it did. -/
def nanoOfUptoRow : OpenClaim := { program := "ytdnifilmckialaadoor", sum := "fc502937229384281072581cc3efaa74f4023bbbd9c468afd7aa2d023654dbab", func := "deckhand/deckhandlaw02.NanoOf", spec := "nanoOf", inPlace := ["math.Float64bits", "math.Float64frombits"], named := ["math/bits.deBruijn64tab"], apart := false, laid := [("math/bits.deBruijn64tab", laid_math_bits_deBruijn64tab)], narrowed := true }
def NanoOfUptoSaid : Prop := nanoOfUptoRow.holds Tryd.pinned (OpenSpec.upto nanoOfSpec)

/-- 'deckhandlaw02.NanoMicro', WHERE WHAT IT READS IS OF BULK AT MOST 1048576: true; the input reads as it did. -/
def nanoMicroUptoRow : OpenClaim := { program := "ytdnifilmckialaadoor", sum := "fc502937229384281072581cc3efaa74f4023bbbd9c468afd7aa2d023654dbab", func := "deckhand/deckhandlaw02.NanoMicro", spec := "nanoMicro", inPlace := ["math.Float64frombits", "math.Float64bits"], named := ["math/bits.deBruijn64tab"], apart := false, laid := [("math/bits.deBruijn64tab", laid_math_bits_deBruijn64tab)], narrowed := true }
def NanoMicroUptoSaid : Prop := nanoMicroUptoRow.holds Tryd.pinned (OpenSpec.upto nanoMicroSpec)

/-- 'deckhandlaw02.NanoOrders', WHERE WHAT IT READS IS OF BULK AT MOST 1048576: true; the input reads as it did. -/
def nanoOrdersUptoRow : OpenClaim := { program := "ytdnifilmckialaadoor", sum := "fc502937229384281072581cc3efaa74f4023bbbd9c468afd7aa2d023654dbab", func := "deckhand/deckhandlaw02.NanoOrders", spec := "nanoOrders", inPlace := ["math.Float64bits", "math.Float64frombits"], named := ["math/bits.deBruijn64tab"], apart := false, laid := [("math/bits.deBruijn64tab", laid_math_bits_deBruijn64tab)], narrowed := true }
def NanoOrdersUptoSaid : Prop := nanoOrdersUptoRow.holds Tryd.pinned (OpenSpec.upto nanoOrdersSpec)

/-- 'deckhandlaw02.NanoSums', WHERE WHAT IT READS IS OF BULK AT MOST 1048576: true; the input reads as it did. -/
def nanoSumsUptoRow : OpenClaim := { program := "ytdnifilmckialaadoor", sum := "fc502937229384281072581cc3efaa74f4023bbbd9c468afd7aa2d023654dbab", func := "deckhand/deckhandlaw02.NanoSums", spec := "nanoSums", inPlace := ["math.Float64bits", "math.Float64frombits"], named := ["math/bits.deBruijn64tab"], apart := false, laid := [("math/bits.deBruijn64tab", laid_math_bits_deBruijn64tab)], narrowed := true }
def NanoSumsUptoSaid : Prop := nanoSumsUptoRow.holds Tryd.pinned (OpenSpec.upto nanoSumsSpec)

end Rows
end Go.Proofs.YtdnifilmckialaaDoor

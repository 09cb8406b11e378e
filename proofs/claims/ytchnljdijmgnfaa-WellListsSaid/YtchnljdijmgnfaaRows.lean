/-
  No cell of these rows narrows 'for every input' (looked for: loops, veiled, ifaces, maps, wideKeys, modest, calm, conditions, laid).
  DERIVED. THE GIVEN ROWS OF THIS SEAT. 6 by the template 'for every input the law returns true; each argument reads behind the call as it read before'; 0 by the template 'total and deterministic' (their statements: YtchnljdijmgnfaaTotals.lean).
  GIVEN WITH THE SEED: the statements are not yours to turn. If you find one false, say at which input.
  Laid BY PROGRAM, IN A SANDBOX (cutbox-rows.mjs): the forced cells as the released guide's own fill.sh prints them over the translation 18c06aea2e5d56b3… (all of the seat's roots in one cut). By AI agents, Wed Nov 11 2026. No macro, syntax, notation, axiom, sorry.
-/
import Derived.Test.YtchnljdijmgnfaaChecked
import GoSem.Claim
import GoSem.ClaimJoined
import GoSem.ClaimMapViews
import Derived.JoinedTies
import Derived.KernelRfl
namespace Go.Proofs.Ytchnljdijmgnfaa
/- THE CELL 'sum', in the pinned program and in every row, IS THE sha256 OF THE DUMP (.gsa) THAT YtchnljdijmgnfaaProg.lean LOADS. Nothing in Lean hashes anything: it is a label: what it is worth is what the hold of that sum in a sandbox is worth. -/
noncomputable def Try.pinned : Pinned := { name := "ytchnljdijmgnfaa", sum := "18c06aea2e5d56b33d05c89db9968a75a3393ddadbc74eaf38e76299980c6f7d", checked := Try.checked }
namespace Rows
def none {H : Type} : Left H := { results := [], args := [] }

/-- 'deckhandlaw05.SpanTwo': WHATEVER THE INPUT: true; the input reads as it did. -/
def spanTwoSpec : ChangeSpec := { name := "spanTwo", fn := fun _ => fun
  | [d1, d2, d3] => { results := [.lit (.bool true)], args := [d1, d2, d3] }
  | _ => none }
def spanTwoRow : OpenClaim := { program := "ytchnljdijmgnfaa", sum := "18c06aea2e5d56b33d05c89db9968a75a3393ddadbc74eaf38e76299980c6f7d", func := "deckhand/deckhandlaw05.SpanTwo", spec := "spanTwo", recurses := true, apart := false }
def SpanTwoSaid : Prop := spanTwoRow.holds Try.pinned (OpenSpec.ofChange spanTwoSpec)

/-- ITS FALSE NEIGHBOUR: 'it returns false'. Refute it at one input. -/
def spanTwoWrong : ChangeSpec := { name := "spanTwo", fn := fun _ => fun
  | [d1, d2, d3] => { results := [.lit (.bool false)], args := [d1, d2, d3] }
  | _ => none }
def SpanTwoWrongFalsely : Prop := spanTwoRow.holds Try.pinned (OpenSpec.ofChange spanTwoWrong)

/-- 'deckhandlaw05.SpanJoins': WHATEVER THE INPUT: true; the input reads as it did. -/
def spanJoinsSpec : ChangeSpec := { name := "spanJoins", fn := fun _ => fun
  | [d1, d2] => { results := [.lit (.bool true)], args := [d1, d2] }
  | _ => none }
def spanJoinsRow : OpenClaim := { program := "ytchnljdijmgnfaa", sum := "18c06aea2e5d56b33d05c89db9968a75a3393ddadbc74eaf38e76299980c6f7d", func := "deckhand/deckhandlaw05.SpanJoins", spec := "spanJoins", recurses := true, apart := false }
def SpanJoinsSaid : Prop := spanJoinsRow.holds Try.pinned (OpenSpec.ofChange spanJoinsSpec)

/-- ITS FALSE NEIGHBOUR: 'it returns false'. Refute it at one input. -/
def spanJoinsWrong : ChangeSpec := { name := "spanJoins", fn := fun _ => fun
  | [d1, d2] => { results := [.lit (.bool false)], args := [d1, d2] }
  | _ => none }
def SpanJoinsWrongFalsely : Prop := spanJoinsRow.holds Try.pinned (OpenSpec.ofChange spanJoinsWrong)

/-- 'deckhandlaw05.SpanGaps': WHATEVER THE INPUT: true; the input reads as it did. -/
def spanGapsSpec : ChangeSpec := { name := "spanGaps", fn := fun _ => fun
  | [d1, d2, d3] => { results := [.lit (.bool true)], args := [d1, d2, d3] }
  | _ => none }
def spanGapsRow : OpenClaim := { program := "ytchnljdijmgnfaa", sum := "18c06aea2e5d56b33d05c89db9968a75a3393ddadbc74eaf38e76299980c6f7d", func := "deckhand/deckhandlaw05.SpanGaps", spec := "spanGaps", recurses := true, apart := false }
def SpanGapsSaid : Prop := spanGapsRow.holds Try.pinned (OpenSpec.ofChange spanGapsSpec)

/-- ITS FALSE NEIGHBOUR: 'it returns false'. Refute it at one input. -/
def spanGapsWrong : ChangeSpec := { name := "spanGaps", fn := fun _ => fun
  | [d1, d2, d3] => { results := [.lit (.bool false)], args := [d1, d2, d3] }
  | _ => none }
def SpanGapsWrongFalsely : Prop := spanGapsRow.holds Try.pinned (OpenSpec.ofChange spanGapsWrong)

/-- 'deckhandlaw06.WellNames': WHATEVER THE INPUT: true; the input reads as it did. -/
def wellNamesSpec : ChangeSpec := { name := "wellNames", fn := fun _ => fun
  | [d1, d2] => { results := [.lit (.bool true)], args := [d1, d2] }
  | _ => none }
def wellNamesRow : OpenClaim := { program := "ytchnljdijmgnfaa", sum := "18c06aea2e5d56b33d05c89db9968a75a3393ddadbc74eaf38e76299980c6f7d", func := "deckhand/deckhandlaw06.WellNames", spec := "wellNames", inPlace := ["internal/bytealg.IndexByteString", "internal/bytealg.IndexString", "internal/abi.NoEscape"], recurses := true, named := ["internal/bytealg.MaxLen"], apart := false }
def WellNamesSaid : Prop := wellNamesRow.holds Try.pinned (OpenSpec.ofChange wellNamesSpec)

/-- ITS FALSE NEIGHBOUR: 'it returns false'. Refute it at one input. -/
def wellNamesWrong : ChangeSpec := { name := "wellNames", fn := fun _ => fun
  | [d1, d2] => { results := [.lit (.bool false)], args := [d1, d2] }
  | _ => none }
def WellNamesWrongFalsely : Prop := wellNamesRow.holds Try.pinned (OpenSpec.ofChange wellNamesWrong)

/-- 'deckhandlaw06.WellLists': WHATEVER THE INPUT: true; the input reads as it did. -/
def wellListsSpec : ChangeSpec := { name := "wellLists", fn := fun _ => fun
  | [d] => { results := [.lit (.bool true)], args := [d] }
  | _ => none }
def wellListsRow : OpenClaim := { program := "ytchnljdijmgnfaa", sum := "18c06aea2e5d56b33d05c89db9968a75a3393ddadbc74eaf38e76299980c6f7d", func := "deckhand/deckhandlaw06.WellLists", spec := "wellLists", inPlace := ["internal/bytealg.IndexByteString", "internal/bytealg.IndexString", "internal/abi.NoEscape"], recurses := true, named := ["internal/bytealg.MaxLen"], apart := false }
def WellListsSaid : Prop := wellListsRow.holds Try.pinned (OpenSpec.ofChange wellListsSpec)

/-- ITS FALSE NEIGHBOUR: 'it returns false'. Refute it at one input. -/
def wellListsWrong : ChangeSpec := { name := "wellLists", fn := fun _ => fun
  | [d] => { results := [.lit (.bool false)], args := [d] }
  | _ => none }
def WellListsWrongFalsely : Prop := wellListsRow.holds Try.pinned (OpenSpec.ofChange wellListsWrong)

/-- 'deckhandlaw06.WellTexts': WHATEVER THE INPUT: true; the input reads as it did. -/
def wellTextsSpec : ChangeSpec := { name := "wellTexts", fn := fun _ => fun
  | [d] => { results := [.lit (.bool true)], args := [d] }
  | _ => none }
def wellTextsRow : OpenClaim := { program := "ytchnljdijmgnfaa", sum := "18c06aea2e5d56b33d05c89db9968a75a3393ddadbc74eaf38e76299980c6f7d", func := "deckhand/deckhandlaw06.WellTexts", spec := "wellTexts", inPlace := ["internal/bytealg.IndexByteString", "internal/bytealg.IndexString", "internal/abi.NoEscape"], recurses := true, named := ["internal/bytealg.MaxLen"], apart := false }
def WellTextsSaid : Prop := wellTextsRow.holds Try.pinned (OpenSpec.ofChange wellTextsSpec)

/-- ITS FALSE NEIGHBOUR: 'it returns false'. Refute it at one input. -/
def wellTextsWrong : ChangeSpec := { name := "wellTexts", fn := fun _ => fun
  | [d] => { results := [.lit (.bool false)], args := [d] }
  | _ => none }
def WellTextsWrongFalsely : Prop := wellTextsRow.holds Try.pinned (OpenSpec.ofChange wellTextsWrong)

/- THE SECOND FORM. 'bulk': how many values and letters a reading holds, each counted each time it is reached (what is shared counts as often as it is met; a slice's spare places count too). A statement '..UptoSaid' is the law's where the arguments, and the package variables that the reading takes, are together of bulk at most 1048576: NARROWER than '..Said'. Prove '..Said' where nothing that the law and all that it calls make is longer than what came in: it says more and counts as full. Else prove '..UptoSaid'. A law counts once. -/
mutual
def uptoBulk {H : Type} : DataW H → Nat
  | .lit (.string bytes) => bytes.length + 1
  | .lit _ => 1
  | .nil => 1
  | .ptr d => uptoBulk d + 1
  | .slice elems spare => uptoBulkAll elems + uptoBulkAll spare + 1
  | .agg parts => uptoBulkAll parts + 1
  | .iface _ d => uptoBulk d + 1
  | .map entries => uptoBulkEntries entries + 1
  | .held _ => 1
def uptoBulkAll {H : Type} : List (DataW H) → Nat
  | [] => 0
  | d :: r => uptoBulk d + uptoBulkAll r
def uptoBulkEntries {H : Type} : List (Lit × DataW H) → Nat
  | [] => 0
  | x :: r => uptoBulkEntry x + uptoBulkEntries r
def uptoBulkEntry {H : Type} : Lit × DataW H → Nat
  | (.string bytes, d) => bytes.length + uptoBulk d + 1
  | (_, d) => uptoBulk d + 1
 end
def uptoSmall : (H : Type) → List (DataW H) → Bool := fun _ ds => decide (uptoBulkAll ds ≤ 1048576)
def OpenSpec.upto (s : _root_.Go.ChangeSpec) : _root_.Go.OpenSpec := { _root_.Go.OpenSpec.ofChange s with cond := some uptoSmall }

/-- 'deckhandlaw05.SpanTwo', WHERE WHAT IT READS IS OF BULK AT MOST 1048576: true; the input reads as it did. -/
def spanTwoUptoRow : OpenClaim := { program := "ytchnljdijmgnfaa", sum := "18c06aea2e5d56b33d05c89db9968a75a3393ddadbc74eaf38e76299980c6f7d", func := "deckhand/deckhandlaw05.SpanTwo", spec := "spanTwo", recurses := true, apart := false, narrowed := true }
def SpanTwoUptoSaid : Prop := spanTwoUptoRow.holds Try.pinned (OpenSpec.upto spanTwoSpec)

/-- 'deckhandlaw05.SpanJoins', WHERE WHAT IT READS IS OF BULK AT MOST 1048576: true; the input reads as it did. -/
def spanJoinsUptoRow : OpenClaim := { program := "ytchnljdijmgnfaa", sum := "18c06aea2e5d56b33d05c89db9968a75a3393ddadbc74eaf38e76299980c6f7d", func := "deckhand/deckhandlaw05.SpanJoins", spec := "spanJoins", recurses := true, apart := false, narrowed := true }
def SpanJoinsUptoSaid : Prop := spanJoinsUptoRow.holds Try.pinned (OpenSpec.upto spanJoinsSpec)

/-- 'deckhandlaw05.SpanGaps', WHERE WHAT IT READS IS OF BULK AT MOST 1048576: true; the input reads as it did. -/
def spanGapsUptoRow : OpenClaim := { program := "ytchnljdijmgnfaa", sum := "18c06aea2e5d56b33d05c89db9968a75a3393ddadbc74eaf38e76299980c6f7d", func := "deckhand/deckhandlaw05.SpanGaps", spec := "spanGaps", recurses := true, apart := false, narrowed := true }
def SpanGapsUptoSaid : Prop := spanGapsUptoRow.holds Try.pinned (OpenSpec.upto spanGapsSpec)

/-- 'deckhandlaw06.WellNames', WHERE WHAT IT READS IS OF BULK AT MOST 1048576: true; the input reads as it did. -/
def wellNamesUptoRow : OpenClaim := { program := "ytchnljdijmgnfaa", sum := "18c06aea2e5d56b33d05c89db9968a75a3393ddadbc74eaf38e76299980c6f7d", func := "deckhand/deckhandlaw06.WellNames", spec := "wellNames", inPlace := ["internal/bytealg.IndexByteString", "internal/bytealg.IndexString", "internal/abi.NoEscape"], recurses := true, named := ["internal/bytealg.MaxLen"], apart := false, narrowed := true }
def WellNamesUptoSaid : Prop := wellNamesUptoRow.holds Try.pinned (OpenSpec.upto wellNamesSpec)

/-- 'deckhandlaw06.WellLists', WHERE WHAT IT READS IS OF BULK AT MOST 1048576: true; the input reads as it did. -/
def wellListsUptoRow : OpenClaim := { program := "ytchnljdijmgnfaa", sum := "18c06aea2e5d56b33d05c89db9968a75a3393ddadbc74eaf38e76299980c6f7d", func := "deckhand/deckhandlaw06.WellLists", spec := "wellLists", inPlace := ["internal/bytealg.IndexByteString", "internal/bytealg.IndexString", "internal/abi.NoEscape"], recurses := true, named := ["internal/bytealg.MaxLen"], apart := false, narrowed := true }
def WellListsUptoSaid : Prop := wellListsUptoRow.holds Try.pinned (OpenSpec.upto wellListsSpec)

/-- 'deckhandlaw06.WellTexts', WHERE WHAT IT READS IS OF BULK AT MOST 1048576: true; the input reads as it did. -/
def wellTextsUptoRow : OpenClaim := { program := "ytchnljdijmgnfaa", sum := "18c06aea2e5d56b33d05c89db9968a75a3393ddadbc74eaf38e76299980c6f7d", func := "deckhand/deckhandlaw06.WellTexts", spec := "wellTexts", inPlace := ["internal/bytealg.IndexByteString", "internal/bytealg.IndexString", "internal/abi.NoEscape"], recurses := true, named := ["internal/bytealg.MaxLen"], apart := false, narrowed := true }
def WellTextsUptoSaid : Prop := wellTextsUptoRow.holds Try.pinned (OpenSpec.upto wellTextsSpec)

end Rows
end Go.Proofs.Ytchnljdijmgnfaa

/-
  No cell of these rows narrows 'for every input' (looked for: loops, veiled, ifaces, maps, wideKeys, modest, calm, conditions, laid).
  DERIVED. THE GIVEN ROWS OF THIS SEAT. 8 by the template 'for every input the law returns true; each argument reads behind the call as it read before'; 0 by the template 'total and deterministic' (their statements: YtlgpnjbhmoomfaaTotals.lean).
  GIVEN WITH THE SEED: the statements are not yours to turn. If you find one false, say at which input.
  Laid BY PROGRAM, IN A SANDBOX (cutbox-rows.mjs): the forced cells as the released guide's own fill.sh prints them over the translation 4c002d8bb9f9f854… (all of the seat's roots in one cut). By AI agents, Wed Nov 11 2026. No macro, syntax, notation, axiom, sorry.
-/
import Derived.Test.YtlgpnjbhmoomfaaChecked
import GoSem.Claim
import GoSem.ClaimJoined
import GoSem.ClaimMapViews
import Derived.JoinedTies
import Derived.KernelRfl
namespace Go.Proofs.Ytlgpnjbhmoomfaa
/- THE CELL 'sum', in the pinned program and in every row, IS THE sha256 OF THE DUMP (.gsa) THAT YtlgpnjbhmoomfaaProg.lean LOADS. Nothing in Lean hashes anything: it is a label: what it is worth is what the hold of that sum in a sandbox is worth. -/
noncomputable def Try.pinned : Pinned := { name := "ytlgpnjbhmoomfaa", sum := "4c002d8bb9f9f854611084de279a986a5eef1f605b2045978f98cd90021c5ebb", checked := Try.checked }
namespace Rows
def none {H : Type} : Left H := { results := [], args := [] }

/-- 'deckhandlaw09.ZoneSpans': WHATEVER THE INPUT: true; the input reads as it did. -/
def zoneSpansSpec : ChangeSpec := { name := "zoneSpans", fn := fun _ => fun
  | [d1, d2] => { results := [.lit (.bool true)], args := [d1, d2] }
  | _ => none }
def zoneSpansRow : OpenClaim := { program := "ytlgpnjbhmoomfaa", sum := "4c002d8bb9f9f854611084de279a986a5eef1f605b2045978f98cd90021c5ebb", func := "deckhand/deckhandlaw09.ZoneSpans", spec := "zoneSpans", inPlace := ["math.Float64bits"], apart := false }
def ZoneSpansSaid : Prop := zoneSpansRow.holds Try.pinned (OpenSpec.ofChange zoneSpansSpec)

/-- ITS FALSE NEIGHBOUR: 'it returns false'. Refute it at one input. -/
def zoneSpansWrong : ChangeSpec := { name := "zoneSpans", fn := fun _ => fun
  | [d1, d2] => { results := [.lit (.bool false)], args := [d1, d2] }
  | _ => none }
def ZoneSpansWrongFalsely : Prop := zoneSpansRow.holds Try.pinned (OpenSpec.ofChange zoneSpansWrong)

/-- 'deckhandlaw09.ZoneChecks': WHATEVER THE INPUT: true; the input reads as it did. -/
def zoneChecksSpec : ChangeSpec := { name := "zoneChecks", fn := fun _ => fun
  | [d] => { results := [.lit (.bool true)], args := [d] }
  | _ => none }
def zoneChecksRow : OpenClaim := { program := "ytlgpnjbhmoomfaa", sum := "4c002d8bb9f9f854611084de279a986a5eef1f605b2045978f98cd90021c5ebb", func := "deckhand/deckhandlaw09.ZoneChecks", spec := "zoneChecks", inPlace := ["math.Float64bits"], apart := false }
def ZoneChecksSaid : Prop := zoneChecksRow.holds Try.pinned (OpenSpec.ofChange zoneChecksSpec)

/-- ITS FALSE NEIGHBOUR: 'it returns false'. Refute it at one input. -/
def zoneChecksWrong : ChangeSpec := { name := "zoneChecks", fn := fun _ => fun
  | [d] => { results := [.lit (.bool false)], args := [d] }
  | _ => none }
def ZoneChecksWrongFalsely : Prop := zoneChecksRow.holds Try.pinned (OpenSpec.ofChange zoneChecksWrong)

/-- 'deckhandlaw09.ZoneNeeds': WHATEVER THE INPUT: true; the input reads as it did. -/
def zoneNeedsSpec : ChangeSpec := { name := "zoneNeeds", fn := fun _ => fun
  | [d1, d2] => { results := [.lit (.bool true)], args := [d1, d2] }
  | _ => none }
def zoneNeedsRow : OpenClaim := { program := "ytlgpnjbhmoomfaa", sum := "4c002d8bb9f9f854611084de279a986a5eef1f605b2045978f98cd90021c5ebb", func := "deckhand/deckhandlaw09.ZoneNeeds", spec := "zoneNeeds", inPlace := ["math.Float64bits"], apart := false }
def ZoneNeedsSaid : Prop := zoneNeedsRow.holds Try.pinned (OpenSpec.ofChange zoneNeedsSpec)

/-- ITS FALSE NEIGHBOUR: 'it returns false'. Refute it at one input. -/
def zoneNeedsWrong : ChangeSpec := { name := "zoneNeeds", fn := fun _ => fun
  | [d1, d2] => { results := [.lit (.bool false)], args := [d1, d2] }
  | _ => none }
def ZoneNeedsWrongFalsely : Prop := zoneNeedsRow.holds Try.pinned (OpenSpec.ofChange zoneNeedsWrong)

/-- 'deckhandlaw09.ZoneClash': WHATEVER THE INPUT: true; the input reads as it did. -/
def zoneClashSpec : ChangeSpec := { name := "zoneClash", fn := fun _ => fun
  | [d1, d2, d3] => { results := [.lit (.bool true)], args := [d1, d2, d3] }
  | _ => none }
def zoneClashRow : OpenClaim := { program := "ytlgpnjbhmoomfaa", sum := "4c002d8bb9f9f854611084de279a986a5eef1f605b2045978f98cd90021c5ebb", func := "deckhand/deckhandlaw09.ZoneClash", spec := "zoneClash", inPlace := ["math.Float64bits"], apart := false }
def ZoneClashSaid : Prop := zoneClashRow.holds Try.pinned (OpenSpec.ofChange zoneClashSpec)

/-- ITS FALSE NEIGHBOUR: 'it returns false'. Refute it at one input. -/
def zoneClashWrong : ChangeSpec := { name := "zoneClash", fn := fun _ => fun
  | [d1, d2, d3] => { results := [.lit (.bool false)], args := [d1, d2, d3] }
  | _ => none }
def ZoneClashWrongFalsely : Prop := zoneClashRow.holds Try.pinned (OpenSpec.ofChange zoneClashWrong)

/-- 'deckhandlaw10.CellTells': WHATEVER THE INPUT: true; the input reads as it did. -/
def cellTellsSpec : ChangeSpec := { name := "cellTells", fn := fun _ => fun
  | [d1, d2] => { results := [.lit (.bool true)], args := [d1, d2] }
  | _ => none }
def cellTellsRow : OpenClaim := { program := "ytlgpnjbhmoomfaa", sum := "4c002d8bb9f9f854611084de279a986a5eef1f605b2045978f98cd90021c5ebb", func := "deckhand/deckhandlaw10.CellTells", spec := "cellTells", apart := false }
def CellTellsSaid : Prop := cellTellsRow.holds Try.pinned (OpenSpec.ofChange cellTellsSpec)

/-- ITS FALSE NEIGHBOUR: 'it returns false'. Refute it at one input. -/
def cellTellsWrong : ChangeSpec := { name := "cellTells", fn := fun _ => fun
  | [d1, d2] => { results := [.lit (.bool false)], args := [d1, d2] }
  | _ => none }
def CellTellsWrongFalsely : Prop := cellTellsRow.holds Try.pinned (OpenSpec.ofChange cellTellsWrong)

/-- 'deckhandlaw10.CellNew': WHATEVER THE INPUT: true; the input reads as it did. -/
def cellNewSpec : ChangeSpec := { name := "cellNew", fn := fun _ => fun
  | [d1, d2] => { results := [.lit (.bool true)], args := [d1, d2] }
  | _ => none }
def cellNewRow : OpenClaim := { program := "ytlgpnjbhmoomfaa", sum := "4c002d8bb9f9f854611084de279a986a5eef1f605b2045978f98cd90021c5ebb", func := "deckhand/deckhandlaw10.CellNew", spec := "cellNew", apart := false }
def CellNewSaid : Prop := cellNewRow.holds Try.pinned (OpenSpec.ofChange cellNewSpec)

/-- ITS FALSE NEIGHBOUR: 'it returns false'. Refute it at one input. -/
def cellNewWrong : ChangeSpec := { name := "cellNew", fn := fun _ => fun
  | [d1, d2] => { results := [.lit (.bool false)], args := [d1, d2] }
  | _ => none }
def CellNewWrongFalsely : Prop := cellNewRow.holds Try.pinned (OpenSpec.ofChange cellNewWrong)

/-- 'deckhandlaw10.CellMoves': WHATEVER THE INPUT: true; the input reads as it did. -/
def cellMovesSpec : ChangeSpec := { name := "cellMoves", fn := fun _ => fun
  | [d1, d2, d3] => { results := [.lit (.bool true)], args := [d1, d2, d3] }
  | _ => none }
def cellMovesRow : OpenClaim := { program := "ytlgpnjbhmoomfaa", sum := "4c002d8bb9f9f854611084de279a986a5eef1f605b2045978f98cd90021c5ebb", func := "deckhand/deckhandlaw10.CellMoves", spec := "cellMoves", apart := false }
def CellMovesSaid : Prop := cellMovesRow.holds Try.pinned (OpenSpec.ofChange cellMovesSpec)

/-- ITS FALSE NEIGHBOUR: 'it returns false'. Refute it at one input. -/
def cellMovesWrong : ChangeSpec := { name := "cellMoves", fn := fun _ => fun
  | [d1, d2, d3] => { results := [.lit (.bool false)], args := [d1, d2, d3] }
  | _ => none }
def CellMovesWrongFalsely : Prop := cellMovesRow.holds Try.pinned (OpenSpec.ofChange cellMovesWrong)

/-- 'deckhandlaw10.CellRuns': WHATEVER THE INPUT: true; the input reads as it did. -/
def cellRunsSpec : ChangeSpec := { name := "cellRuns", fn := fun _ => fun
  | [d1, d2, d3] => { results := [.lit (.bool true)], args := [d1, d2, d3] }
  | _ => none }
def cellRunsRow : OpenClaim := { program := "ytlgpnjbhmoomfaa", sum := "4c002d8bb9f9f854611084de279a986a5eef1f605b2045978f98cd90021c5ebb", func := "deckhand/deckhandlaw10.CellRuns", spec := "cellRuns", apart := false }
def CellRunsSaid : Prop := cellRunsRow.holds Try.pinned (OpenSpec.ofChange cellRunsSpec)

/-- ITS FALSE NEIGHBOUR: 'it returns false'. Refute it at one input. -/
def cellRunsWrong : ChangeSpec := { name := "cellRuns", fn := fun _ => fun
  | [d1, d2, d3] => { results := [.lit (.bool false)], args := [d1, d2, d3] }
  | _ => none }
def CellRunsWrongFalsely : Prop := cellRunsRow.holds Try.pinned (OpenSpec.ofChange cellRunsWrong)

/- THE SECOND FORM. 'bulk': how many values and letters a reading holds, each counted each time it is reached (what is shared counts as often as it is met; a slice's spare places count too). A statement '..UptoSaid' is the law's where the arguments, and the package variables that the reading takes, are together of bulk at most 1048576: NARROWER than '..Said'. Prove '..Said' where nothing that the law and all that it calls make is longer than what came in: it says more and counts as full. Else prove '..UptoSaid'. A law counts once. -/
mutual
def uptoBulk {H : Type} : DataW H → Nat
  | .lit (.string bytes) => bytes.length + 1
  | .lit _ => 1
  | .nil => 1
  | .ptr d => uptoBulk d + 1
  | .slice elems spare => uptoBulkAll elems + uptoBulkAll spare + 1
  | .agg parts => uptoBulkAll parts + 1
  | .iface _ d => uptoBulk d + 1
  | .map entries => uptoBulkEntries entries + 1
  | .held _ => 1
def uptoBulkAll {H : Type} : List (DataW H) → Nat
  | [] => 0
  | d :: r => uptoBulk d + uptoBulkAll r
def uptoBulkEntries {H : Type} : List (Lit × DataW H) → Nat
  | [] => 0
  | x :: r => uptoBulkEntry x + uptoBulkEntries r
def uptoBulkEntry {H : Type} : Lit × DataW H → Nat
  | (.string bytes, d) => bytes.length + uptoBulk d + 1
  | (_, d) => uptoBulk d + 1
 end
def uptoSmall : (H : Type) → List (DataW H) → Bool := fun _ ds => decide (uptoBulkAll ds ≤ 1048576)
def OpenSpec.upto (s : _root_.Go.ChangeSpec) : _root_.Go.OpenSpec := { _root_.Go.OpenSpec.ofChange s with cond := some uptoSmall }

/-- 'deckhandlaw09.ZoneSpans', WHERE WHAT IT READS IS OF BULK AT MOST 1048576: true; the input reads as it did. -/
def zoneSpansUptoRow : OpenClaim := { program := "ytlgpnjbhmoomfaa", sum := "4c002d8bb9f9f854611084de279a986a5eef1f605b2045978f98cd90021c5ebb", func := "deckhand/deckhandlaw09.ZoneSpans", spec := "zoneSpans", inPlace := ["math.Float64bits"], apart := false, narrowed := true }
def ZoneSpansUptoSaid : Prop := zoneSpansUptoRow.holds Try.pinned (OpenSpec.upto zoneSpansSpec)

/-- 'deckhandlaw09.ZoneChecks', WHERE WHAT IT READS IS OF BULK AT MOST 1048576: true; the input reads as it did. -/
def zoneChecksUptoRow : OpenClaim := { program := "ytlgpnjbhmoomfaa", sum := "4c002d8bb9f9f854611084de279a986a5eef1f605b2045978f98cd90021c5ebb", func := "deckhand/deckhandlaw09.ZoneChecks", spec := "zoneChecks", inPlace := ["math.Float64bits"], apart := false, narrowed := true }
def ZoneChecksUptoSaid : Prop := zoneChecksUptoRow.holds Try.pinned (OpenSpec.upto zoneChecksSpec)

/-- 'deckhandlaw09.ZoneNeeds', WHERE WHAT IT READS IS OF BULK AT MOST 1048576: true; the input reads as it did. -/
def zoneNeedsUptoRow : OpenClaim := { program := "ytlgpnjbhmoomfaa", sum := "4c002d8bb9f9f854611084de279a986a5eef1f605b2045978f98cd90021c5ebb", func := "deckhand/deckhandlaw09.ZoneNeeds", spec := "zoneNeeds", inPlace := ["math.Float64bits"], apart := false, narrowed := true }
def ZoneNeedsUptoSaid : Prop := zoneNeedsUptoRow.holds Try.pinned (OpenSpec.upto zoneNeedsSpec)

/-- 'deckhandlaw09.ZoneClash', WHERE WHAT IT READS IS OF BULK AT MOST 1048576: true; the input reads as it did. -/
def zoneClashUptoRow : OpenClaim := { program := "ytlgpnjbhmoomfaa", sum := "4c002d8bb9f9f854611084de279a986a5eef1f605b2045978f98cd90021c5ebb", func := "deckhand/deckhandlaw09.ZoneClash", spec := "zoneClash", inPlace := ["math.Float64bits"], apart := false, narrowed := true }
def ZoneClashUptoSaid : Prop := zoneClashUptoRow.holds Try.pinned (OpenSpec.upto zoneClashSpec)

/-- 'deckhandlaw10.CellTells', WHERE WHAT IT READS IS OF BULK AT MOST 1048576: true; the input reads as it did. -/
def cellTellsUptoRow : OpenClaim := { program := "ytlgpnjbhmoomfaa", sum := "4c002d8bb9f9f854611084de279a986a5eef1f605b2045978f98cd90021c5ebb", func := "deckhand/deckhandlaw10.CellTells", spec := "cellTells", apart := false, narrowed := true }
def CellTellsUptoSaid : Prop := cellTellsUptoRow.holds Try.pinned (OpenSpec.upto cellTellsSpec)

/-- 'deckhandlaw10.CellNew', WHERE WHAT IT READS IS OF BULK AT MOST 1048576: true; the input reads as it did. -/
def cellNewUptoRow : OpenClaim := { program := "ytlgpnjbhmoomfaa", sum := "4c002d8bb9f9f854611084de279a986a5eef1f605b2045978f98cd90021c5ebb", func := "deckhand/deckhandlaw10.CellNew", spec := "cellNew", apart := false, narrowed := true }
def CellNewUptoSaid : Prop := cellNewUptoRow.holds Try.pinned (OpenSpec.upto cellNewSpec)

/-- 'deckhandlaw10.CellMoves', WHERE WHAT IT READS IS OF BULK AT MOST 1048576: true; the input reads as it did. -/
def cellMovesUptoRow : OpenClaim := { program := "ytlgpnjbhmoomfaa", sum := "4c002d8bb9f9f854611084de279a986a5eef1f605b2045978f98cd90021c5ebb", func := "deckhand/deckhandlaw10.CellMoves", spec := "cellMoves", apart := false, narrowed := true }
def CellMovesUptoSaid : Prop := cellMovesUptoRow.holds Try.pinned (OpenSpec.upto cellMovesSpec)

/-- 'deckhandlaw10.CellRuns', WHERE WHAT IT READS IS OF BULK AT MOST 1048576: true; the input reads as it did. -/
def cellRunsUptoRow : OpenClaim := { program := "ytlgpnjbhmoomfaa", sum := "4c002d8bb9f9f854611084de279a986a5eef1f605b2045978f98cd90021c5ebb", func := "deckhand/deckhandlaw10.CellRuns", spec := "cellRuns", apart := false, narrowed := true }
def CellRunsUptoSaid : Prop := cellRunsUptoRow.holds Try.pinned (OpenSpec.upto cellRunsSpec)

end Rows
end Go.Proofs.Ytlgpnjbhmoomfaa

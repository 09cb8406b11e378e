/-
  No cell of these rows narrows 'for every input' (looked for: loops, veiled, ifaces, maps, wideKeys, modest, calm, conditions, laid).
  DERIVED. THE GIVEN ROWS OF THIS SEAT. 7 by the template 'for every input the law returns true; each argument reads behind the call as it read before'; 0 by the template 'total and deterministic' (their statements: YtegghoniboebkaaTotals.lean).
  GIVEN WITH THE SEED: the statements are not yours to turn. If you find one false, say at which input.
  Laid BY PROGRAM, IN A SANDBOX (cutbox-rows.mjs): the forced cells as the released guide's own fill.sh prints them over the translation 133bf08e8639ad17… (all of the seat's roots in one cut). By AI agents, Wed Nov 11 2026. No macro, syntax, notation, axiom, sorry.
-/
import Derived.Test.YtegghoniboebkaaChecked
import GoSem.Claim
import GoSem.ClaimJoined
import GoSem.ClaimMapViews
import Derived.JoinedTies
import Derived.KernelRfl
namespace Go.Proofs.Ytegghoniboebkaa
/- THE CELL 'sum', in the pinned program and in every row, IS THE sha256 OF THE DUMP (.gsa) THAT YtegghoniboebkaaProg.lean LOADS. Nothing in Lean hashes anything: it is a label: what it is worth is what the hold of that sum in a sandbox is worth. -/
noncomputable def Try.pinned : Pinned := { name := "ytegghoniboebkaa", sum := "133bf08e8639ad17cc31ea45ed4cdfa643673d69f11d6e236dfcd4f21fa60d72", checked := Try.checked }
namespace Rows
def none {H : Type} : Left H := { results := [], args := [] }

/-- 'deckhandlaw07.RailChecks': WHATEVER THE INPUT: true; the input reads as it did. -/
def railChecksSpec : ChangeSpec := { name := "railChecks", fn := fun _ => fun
  | [d1, d2] => { results := [.lit (.bool true)], args := [d1, d2] }
  | _ => none }
def railChecksRow : OpenClaim := { program := "ytegghoniboebkaa", sum := "133bf08e8639ad17cc31ea45ed4cdfa643673d69f11d6e236dfcd4f21fa60d72", func := "deckhand/deckhandlaw07.RailChecks", spec := "railChecks", inPlace := ["math.Float64frombits", "math.Float64bits"], apart := false }
def RailChecksSaid : Prop := railChecksRow.holds Try.pinned (OpenSpec.ofChange railChecksSpec)

/-- ITS FALSE NEIGHBOUR: 'it returns false'. Refute it at one input. -/
def railChecksWrong : ChangeSpec := { name := "railChecks", fn := fun _ => fun
  | [d1, d2] => { results := [.lit (.bool false)], args := [d1, d2] }
  | _ => none }
def RailChecksWrongFalsely : Prop := railChecksRow.holds Try.pinned (OpenSpec.ofChange railChecksWrong)

/-- 'deckhandlaw07.RailLanes': WHATEVER THE INPUT: true; the input reads as it did. -/
def railLanesSpec : ChangeSpec := { name := "railLanes", fn := fun _ => fun
  | [d1, d2] => { results := [.lit (.bool true)], args := [d1, d2] }
  | _ => none }
def railLanesRow : OpenClaim := { program := "ytegghoniboebkaa", sum := "133bf08e8639ad17cc31ea45ed4cdfa643673d69f11d6e236dfcd4f21fa60d72", func := "deckhand/deckhandlaw07.RailLanes", spec := "railLanes", inPlace := ["math.Float64frombits", "math.Float64bits"], apart := false }
def RailLanesSaid : Prop := railLanesRow.holds Try.pinned (OpenSpec.ofChange railLanesSpec)

/-- ITS FALSE NEIGHBOUR: 'it returns false'. Refute it at one input. -/
def railLanesWrong : ChangeSpec := { name := "railLanes", fn := fun _ => fun
  | [d1, d2] => { results := [.lit (.bool false)], args := [d1, d2] }
  | _ => none }
def RailLanesWrongFalsely : Prop := railLanesRow.holds Try.pinned (OpenSpec.ofChange railLanesWrong)

/-- 'deckhandlaw07.RailReaches': WHATEVER THE INPUT: true; the input reads as it did. -/
def railReachesSpec : ChangeSpec := { name := "railReaches", fn := fun _ => fun
  | [d1, d2, d3] => { results := [.lit (.bool true)], args := [d1, d2, d3] }
  | _ => none }
def railReachesRow : OpenClaim := { program := "ytegghoniboebkaa", sum := "133bf08e8639ad17cc31ea45ed4cdfa643673d69f11d6e236dfcd4f21fa60d72", func := "deckhand/deckhandlaw07.RailReaches", spec := "railReaches", inPlace := ["math.Float64frombits", "math.Float64bits"], apart := false }
def RailReachesSaid : Prop := railReachesRow.holds Try.pinned (OpenSpec.ofChange railReachesSpec)

/-- ITS FALSE NEIGHBOUR: 'it returns false'. Refute it at one input. -/
def railReachesWrong : ChangeSpec := { name := "railReaches", fn := fun _ => fun
  | [d1, d2, d3] => { results := [.lit (.bool false)], args := [d1, d2, d3] }
  | _ => none }
def RailReachesWrongFalsely : Prop := railReachesRow.holds Try.pinned (OpenSpec.ofChange railReachesWrong)

/-- 'deckhandlaw07.RailGrows': WHATEVER THE INPUT: true; the input reads as it did. -/
def railGrowsSpec : ChangeSpec := { name := "railGrows", fn := fun _ => fun
  | [d1, d2, d3, d4] => { results := [.lit (.bool true)], args := [d1, d2, d3, d4] }
  | _ => none }
def railGrowsRow : OpenClaim := { program := "ytegghoniboebkaa", sum := "133bf08e8639ad17cc31ea45ed4cdfa643673d69f11d6e236dfcd4f21fa60d72", func := "deckhand/deckhandlaw07.RailGrows", spec := "railGrows", inPlace := ["math.Float64frombits"], apart := false }
def RailGrowsSaid : Prop := railGrowsRow.holds Try.pinned (OpenSpec.ofChange railGrowsSpec)

/-- ITS FALSE NEIGHBOUR: 'it returns false'. Refute it at one input. -/
def railGrowsWrong : ChangeSpec := { name := "railGrows", fn := fun _ => fun
  | [d1, d2, d3, d4] => { results := [.lit (.bool false)], args := [d1, d2, d3, d4] }
  | _ => none }
def RailGrowsWrongFalsely : Prop := railGrowsRow.holds Try.pinned (OpenSpec.ofChange railGrowsWrong)

/-- 'deckhandlaw08.DeckChecks': WHATEVER THE INPUT: true; the input reads as it did. -/
def deckChecksSpec : ChangeSpec := { name := "deckChecks", fn := fun _ => fun
  | [d] => { results := [.lit (.bool true)], args := [d] }
  | _ => none }
def deckChecksRow : OpenClaim := { program := "ytegghoniboebkaa", sum := "133bf08e8639ad17cc31ea45ed4cdfa643673d69f11d6e236dfcd4f21fa60d72", func := "deckhand/deckhandlaw08.DeckChecks", spec := "deckChecks", inPlace := ["internal/bytealg.IndexByteString", "internal/bytealg.IndexString", "math.Float64bits"], recurses := true, named := ["internal/bytealg.MaxLen"], apart := false }
def DeckChecksSaid : Prop := deckChecksRow.holds Try.pinned (OpenSpec.ofChange deckChecksSpec)

/-- ITS FALSE NEIGHBOUR: 'it returns false'. Refute it at one input. -/
def deckChecksWrong : ChangeSpec := { name := "deckChecks", fn := fun _ => fun
  | [d] => { results := [.lit (.bool false)], args := [d] }
  | _ => none }
def DeckChecksWrongFalsely : Prop := deckChecksRow.holds Try.pinned (OpenSpec.ofChange deckChecksWrong)

/-- 'deckhandlaw08.DeckParts': WHATEVER THE INPUT: true; the input reads as it did. -/
def deckPartsSpec : ChangeSpec := { name := "deckParts", fn := fun _ => fun
  | [d1, d2, d3] => { results := [.lit (.bool true)], args := [d1, d2, d3] }
  | _ => none }
def deckPartsRow : OpenClaim := { program := "ytegghoniboebkaa", sum := "133bf08e8639ad17cc31ea45ed4cdfa643673d69f11d6e236dfcd4f21fa60d72", func := "deckhand/deckhandlaw08.DeckParts", spec := "deckParts", inPlace := ["internal/bytealg.IndexByteString", "internal/bytealg.IndexString", "math.Float64bits"], recurses := true, named := ["internal/bytealg.MaxLen"], apart := false }
def DeckPartsSaid : Prop := deckPartsRow.holds Try.pinned (OpenSpec.ofChange deckPartsSpec)

/-- ITS FALSE NEIGHBOUR: 'it returns false'. Refute it at one input. -/
def deckPartsWrong : ChangeSpec := { name := "deckParts", fn := fun _ => fun
  | [d1, d2, d3] => { results := [.lit (.bool false)], args := [d1, d2, d3] }
  | _ => none }
def DeckPartsWrongFalsely : Prop := deckPartsRow.holds Try.pinned (OpenSpec.ofChange deckPartsWrong)

/-- 'deckhandlaw08.DeckNames': WHATEVER THE INPUT: true; the input reads as it did. -/
def deckNamesSpec : ChangeSpec := { name := "deckNames", fn := fun _ => fun
  | [d1, d2, d3] => { results := [.lit (.bool true)], args := [d1, d2, d3] }
  | _ => none }
def deckNamesRow : OpenClaim := { program := "ytegghoniboebkaa", sum := "133bf08e8639ad17cc31ea45ed4cdfa643673d69f11d6e236dfcd4f21fa60d72", func := "deckhand/deckhandlaw08.DeckNames", spec := "deckNames", inPlace := ["internal/bytealg.IndexByteString", "internal/bytealg.IndexString", "math.Float64bits"], recurses := true, named := ["internal/bytealg.MaxLen"], apart := false }
def DeckNamesSaid : Prop := deckNamesRow.holds Try.pinned (OpenSpec.ofChange deckNamesSpec)

/-- ITS FALSE NEIGHBOUR: 'it returns false'. Refute it at one input. -/
def deckNamesWrong : ChangeSpec := { name := "deckNames", fn := fun _ => fun
  | [d1, d2, d3] => { results := [.lit (.bool false)], args := [d1, d2, d3] }
  | _ => none }
def DeckNamesWrongFalsely : Prop := deckNamesRow.holds Try.pinned (OpenSpec.ofChange deckNamesWrong)

/- THE SECOND FORM. 'bulk': how many values and letters a reading holds, each counted each time it is reached (what is shared counts as often as it is met; a slice's spare places count too). A statement '..UptoSaid' is the law's where the arguments, and the package variables that the reading takes, are together of bulk at most 1048576: NARROWER than '..Said'. Prove '..Said' where nothing that the law and all that it calls make is longer than what came in: it says more and counts as full. Else prove '..UptoSaid'. A law counts once. -/
mutual
def uptoBulk {H : Type} : DataW H → Nat
  | .lit (.string bytes) => bytes.length + 1
  | .lit _ => 1
  | .nil => 1
  | .ptr d => uptoBulk d + 1
  | .slice elems spare => uptoBulkAll elems + uptoBulkAll spare + 1
  | .agg parts => uptoBulkAll parts + 1
  | .iface _ d => uptoBulk d + 1
  | .map entries => uptoBulkEntries entries + 1
  | .held _ => 1
def uptoBulkAll {H : Type} : List (DataW H) → Nat
  | [] => 0
  | d :: r => uptoBulk d + uptoBulkAll r
def uptoBulkEntries {H : Type} : List (Lit × DataW H) → Nat
  | [] => 0
  | x :: r => uptoBulkEntry x + uptoBulkEntries r
def uptoBulkEntry {H : Type} : Lit × DataW H → Nat
  | (.string bytes, d) => bytes.length + uptoBulk d + 1
  | (_, d) => uptoBulk d + 1
 end
def uptoSmall : (H : Type) → List (DataW H) → Bool := fun _ ds => decide (uptoBulkAll ds ≤ 1048576)
def OpenSpec.upto (s : _root_.Go.ChangeSpec) : _root_.Go.OpenSpec := { _root_.Go.OpenSpec.ofChange s with cond := some uptoSmall }

/-- 'deckhandlaw07.RailChecks', WHERE WHAT IT READS IS OF BULK AT MOST 1048576: true; the input reads as it did. -/
def railChecksUptoRow : OpenClaim := { program := "ytegghoniboebkaa", sum := "133bf08e8639ad17cc31ea45ed4cdfa643673d69f11d6e236dfcd4f21fa60d72", func := "deckhand/deckhandlaw07.RailChecks", spec := "railChecks", inPlace := ["math.Float64frombits", "math.Float64bits"], apart := false, narrowed := true }
def RailChecksUptoSaid : Prop := railChecksUptoRow.holds Try.pinned (OpenSpec.upto railChecksSpec)

/-- 'deckhandlaw07.RailLanes', WHERE WHAT IT READS IS OF BULK AT MOST 1048576: true; the input reads as it did. -/
def railLanesUptoRow : OpenClaim := { program := "ytegghoniboebkaa", sum := "133bf08e8639ad17cc31ea45ed4cdfa643673d69f11d6e236dfcd4f21fa60d72", func := "deckhand/deckhandlaw07.RailLanes", spec := "railLanes", inPlace := ["math.Float64frombits", "math.Float64bits"], apart := false, narrowed := true }
def RailLanesUptoSaid : Prop := railLanesUptoRow.holds Try.pinned (OpenSpec.upto railLanesSpec)

/-- 'deckhandlaw07.RailReaches', WHERE WHAT IT READS IS OF BULK AT MOST 1048576: true; the input reads as it did. -/
def railReachesUptoRow : OpenClaim := { program := "ytegghoniboebkaa", sum := "133bf08e8639ad17cc31ea45ed4cdfa643673d69f11d6e236dfcd4f21fa60d72", func := "deckhand/deckhandlaw07.RailReaches", spec := "railReaches", inPlace := ["math.Float64frombits", "math.Float64bits"], apart := false, narrowed := true }
def RailReachesUptoSaid : Prop := railReachesUptoRow.holds Try.pinned (OpenSpec.upto railReachesSpec)

/-- 'deckhandlaw07.RailGrows', WHERE WHAT IT READS IS OF BULK AT MOST 1048576: true; the input reads as it did. -/
def railGrowsUptoRow : OpenClaim := { program := "ytegghoniboebkaa", sum := "133bf08e8639ad17cc31ea45ed4cdfa643673d69f11d6e236dfcd4f21fa60d72", func := "deckhand/deckhandlaw07.RailGrows", spec := "railGrows", inPlace := ["math.Float64frombits"], apart := false, narrowed := true }
def RailGrowsUptoSaid : Prop := railGrowsUptoRow.holds Try.pinned (OpenSpec.upto railGrowsSpec)

/-- 'deckhandlaw08.DeckChecks', WHERE WHAT IT READS IS OF BULK AT MOST 1048576: true; the input reads as it did. -/
def deckChecksUptoRow : OpenClaim := { program := "ytegghoniboebkaa", sum := "133bf08e8639ad17cc31ea45ed4cdfa643673d69f11d6e236dfcd4f21fa60d72", func := "deckhand/deckhandlaw08.DeckChecks", spec := "deckChecks", inPlace := ["internal/bytealg.IndexByteString", "internal/bytealg.IndexString", "math.Float64bits"], recurses := true, named := ["internal/bytealg.MaxLen"], apart := false, narrowed := true }
def DeckChecksUptoSaid : Prop := deckChecksUptoRow.holds Try.pinned (OpenSpec.upto deckChecksSpec)

/-- 'deckhandlaw08.DeckParts', WHERE WHAT IT READS IS OF BULK AT MOST 1048576: true; the input reads as it did. -/
def deckPartsUptoRow : OpenClaim := { program := "ytegghoniboebkaa", sum := "133bf08e8639ad17cc31ea45ed4cdfa643673d69f11d6e236dfcd4f21fa60d72", func := "deckhand/deckhandlaw08.DeckParts", spec := "deckParts", inPlace := ["internal/bytealg.IndexByteString", "internal/bytealg.IndexString", "math.Float64bits"], recurses := true, named := ["internal/bytealg.MaxLen"], apart := false, narrowed := true }
def DeckPartsUptoSaid : Prop := deckPartsUptoRow.holds Try.pinned (OpenSpec.upto deckPartsSpec)

/-- 'deckhandlaw08.DeckNames', WHERE WHAT IT READS IS OF BULK AT MOST 1048576: true; the input reads as it did. -/
def deckNamesUptoRow : OpenClaim := { program := "ytegghoniboebkaa", sum := "133bf08e8639ad17cc31ea45ed4cdfa643673d69f11d6e236dfcd4f21fa60d72", func := "deckhand/deckhandlaw08.DeckNames", spec := "deckNames", inPlace := ["internal/bytealg.IndexByteString", "internal/bytealg.IndexString", "math.Float64bits"], recurses := true, named := ["internal/bytealg.MaxLen"], apart := false, narrowed := true }
def DeckNamesUptoSaid : Prop := deckNamesUptoRow.holds Try.pinned (OpenSpec.upto deckNamesSpec)

end Rows
end Go.Proofs.Ytegghoniboebkaa

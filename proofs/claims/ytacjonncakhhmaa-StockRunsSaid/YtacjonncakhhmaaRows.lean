/-
  No cell of these rows narrows 'for every input' (looked for: loops, veiled, ifaces, maps, wideKeys, modest, calm, conditions, laid).
  DERIVED. THE GIVEN ROWS OF THIS SEAT. 7 by the template 'for every input the law returns true; each argument reads behind the call as it read before'; 0 by the template 'total and deterministic' (their statements: YtacjonncakhhmaaTotals.lean).
  GIVEN WITH THE SEED: the statements are not yours to turn. If you find one false, say at which input.
  Laid BY PROGRAM, IN A SANDBOX (cutbox-rows.mjs): the forced cells as the released guide's own fill.sh prints them over the translation dcc4be4081965281… (all of the seat's roots in one cut). By AI agents, Wed Nov 11 2026. No macro, syntax, notation, axiom, sorry.
-/
import Derived.Test.YtacjonncakhhmaaChecked
import GoSem.Claim
import GoSem.ClaimJoined
import GoSem.ClaimMapViews
import Derived.JoinedTies
import Derived.KernelRfl
namespace Go.Proofs.Ytacjonncakhhmaa
/- THE CELL 'sum', in the pinned program and in every row, IS THE sha256 OF THE DUMP (.gsa) THAT YtacjonncakhhmaaProg.lean LOADS. Nothing in Lean hashes anything: it is a label: what it is worth is what the hold of that sum in a sandbox is worth. -/
noncomputable def Try.pinned : Pinned := { name := "ytacjonncakhhmaa", sum := "dcc4be4081965281722453010fcfa06e3a58a977a340479c6dd9d8b8b607ac80", checked := Try.checked }
namespace Rows
def none {H : Type} : Left H := { results := [], args := [] }

/-- 'deckhandlaw13.StockNew': WHATEVER THE INPUT: true; the input reads as it did. -/
def stockNewSpec : ChangeSpec := { name := "stockNew", fn := fun _ => fun
  | [d] => { results := [.lit (.bool true)], args := [d] }
  | _ => none }
def stockNewRow : OpenClaim := { program := "ytacjonncakhhmaa", sum := "dcc4be4081965281722453010fcfa06e3a58a977a340479c6dd9d8b8b607ac80", func := "deckhand/deckhandlaw13.StockNew", spec := "stockNew", inPlace := ["math.Float64bits"], unfollowed := true, recurses := true, apart := false }
def StockNewSaid : Prop := stockNewRow.holds Try.pinned (OpenSpec.ofChange stockNewSpec)

/-- ITS FALSE NEIGHBOUR: 'it returns false'. Refute it at one input. -/
def stockNewWrong : ChangeSpec := { name := "stockNew", fn := fun _ => fun
  | [d] => { results := [.lit (.bool false)], args := [d] }
  | _ => none }
def StockNewWrongFalsely : Prop := stockNewRow.holds Try.pinned (OpenSpec.ofChange stockNewWrong)

/-- 'deckhandlaw13.StockTells': WHATEVER THE INPUT: true; the input reads as it did. -/
def stockTellsSpec : ChangeSpec := { name := "stockTells", fn := fun _ => fun
  | [d1, d2, d3, d4] => { results := [.lit (.bool true)], args := [d1, d2, d3, d4] }
  | _ => none }
def stockTellsRow : OpenClaim := { program := "ytacjonncakhhmaa", sum := "dcc4be4081965281722453010fcfa06e3a58a977a340479c6dd9d8b8b607ac80", func := "deckhand/deckhandlaw13.StockTells", spec := "stockTells", inPlace := ["math.Float64bits"], unfollowed := true, recurses := true, apart := false }
def StockTellsSaid : Prop := stockTellsRow.holds Try.pinned (OpenSpec.ofChange stockTellsSpec)

/-- ITS FALSE NEIGHBOUR: 'it returns false'. Refute it at one input. -/
def stockTellsWrong : ChangeSpec := { name := "stockTells", fn := fun _ => fun
  | [d1, d2, d3, d4] => { results := [.lit (.bool false)], args := [d1, d2, d3, d4] }
  | _ => none }
def StockTellsWrongFalsely : Prop := stockTellsRow.holds Try.pinned (OpenSpec.ofChange stockTellsWrong)

/-- 'deckhandlaw13.StockRuns': WHATEVER THE INPUT: true; the input reads as it did. -/
def stockRunsSpec : ChangeSpec := { name := "stockRuns", fn := fun _ => fun
  | [d1, d2] => { results := [.lit (.bool true)], args := [d1, d2] }
  | _ => none }
def stockRunsRow : OpenClaim := { program := "ytacjonncakhhmaa", sum := "dcc4be4081965281722453010fcfa06e3a58a977a340479c6dd9d8b8b607ac80", func := "deckhand/deckhandlaw13.StockRuns", spec := "stockRuns", inPlace := ["math.Float64bits"], unfollowed := true, recurses := true, apart := false }
def StockRunsSaid : Prop := stockRunsRow.holds Try.pinned (OpenSpec.ofChange stockRunsSpec)

/-- ITS FALSE NEIGHBOUR: 'it returns false'. Refute it at one input. -/
def stockRunsWrong : ChangeSpec := { name := "stockRuns", fn := fun _ => fun
  | [d1, d2] => { results := [.lit (.bool false)], args := [d1, d2] }
  | _ => none }
def StockRunsWrongFalsely : Prop := stockRunsRow.holds Try.pinned (OpenSpec.ofChange stockRunsWrong)

/-- 'deckhandlaw14.OwnerTakes': WHATEVER THE INPUT: true; the input reads as it did. -/
def ownerTakesSpec : ChangeSpec := { name := "ownerTakes", fn := fun _ => fun
  | [d1, d2, d3] => { results := [.lit (.bool true)], args := [d1, d2, d3] }
  | _ => none }
def ownerTakesRow : OpenClaim := { program := "ytacjonncakhhmaa", sum := "dcc4be4081965281722453010fcfa06e3a58a977a340479c6dd9d8b8b607ac80", func := "deckhand/deckhandlaw14.OwnerTakes", spec := "ownerTakes", unfollowed := true, recurses := true, apart := false }
def OwnerTakesSaid : Prop := ownerTakesRow.holds Try.pinned (OpenSpec.ofChange ownerTakesSpec)

/-- ITS FALSE NEIGHBOUR: 'it returns false'. Refute it at one input. -/
def ownerTakesWrong : ChangeSpec := { name := "ownerTakes", fn := fun _ => fun
  | [d1, d2, d3] => { results := [.lit (.bool false)], args := [d1, d2, d3] }
  | _ => none }
def OwnerTakesWrongFalsely : Prop := ownerTakesRow.holds Try.pinned (OpenSpec.ofChange ownerTakesWrong)

/-- 'deckhandlaw14.OwnerGives': WHATEVER THE INPUT: true; the input reads as it did. -/
def ownerGivesSpec : ChangeSpec := { name := "ownerGives", fn := fun _ => fun
  | [d1, d2, d3] => { results := [.lit (.bool true)], args := [d1, d2, d3] }
  | _ => none }
def ownerGivesRow : OpenClaim := { program := "ytacjonncakhhmaa", sum := "dcc4be4081965281722453010fcfa06e3a58a977a340479c6dd9d8b8b607ac80", func := "deckhand/deckhandlaw14.OwnerGives", spec := "ownerGives", unfollowed := true, recurses := true, apart := false }
def OwnerGivesSaid : Prop := ownerGivesRow.holds Try.pinned (OpenSpec.ofChange ownerGivesSpec)

/-- ITS FALSE NEIGHBOUR: 'it returns false'. Refute it at one input. -/
def ownerGivesWrong : ChangeSpec := { name := "ownerGives", fn := fun _ => fun
  | [d1, d2, d3] => { results := [.lit (.bool false)], args := [d1, d2, d3] }
  | _ => none }
def OwnerGivesWrongFalsely : Prop := ownerGivesRow.holds Try.pinned (OpenSpec.ofChange ownerGivesWrong)

/-- 'deckhandlaw14.OwnerBack': WHATEVER THE INPUT: true; the input reads as it did. -/
def ownerBackSpec : ChangeSpec := { name := "ownerBack", fn := fun _ => fun
  | [d1, d2, d3, d4] => { results := [.lit (.bool true)], args := [d1, d2, d3, d4] }
  | _ => none }
def ownerBackRow : OpenClaim := { program := "ytacjonncakhhmaa", sum := "dcc4be4081965281722453010fcfa06e3a58a977a340479c6dd9d8b8b607ac80", func := "deckhand/deckhandlaw14.OwnerBack", spec := "ownerBack", unfollowed := true, recurses := true, apart := false }
def OwnerBackSaid : Prop := ownerBackRow.holds Try.pinned (OpenSpec.ofChange ownerBackSpec)

/-- ITS FALSE NEIGHBOUR: 'it returns false'. Refute it at one input. -/
def ownerBackWrong : ChangeSpec := { name := "ownerBack", fn := fun _ => fun
  | [d1, d2, d3, d4] => { results := [.lit (.bool false)], args := [d1, d2, d3, d4] }
  | _ => none }
def OwnerBackWrongFalsely : Prop := ownerBackRow.holds Try.pinned (OpenSpec.ofChange ownerBackWrong)

/-- 'deckhandlaw14.OwnerApart': WHATEVER THE INPUT: true; the input reads as it did. -/
def ownerApartSpec : ChangeSpec := { name := "ownerApart", fn := fun _ => fun
  | [d1, d2, d3, d4, d5] => { results := [.lit (.bool true)], args := [d1, d2, d3, d4, d5] }
  | _ => none }
def ownerApartRow : OpenClaim := { program := "ytacjonncakhhmaa", sum := "dcc4be4081965281722453010fcfa06e3a58a977a340479c6dd9d8b8b607ac80", func := "deckhand/deckhandlaw14.OwnerApart", spec := "ownerApart", unfollowed := true, recurses := true, apart := false }
def OwnerApartSaid : Prop := ownerApartRow.holds Try.pinned (OpenSpec.ofChange ownerApartSpec)

/-- ITS FALSE NEIGHBOUR: 'it returns false'. Refute it at one input. -/
def ownerApartWrong : ChangeSpec := { name := "ownerApart", fn := fun _ => fun
  | [d1, d2, d3, d4, d5] => { results := [.lit (.bool false)], args := [d1, d2, d3, d4, d5] }
  | _ => none }
def OwnerApartWrongFalsely : Prop := ownerApartRow.holds Try.pinned (OpenSpec.ofChange ownerApartWrong)

/- THE SECOND FORM. 'bulk': how many values and letters a reading holds, each counted each time it is reached (what is shared counts as often as it is met; a slice's spare places count too). A statement '..UptoSaid' is the law's where the arguments, and the package variables that the reading takes, are together of bulk at most 1048576: NARROWER than '..Said'. Prove '..Said' where nothing that the law and all that it calls make is longer than what came in: it says more and counts as full. Else prove '..UptoSaid'. A law counts once. -/
mutual
def uptoBulk {H : Type} : DataW H → Nat
  | .lit (.string bytes) => bytes.length + 1
  | .lit _ => 1
  | .nil => 1
  | .ptr d => uptoBulk d + 1
  | .slice elems spare => uptoBulkAll elems + uptoBulkAll spare + 1
  | .agg parts => uptoBulkAll parts + 1
  | .iface _ d => uptoBulk d + 1
  | .map entries => uptoBulkEntries entries + 1
  | .held _ => 1
def uptoBulkAll {H : Type} : List (DataW H) → Nat
  | [] => 0
  | d :: r => uptoBulk d + uptoBulkAll r
def uptoBulkEntries {H : Type} : List (Lit × DataW H) → Nat
  | [] => 0
  | x :: r => uptoBulkEntry x + uptoBulkEntries r
def uptoBulkEntry {H : Type} : Lit × DataW H → Nat
  | (.string bytes, d) => bytes.length + uptoBulk d + 1
  | (_, d) => uptoBulk d + 1
 end
def uptoSmall : (H : Type) → List (DataW H) → Bool := fun _ ds => decide (uptoBulkAll ds ≤ 1048576)
def OpenSpec.upto (s : _root_.Go.ChangeSpec) : _root_.Go.OpenSpec := { _root_.Go.OpenSpec.ofChange s with cond := some uptoSmall }

/-- 'deckhandlaw13.StockNew', WHERE WHAT IT READS IS OF BULK AT MOST 1048576: true; the input reads as it did. -/
def stockNewUptoRow : OpenClaim := { program := "ytacjonncakhhmaa", sum := "dcc4be4081965281722453010fcfa06e3a58a977a340479c6dd9d8b8b607ac80", func := "deckhand/deckhandlaw13.StockNew", spec := "stockNew", inPlace := ["math.Float64bits"], unfollowed := true, recurses := true, apart := false, narrowed := true }
def StockNewUptoSaid : Prop := stockNewUptoRow.holds Try.pinned (OpenSpec.upto stockNewSpec)

/-- 'deckhandlaw13.StockTells', WHERE WHAT IT READS IS OF BULK AT MOST 1048576: true; the input reads as it did. -/
def stockTellsUptoRow : OpenClaim := { program := "ytacjonncakhhmaa", sum := "dcc4be4081965281722453010fcfa06e3a58a977a340479c6dd9d8b8b607ac80", func := "deckhand/deckhandlaw13.StockTells", spec := "stockTells", inPlace := ["math.Float64bits"], unfollowed := true, recurses := true, apart := false, narrowed := true }
def StockTellsUptoSaid : Prop := stockTellsUptoRow.holds Try.pinned (OpenSpec.upto stockTellsSpec)

/-- 'deckhandlaw13.StockRuns', WHERE WHAT IT READS IS OF BULK AT MOST 1048576: true; the input reads as it did. -/
def stockRunsUptoRow : OpenClaim := { program := "ytacjonncakhhmaa", sum := "dcc4be4081965281722453010fcfa06e3a58a977a340479c6dd9d8b8b607ac80", func := "deckhand/deckhandlaw13.StockRuns", spec := "stockRuns", inPlace := ["math.Float64bits"], unfollowed := true, recurses := true, apart := false, narrowed := true }
def StockRunsUptoSaid : Prop := stockRunsUptoRow.holds Try.pinned (OpenSpec.upto stockRunsSpec)

/-- 'deckhandlaw14.OwnerTakes', WHERE WHAT IT READS IS OF BULK AT MOST 1048576: true; the input reads as it did. -/
def ownerTakesUptoRow : OpenClaim := { program := "ytacjonncakhhmaa", sum := "dcc4be4081965281722453010fcfa06e3a58a977a340479c6dd9d8b8b607ac80", func := "deckhand/deckhandlaw14.OwnerTakes", spec := "ownerTakes", unfollowed := true, recurses := true, apart := false, narrowed := true }
def OwnerTakesUptoSaid : Prop := ownerTakesUptoRow.holds Try.pinned (OpenSpec.upto ownerTakesSpec)

/-- 'deckhandlaw14.OwnerGives', WHERE WHAT IT READS IS OF BULK AT MOST 1048576: true; the input reads as it did. -/
def ownerGivesUptoRow : OpenClaim := { program := "ytacjonncakhhmaa", sum := "dcc4be4081965281722453010fcfa06e3a58a977a340479c6dd9d8b8b607ac80", func := "deckhand/deckhandlaw14.OwnerGives", spec := "ownerGives", unfollowed := true, recurses := true, apart := false, narrowed := true }
def OwnerGivesUptoSaid : Prop := ownerGivesUptoRow.holds Try.pinned (OpenSpec.upto ownerGivesSpec)

/-- 'deckhandlaw14.OwnerBack', WHERE WHAT IT READS IS OF BULK AT MOST 1048576: true; the input reads as it did. -/
def ownerBackUptoRow : OpenClaim := { program := "ytacjonncakhhmaa", sum := "dcc4be4081965281722453010fcfa06e3a58a977a340479c6dd9d8b8b607ac80", func := "deckhand/deckhandlaw14.OwnerBack", spec := "ownerBack", unfollowed := true, recurses := true, apart := false, narrowed := true }
def OwnerBackUptoSaid : Prop := ownerBackUptoRow.holds Try.pinned (OpenSpec.upto ownerBackSpec)

/-- 'deckhandlaw14.OwnerApart', WHERE WHAT IT READS IS OF BULK AT MOST 1048576: true; the input reads as it did. -/
def ownerApartUptoRow : OpenClaim := { program := "ytacjonncakhhmaa", sum := "dcc4be4081965281722453010fcfa06e3a58a977a340479c6dd9d8b8b607ac80", func := "deckhand/deckhandlaw14.OwnerApart", spec := "ownerApart", unfollowed := true, recurses := true, apart := false, narrowed := true }
def OwnerApartUptoSaid : Prop := ownerApartUptoRow.holds Try.pinned (OpenSpec.upto ownerApartSpec)

end Rows
end Go.Proofs.Ytacjonncakhhmaa

/-
  No cell of these rows narrows 'for every input' (looked for: loops, veiled, ifaces, maps, wideKeys, modest, calm, conditions, laid).
  DERIVED. THE GIVEN ROWS OF THIS SEAT. 6 by the template 'for every input the law returns true; each argument reads behind the call as it read before'; 0 by the template 'total and deterministic' (their statements: YtdghekhkjkkgfaaTotals.lean).
  GIVEN WITH THE SEED: the statements are not yours to turn. If you find one false, say at which input.
  Laid BY PROGRAM, IN A SANDBOX (cutbox-rows.mjs): the forced cells as the released guide's own fill.sh prints them over the translation 9c076f68b12d85f2… (all of the seat's roots in one cut). By AI agents, Wed Nov 11 2026. No macro, syntax, notation, axiom, sorry.
-/
import Derived.Test.YtdghekhkjkkgfaaChecked
import GoSem.Claim
import GoSem.ClaimJoined
import GoSem.ClaimMapViews
import Derived.JoinedTies
import Derived.KernelRfl
namespace Go.Proofs.Ytdghekhkjkkgfaa
/- THE CELL 'sum', in the pinned program and in every row, IS THE sha256 OF THE DUMP (.gsa) THAT YtdghekhkjkkgfaaProg.lean LOADS. Nothing in Lean hashes anything: it is a label: what it is worth is what the hold of that sum in a sandbox is worth. -/
noncomputable def Try.pinned : Pinned := { name := "ytdghekhkjkkgfaa", sum := "9c076f68b12d85f2c4e8f623cdc8004540de6222c95e4a98abd751bdefdee11e", checked := Try.checked }
namespace Rows
def none {H : Type} : Left H := { results := [], args := [] }

/-- 'deckhandlaw11.LogNotes': WHATEVER THE INPUT: true; the input reads as it did. -/
def logNotesSpec : ChangeSpec := { name := "logNotes", fn := fun _ => fun
  | [d1, d2, d3, d4] => { results := [.lit (.bool true)], args := [d1, d2, d3, d4] }
  | _ => none }
def logNotesRow : OpenClaim := { program := "ytdghekhkjkkgfaa", sum := "9c076f68b12d85f2c4e8f623cdc8004540de6222c95e4a98abd751bdefdee11e", func := "deckhand/deckhandlaw11.LogNotes", spec := "logNotes", apart := false }
def LogNotesSaid : Prop := logNotesRow.holds Try.pinned (OpenSpec.ofChange logNotesSpec)

/-- ITS FALSE NEIGHBOUR: 'it returns false'. Refute it at one input. -/
def logNotesWrong : ChangeSpec := { name := "logNotes", fn := fun _ => fun
  | [d1, d2, d3, d4] => { results := [.lit (.bool false)], args := [d1, d2, d3, d4] }
  | _ => none }
def LogNotesWrongFalsely : Prop := logNotesRow.holds Try.pinned (OpenSpec.ofChange logNotesWrong)

/-- 'deckhandlaw11.LogSince': WHATEVER THE INPUT: true; the input reads as it did. -/
def logSinceSpec : ChangeSpec := { name := "logSince", fn := fun _ => fun
  | [d1, d2, d3, d4] => { results := [.lit (.bool true)], args := [d1, d2, d3, d4] }
  | _ => none }
def logSinceRow : OpenClaim := { program := "ytdghekhkjkkgfaa", sum := "9c076f68b12d85f2c4e8f623cdc8004540de6222c95e4a98abd751bdefdee11e", func := "deckhand/deckhandlaw11.LogSince", spec := "logSince", apart := false }
def LogSinceSaid : Prop := logSinceRow.holds Try.pinned (OpenSpec.ofChange logSinceSpec)

/-- ITS FALSE NEIGHBOUR: 'it returns false'. Refute it at one input. -/
def logSinceWrong : ChangeSpec := { name := "logSince", fn := fun _ => fun
  | [d1, d2, d3, d4] => { results := [.lit (.bool false)], args := [d1, d2, d3, d4] }
  | _ => none }
def LogSinceWrongFalsely : Prop := logSinceRow.holds Try.pinned (OpenSpec.ofChange logSinceWrong)

/-- 'deckhandlaw11.LogBack': WHATEVER THE INPUT: true; the input reads as it did. -/
def logBackSpec : ChangeSpec := { name := "logBack", fn := fun _ => fun
  | [d1, d2, d3] => { results := [.lit (.bool true)], args := [d1, d2, d3] }
  | _ => none }
def logBackRow : OpenClaim := { program := "ytdghekhkjkkgfaa", sum := "9c076f68b12d85f2c4e8f623cdc8004540de6222c95e4a98abd751bdefdee11e", func := "deckhand/deckhandlaw11.LogBack", spec := "logBack", apart := false }
def LogBackSaid : Prop := logBackRow.holds Try.pinned (OpenSpec.ofChange logBackSpec)

/-- ITS FALSE NEIGHBOUR: 'it returns false'. Refute it at one input. -/
def logBackWrong : ChangeSpec := { name := "logBack", fn := fun _ => fun
  | [d1, d2, d3] => { results := [.lit (.bool false)], args := [d1, d2, d3] }
  | _ => none }
def LogBackWrongFalsely : Prop := logBackRow.holds Try.pinned (OpenSpec.ofChange logBackWrong)

/-- 'deckhandlaw12.TipDoes': WHATEVER THE INPUT: true; the input reads as it did. -/
def tipDoesSpec : ChangeSpec := { name := "tipDoes", fn := fun _ => fun
  | [d1, d2] => { results := [.lit (.bool true)], args := [d1, d2] }
  | _ => none }
def tipDoesRow : OpenClaim := { program := "ytdghekhkjkkgfaa", sum := "9c076f68b12d85f2c4e8f623cdc8004540de6222c95e4a98abd751bdefdee11e", func := "deckhand/deckhandlaw12.TipDoes", spec := "tipDoes", unfollowed := true, recurses := true, apart := false }
def TipDoesSaid : Prop := tipDoesRow.holds Try.pinned (OpenSpec.ofChange tipDoesSpec)

/-- ITS FALSE NEIGHBOUR: 'it returns false'. Refute it at one input. -/
def tipDoesWrong : ChangeSpec := { name := "tipDoes", fn := fun _ => fun
  | [d1, d2] => { results := [.lit (.bool false)], args := [d1, d2] }
  | _ => none }
def TipDoesWrongFalsely : Prop := tipDoesRow.holds Try.pinned (OpenSpec.ofChange tipDoesWrong)

/-- 'deckhandlaw12.TipLooks': WHATEVER THE INPUT: true; the input reads as it did. -/
def tipLooksSpec : ChangeSpec := { name := "tipLooks", fn := fun _ => fun
  | [d1, d2, d3] => { results := [.lit (.bool true)], args := [d1, d2, d3] }
  | _ => none }
def tipLooksRow : OpenClaim := { program := "ytdghekhkjkkgfaa", sum := "9c076f68b12d85f2c4e8f623cdc8004540de6222c95e4a98abd751bdefdee11e", func := "deckhand/deckhandlaw12.TipLooks", spec := "tipLooks", unfollowed := true, recurses := true, apart := false }
def TipLooksSaid : Prop := tipLooksRow.holds Try.pinned (OpenSpec.ofChange tipLooksSpec)

/-- ITS FALSE NEIGHBOUR: 'it returns false'. Refute it at one input. -/
def tipLooksWrong : ChangeSpec := { name := "tipLooks", fn := fun _ => fun
  | [d1, d2, d3] => { results := [.lit (.bool false)], args := [d1, d2, d3] }
  | _ => none }
def TipLooksWrongFalsely : Prop := tipLooksRow.holds Try.pinned (OpenSpec.ofChange tipLooksWrong)

/-- 'deckhandlaw12.TipOnce': WHATEVER THE INPUT: true; the input reads as it did. -/
def tipOnceSpec : ChangeSpec := { name := "tipOnce", fn := fun _ => fun
  | [d] => { results := [.lit (.bool true)], args := [d] }
  | _ => none }
def tipOnceRow : OpenClaim := { program := "ytdghekhkjkkgfaa", sum := "9c076f68b12d85f2c4e8f623cdc8004540de6222c95e4a98abd751bdefdee11e", func := "deckhand/deckhandlaw12.TipOnce", spec := "tipOnce", unfollowed := true, recurses := true, apart := false }
def TipOnceSaid : Prop := tipOnceRow.holds Try.pinned (OpenSpec.ofChange tipOnceSpec)

/-- ITS FALSE NEIGHBOUR: 'it returns false'. Refute it at one input. -/
def tipOnceWrong : ChangeSpec := { name := "tipOnce", fn := fun _ => fun
  | [d] => { results := [.lit (.bool false)], args := [d] }
  | _ => none }
def TipOnceWrongFalsely : Prop := tipOnceRow.holds Try.pinned (OpenSpec.ofChange tipOnceWrong)

/- THE SECOND FORM. 'bulk': how many values and letters a reading holds, each counted each time it is reached (what is shared counts as often as it is met; a slice's spare places count too). A statement '..UptoSaid' is the law's where the arguments, and the package variables that the reading takes, are together of bulk at most 1048576: NARROWER than '..Said'. Prove '..Said' where nothing that the law and all that it calls make is longer than what came in: it says more and counts as full. Else prove '..UptoSaid'. A law counts once. -/
mutual
def uptoBulk {H : Type} : DataW H → Nat
  | .lit (.string bytes) => bytes.length + 1
  | .lit _ => 1
  | .nil => 1
  | .ptr d => uptoBulk d + 1
  | .slice elems spare => uptoBulkAll elems + uptoBulkAll spare + 1
  | .agg parts => uptoBulkAll parts + 1
  | .iface _ d => uptoBulk d + 1
  | .map entries => uptoBulkEntries entries + 1
  | .held _ => 1
def uptoBulkAll {H : Type} : List (DataW H) → Nat
  | [] => 0
  | d :: r => uptoBulk d + uptoBulkAll r
def uptoBulkEntries {H : Type} : List (Lit × DataW H) → Nat
  | [] => 0
  | x :: r => uptoBulkEntry x + uptoBulkEntries r
def uptoBulkEntry {H : Type} : Lit × DataW H → Nat
  | (.string bytes, d) => bytes.length + uptoBulk d + 1
  | (_, d) => uptoBulk d + 1
 end
def uptoSmall : (H : Type) → List (DataW H) → Bool := fun _ ds => decide (uptoBulkAll ds ≤ 1048576)
def OpenSpec.upto (s : _root_.Go.ChangeSpec) : _root_.Go.OpenSpec := { _root_.Go.OpenSpec.ofChange s with cond := some uptoSmall }

/-- 'deckhandlaw11.LogNotes', WHERE WHAT IT READS IS OF BULK AT MOST 1048576: true; the input reads as it did. -/
def logNotesUptoRow : OpenClaim := { program := "ytdghekhkjkkgfaa", sum := "9c076f68b12d85f2c4e8f623cdc8004540de6222c95e4a98abd751bdefdee11e", func := "deckhand/deckhandlaw11.LogNotes", spec := "logNotes", apart := false, narrowed := true }
def LogNotesUptoSaid : Prop := logNotesUptoRow.holds Try.pinned (OpenSpec.upto logNotesSpec)

/-- 'deckhandlaw11.LogSince', WHERE WHAT IT READS IS OF BULK AT MOST 1048576: true; the input reads as it did. -/
def logSinceUptoRow : OpenClaim := { program := "ytdghekhkjkkgfaa", sum := "9c076f68b12d85f2c4e8f623cdc8004540de6222c95e4a98abd751bdefdee11e", func := "deckhand/deckhandlaw11.LogSince", spec := "logSince", apart := false, narrowed := true }
def LogSinceUptoSaid : Prop := logSinceUptoRow.holds Try.pinned (OpenSpec.upto logSinceSpec)

/-- 'deckhandlaw11.LogBack', WHERE WHAT IT READS IS OF BULK AT MOST 1048576: true; the input reads as it did. -/
def logBackUptoRow : OpenClaim := { program := "ytdghekhkjkkgfaa", sum := "9c076f68b12d85f2c4e8f623cdc8004540de6222c95e4a98abd751bdefdee11e", func := "deckhand/deckhandlaw11.LogBack", spec := "logBack", apart := false, narrowed := true }
def LogBackUptoSaid : Prop := logBackUptoRow.holds Try.pinned (OpenSpec.upto logBackSpec)

/-- 'deckhandlaw12.TipDoes', WHERE WHAT IT READS IS OF BULK AT MOST 1048576: true; the input reads as it did. -/
def tipDoesUptoRow : OpenClaim := { program := "ytdghekhkjkkgfaa", sum := "9c076f68b12d85f2c4e8f623cdc8004540de6222c95e4a98abd751bdefdee11e", func := "deckhand/deckhandlaw12.TipDoes", spec := "tipDoes", unfollowed := true, recurses := true, apart := false, narrowed := true }
def TipDoesUptoSaid : Prop := tipDoesUptoRow.holds Try.pinned (OpenSpec.upto tipDoesSpec)

/-- 'deckhandlaw12.TipLooks', WHERE WHAT IT READS IS OF BULK AT MOST 1048576: true; the input reads as it did. -/
def tipLooksUptoRow : OpenClaim := { program := "ytdghekhkjkkgfaa", sum := "9c076f68b12d85f2c4e8f623cdc8004540de6222c95e4a98abd751bdefdee11e", func := "deckhand/deckhandlaw12.TipLooks", spec := "tipLooks", unfollowed := true, recurses := true, apart := false, narrowed := true }
def TipLooksUptoSaid : Prop := tipLooksUptoRow.holds Try.pinned (OpenSpec.upto tipLooksSpec)

/-- 'deckhandlaw12.TipOnce', WHERE WHAT IT READS IS OF BULK AT MOST 1048576: true; the input reads as it did. -/
def tipOnceUptoRow : OpenClaim := { program := "ytdghekhkjkkgfaa", sum := "9c076f68b12d85f2c4e8f623cdc8004540de6222c95e4a98abd751bdefdee11e", func := "deckhand/deckhandlaw12.TipOnce", spec := "tipOnce", unfollowed := true, recurses := true, apart := false, narrowed := true }
def TipOnceUptoSaid : Prop := tipOnceUptoRow.holds Try.pinned (OpenSpec.upto tipOnceSpec)

end Rows
end Go.Proofs.Ytdghekhkjkkgfaa

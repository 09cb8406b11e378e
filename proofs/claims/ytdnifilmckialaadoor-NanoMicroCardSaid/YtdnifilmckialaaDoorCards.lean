/-
  DERIVED. GIVEN WITH THE SEED: THE CARDS: each row of YtdnifilmckialaaDoorRows.lean that lists a variable, with what it lists TIED to the program's text (the seventh form; the later family's looks); each row that meets fmt, with fmt's text TOLD by the authors' own Lean function (tested against real Go, not proved from fmt's source: count such statements apart). THE CARD IS WHAT COUNTS. Prove the row's statement (the work); the ties are given (YtdnifilmckialaaDoorTie.lean); close each card by the builder's one call (the guide's Derived/Test/ToyasCard.lean, 'card_holds'). Laid BY PROGRAM, IN A SANDBOX (cutbox-door.mjs). By AI agents, Wed Nov 11 2026. No macro, syntax, notation, axiom, sorry.
-/
import Derived.Test.YtdnifilmckialaaDoorRows
import GoSem.ClaimSeven
namespace Go.Proofs.YtdnifilmckialaaDoor
namespace Rows

/-- THE TIED CARD OF 'deckhandlaw01.RealParts'. -/
def realPartsCard : Claim7 := { stood := { row := realPartsRow, standIns := [], harness := (true, "83cae5b4a8f059f8b42914d76e31bf0b5738dea8c7b810bb5e8a2989249b5d5c"), looks := false }, kinds := [], alts := [], laidByText := true, laidKinds := [.data], laidTests := true, laidLooks := .later }
def RealPartsCardSaid : Prop := Claim7.holds Tryd.pinned (.plain (OpenSpec.ofChange realPartsSpec)) realPartsCard

/-- THE TIED CARD OF 'deckhandlaw01.RealMakes'. -/
def realMakesCard : Claim7 := { stood := { row := realMakesRow, standIns := [], harness := (true, "83cae5b4a8f059f8b42914d76e31bf0b5738dea8c7b810bb5e8a2989249b5d5c"), looks := false }, kinds := [], alts := [], laidByText := true, laidKinds := [.data], laidTests := true, laidLooks := .later }
def RealMakesCardSaid : Prop := Claim7.holds Tryd.pinned (.plain (OpenSpec.ofChange realMakesSpec)) realMakesCard

/-- THE TIED CARD OF 'deckhandlaw01.RealOrders'. -/
def realOrdersCard : Claim7 := { stood := { row := realOrdersRow, standIns := [], harness := (true, "83cae5b4a8f059f8b42914d76e31bf0b5738dea8c7b810bb5e8a2989249b5d5c"), looks := false }, kinds := [], alts := [], laidByText := true, laidKinds := [.data], laidTests := true, laidLooks := .later }
def RealOrdersCardSaid : Prop := Claim7.holds Tryd.pinned (.plain (OpenSpec.ofChange realOrdersSpec)) realOrdersCard

/-- THE TIED CARD OF 'deckhandlaw01.RealSorts'. -/
def realSortsCard : Claim7 := { stood := { row := realSortsRow, standIns := [], harness := (true, "83cae5b4a8f059f8b42914d76e31bf0b5738dea8c7b810bb5e8a2989249b5d5c"), looks := false }, kinds := [], alts := [], laidByText := true, laidKinds := [.data], laidTests := true, laidLooks := .later }
def RealSortsCardSaid : Prop := Claim7.holds Tryd.pinned (.plain (OpenSpec.ofChange realSortsSpec)) realSortsCard

/-- THE TIED CARD OF 'deckhandlaw02.NanoOf'. -/
def nanoOfCard : Claim7 := { stood := { row := nanoOfRow, standIns := [], harness := (true, "83cae5b4a8f059f8b42914d76e31bf0b5738dea8c7b810bb5e8a2989249b5d5c"), looks := false }, kinds := [], alts := [], laidByText := true, laidKinds := [.data], laidTests := true, laidLooks := .later }
def NanoOfCardSaid : Prop := Claim7.holds Tryd.pinned (.plain (OpenSpec.ofChange nanoOfSpec)) nanoOfCard

/-- THE TIED CARD OF 'deckhandlaw02.NanoMicro'. -/
def nanoMicroCard : Claim7 := { stood := { row := nanoMicroRow, standIns := [], harness := (true, "83cae5b4a8f059f8b42914d76e31bf0b5738dea8c7b810bb5e8a2989249b5d5c"), looks := false }, kinds := [], alts := [], laidByText := true, laidKinds := [.data], laidTests := true, laidLooks := .later }
def NanoMicroCardSaid : Prop := Claim7.holds Tryd.pinned (.plain (OpenSpec.ofChange nanoMicroSpec)) nanoMicroCard

/-- THE TIED CARD OF 'deckhandlaw02.NanoOrders'. -/
def nanoOrdersCard : Claim7 := { stood := { row := nanoOrdersRow, standIns := [], harness := (true, "83cae5b4a8f059f8b42914d76e31bf0b5738dea8c7b810bb5e8a2989249b5d5c"), looks := false }, kinds := [], alts := [], laidByText := true, laidKinds := [.data], laidTests := true, laidLooks := .later }
def NanoOrdersCardSaid : Prop := Claim7.holds Tryd.pinned (.plain (OpenSpec.ofChange nanoOrdersSpec)) nanoOrdersCard

/-- THE TIED CARD OF 'deckhandlaw02.NanoSums'. -/
def nanoSumsCard : Claim7 := { stood := { row := nanoSumsRow, standIns := [], harness := (true, "83cae5b4a8f059f8b42914d76e31bf0b5738dea8c7b810bb5e8a2989249b5d5c"), looks := false }, kinds := [], alts := [], laidByText := true, laidKinds := [.data], laidTests := true, laidLooks := .later }
def NanoSumsCardSaid : Prop := Claim7.holds Tryd.pinned (.plain (OpenSpec.ofChange nanoSumsSpec)) nanoSumsCard

/-- THE SECOND FORM's CARD OF 'deckhandlaw01.RealParts'. -/
def realPartsUptoCard : Claim7 := { stood := { row := realPartsUptoRow, standIns := [], harness := (true, "83cae5b4a8f059f8b42914d76e31bf0b5738dea8c7b810bb5e8a2989249b5d5c"), looks := false }, kinds := [], alts := [], laidByText := true, laidKinds := [.data], laidTests := true, laidLooks := .later }
def RealPartsUptoCardSaid : Prop := Claim7.holds Tryd.pinned (.plain (OpenSpec.upto realPartsSpec)) realPartsUptoCard

/-- THE SECOND FORM's CARD OF 'deckhandlaw01.RealMakes'. -/
def realMakesUptoCard : Claim7 := { stood := { row := realMakesUptoRow, standIns := [], harness := (true, "83cae5b4a8f059f8b42914d76e31bf0b5738dea8c7b810bb5e8a2989249b5d5c"), looks := false }, kinds := [], alts := [], laidByText := true, laidKinds := [.data], laidTests := true, laidLooks := .later }
def RealMakesUptoCardSaid : Prop := Claim7.holds Tryd.pinned (.plain (OpenSpec.upto realMakesSpec)) realMakesUptoCard

/-- THE SECOND FORM's CARD OF 'deckhandlaw01.RealOrders'. -/
def realOrdersUptoCard : Claim7 := { stood := { row := realOrdersUptoRow, standIns := [], harness := (true, "83cae5b4a8f059f8b42914d76e31bf0b5738dea8c7b810bb5e8a2989249b5d5c"), looks := false }, kinds := [], alts := [], laidByText := true, laidKinds := [.data], laidTests := true, laidLooks := .later }
def RealOrdersUptoCardSaid : Prop := Claim7.holds Tryd.pinned (.plain (OpenSpec.upto realOrdersSpec)) realOrdersUptoCard

/-- THE SECOND FORM's CARD OF 'deckhandlaw01.RealSorts'. -/
def realSortsUptoCard : Claim7 := { stood := { row := realSortsUptoRow, standIns := [], harness := (true, "83cae5b4a8f059f8b42914d76e31bf0b5738dea8c7b810bb5e8a2989249b5d5c"), looks := false }, kinds := [], alts := [], laidByText := true, laidKinds := [.data], laidTests := true, laidLooks := .later }
def RealSortsUptoCardSaid : Prop := Claim7.holds Tryd.pinned (.plain (OpenSpec.upto realSortsSpec)) realSortsUptoCard

/-- THE SECOND FORM's CARD OF 'deckhandlaw02.NanoOf'. -/
def nanoOfUptoCard : Claim7 := { stood := { row := nanoOfUptoRow, standIns := [], harness := (true, "83cae5b4a8f059f8b42914d76e31bf0b5738dea8c7b810bb5e8a2989249b5d5c"), looks := false }, kinds := [], alts := [], laidByText := true, laidKinds := [.data], laidTests := true, laidLooks := .later }
def NanoOfUptoCardSaid : Prop := Claim7.holds Tryd.pinned (.plain (OpenSpec.upto nanoOfSpec)) nanoOfUptoCard

/-- THE SECOND FORM's CARD OF 'deckhandlaw02.NanoMicro'. -/
def nanoMicroUptoCard : Claim7 := { stood := { row := nanoMicroUptoRow, standIns := [], harness := (true, "83cae5b4a8f059f8b42914d76e31bf0b5738dea8c7b810bb5e8a2989249b5d5c"), looks := false }, kinds := [], alts := [], laidByText := true, laidKinds := [.data], laidTests := true, laidLooks := .later }
def NanoMicroUptoCardSaid : Prop := Claim7.holds Tryd.pinned (.plain (OpenSpec.upto nanoMicroSpec)) nanoMicroUptoCard

/-- THE SECOND FORM's CARD OF 'deckhandlaw02.NanoOrders'. -/
def nanoOrdersUptoCard : Claim7 := { stood := { row := nanoOrdersUptoRow, standIns := [], harness := (true, "83cae5b4a8f059f8b42914d76e31bf0b5738dea8c7b810bb5e8a2989249b5d5c"), looks := false }, kinds := [], alts := [], laidByText := true, laidKinds := [.data], laidTests := true, laidLooks := .later }
def NanoOrdersUptoCardSaid : Prop := Claim7.holds Tryd.pinned (.plain (OpenSpec.upto nanoOrdersSpec)) nanoOrdersUptoCard

/-- THE SECOND FORM's CARD OF 'deckhandlaw02.NanoSums'. -/
def nanoSumsUptoCard : Claim7 := { stood := { row := nanoSumsUptoRow, standIns := [], harness := (true, "83cae5b4a8f059f8b42914d76e31bf0b5738dea8c7b810bb5e8a2989249b5d5c"), looks := false }, kinds := [], alts := [], laidByText := true, laidKinds := [.data], laidTests := true, laidLooks := .later }
def NanoSumsUptoCardSaid : Prop := Claim7.holds Tryd.pinned (.plain (OpenSpec.upto nanoSumsSpec)) nanoSumsUptoCard
end Rows
end Go.Proofs.YtdnifilmckialaaDoor

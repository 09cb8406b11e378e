/- How a list of whole numbers that came in is opened, beside a deck. -/
import Derived.Test.YtlgpnjbhmoomfaaCC
import Derived.Test.YtlgpnjbhmoomfaaKJ
namespace Go.Proofs.Ytlgpnjbhmoomfaa
open Go.ChangeShapes Go.WideShapes Go.ChangeAt Go.RowKit Go.Deep

theorem ints_reads : Try.prog.readableRec 51 = true := by kernel_rfl
theorem ints_row : 51 < Try.prog.types.size := of_decide_eq_true (by kernel_rfl)
/-- A list of whole numbers that came in. -/
theorem open_ints' {H : Type} {enc : TypeId × Value → H} {w : World} {v : Value} {d : DataW H} {ps : List MemPlace} (hv : ∃ a len cap, v = .slice a len cap) (h : DataW.Trod enc Try.prog w 0 (fun _ => true) true 51 v d ps) : ∃ xs, KI.IsL w w.heap.size v xs := by
  obtain ⟨a0, len0, cap0, rfl⟩ := hv
  obtain ⟨fuel, hf⟩ := h
  have hf' : DataW.trod enc Try.prog w 0 (fun _ => true) true fuel 51 [Value.slice a0 len0 cap0] = some (d, ps) := by simpa [Value.cells] using hf
  obtain ⟨v, xs, h1, h2, _⟩ := Lk.opened (K := KI) (fun _ => True) cells3 (fun fuel cs x h => by
    obtain ⟨k, e, _, hw⟩ := DataW.trod_int Try.underlying3 h
    exact ⟨k, e, int_fits hw, trivial⟩) hf'
  simp only [List.cons.injEq, and_true] at h1
  subst h1
  exact ⟨xs, h2⟩
end Go.Proofs.Ytlgpnjbhmoomfaa

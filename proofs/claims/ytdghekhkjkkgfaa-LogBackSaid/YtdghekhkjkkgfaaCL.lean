/- How a log that came in is opened. -/
import Derived.Test.YtdghekhkjkkgfaaCO
import Derived.Test.YtdghekhkjkkgfaaVA
namespace Go.Proofs.Ytdghekhkjkkgfaa
open Go.ChangeShapes Go.WideShapes Go.ChangeAt Go.RowKit Go.Deep

theorem celt24 : Try.prog.cellsOf 24 = 3 := by kernel_rfl
theorem celt22 : Try.prog.cellsOf 22 = 1 := by kernel_rfl
theorem log_reads : Try.prog.readableRec 24 = true := by kernel_rfl
theorem log_row : 24 < Try.prog.types.size := of_decide_eq_true (by kernel_rfl)
set_option maxRecDepth 100000 in
/-- A log that came in. -/
theorem open_log {H : Type} {enc : TypeId × Value → H} {W w : World} {r : Reach} {base : Nat} {v : Value} {d : DataW H} {ps : List MemPlace} (hv : Value.okWide Try.prog W r base 24 v) (h : DataW.Trod enc Try.prog w 0 (fun _ => true) true 24 v d ps) :
    ∃ (rm l : Int) (A : Option Addr) (c : Nat) (xs : List Ch), v = lgV rm l A xs.length c ∧ KC.IsL w w.heap.size (.slice A xs.length c) xs := by
  obtain ⟨ca, rfl, hca⟩ := okWide_struct Try.underlying24 hv
  obtain ⟨fuel, hf0⟩ := h
  have hcs : (Value.agg ca).cells = ca := by simp [Value.cells]
  rw [hcs] at hf0
  obtain ⟨hl, n, hf⟩ := fieldz Try.underlying24 hf0
  rw [celt24] at hl
  obtain ⟨cl⟩ := ca
  match cl, hl with
  | [c0, c1, c2], _ =>
    have g0 := hf 0 { name := "Room", type := 3, offset := 0, embedded := false, tag := "", pkgPath := "", byteOffset := 0 } rfl
    have g1 := hf 1 { name := "Last", type := 3, offset := 1, embedded := false, tag := "", pkgPath := "", byteOffset := 8 } rfl
    have g2 := hf 2 { name := "List", type := 22, offset := 2, embedded := false, tag := "", pkgPath := "", byteOffset := 16 } rfl
    simp only [celi3, celt22, List.drop_zero, List.drop_succ_cons, List.take_succ_cons, List.take_zero] at g0 g1 g2
    obtain ⟨k0, rfl, f0⟩ := one_int' g0
    obtain ⟨k1, rfl, f1⟩ := one_int' g1
    obtain ⟨y, hy⟩ := g2
    obtain ⟨v, xs, e, hx⟩ := cs_changes hy
    simp only [List.cons.injEq, and_true] at e
    subst e
    obtain ⟨A, c, rfl, _⟩ := hx.shape
    exact ⟨k0, k1, A, c, xs, rfl, hx⟩
end Go.Proofs.Ytdghekhkjkkgfaa

/- How a cell and a list of whole numbers that came in are opened. -/
import Derived.Test.YtlgpnjbhmoomfaaCB
import Derived.Test.YtlgpnjbhmoomfaaGA
import Derived.Test.YtlgpnjbhmoomfaaKJ
import Derived.OpenVars
namespace Go.Proofs.Ytlgpnjbhmoomfaa
open Go.ChangeShapes Go.WideShapes Go.ChangeAt Go.RowKit Go.Deep

theorem celi3 : Try.prog.cellsOf 3 = 1 := by kernel_rfl
theorem celi62 : Try.prog.cellsOf 62 = 3 := by kernel_rfl
theorem ints_reads : Try.prog.readableRec 51 = true := by kernel_rfl
theorem ints_row : 51 < Try.prog.types.size := of_decide_eq_true (by kernel_rfl)
theorem cell_reads : Try.prog.readableRec 62 = true := by kernel_rfl
theorem cell_row : 62 < Try.prog.types.size := of_decide_eq_true (by kernel_rfl)
/-- A struct's fields that came in, each read by itself. -/
theorem fieldz {H : Type} {enc : TypeId × Value → H} {w : World} {fuel : Nat} {t : TypeId} {fs : Array Field} {cs : List Value} {x : DataW H × List MemPlace} (ht : Try.prog.underlying t = some (.struct fs)) (h : DataW.trod enc Try.prog w 0 (fun _ => true) true fuel t cs = some x) :
    cs.length = Try.prog.cellsOf t ∧ ∃ n, ∀ (i : Nat) (f : Field), fs[i]? = some f → ∃ y, DataW.trod enc Try.prog w 0 (fun _ => true) true n f.type ((cs.drop f.offset).take (Try.prog.cellsOf f.type)) = some y := by
  obtain ⟨xs, n, _, _, hl, hlen, hf⟩ := DataW.trod_struct ht h
  refine ⟨hl, n, fun i f hi => ?_⟩
  have hi' : i < xs.length := by
    rw [hlen]
    exact (Array.getElem?_eq_some_iff.1 hi).1
  exact ⟨xs[i], by rw [hf i f hi, List.getElem?_eq_getElem hi']⟩
theorem one_int' {H : Type} {enc : TypeId × Value → H} {w : World} {n : Nat} {c : Value} (h : ∃ y, DataW.trod enc Try.prog w 0 (fun _ => true) true n 3 [c] = some y) : ∃ k, c = .int .i64 k ∧ fits k := by
  obtain ⟨y, hy⟩ := h
  obtain ⟨k, e, _, hw⟩ := DataW.trod_int Try.underlying3 hy
  simp only [List.cons.injEq, and_true] at e
  exact ⟨k, e, int_fits hw⟩
/-- A list of whole numbers that came in. -/
theorem open_ints' {H : Type} {enc : TypeId × Value → H} {w : World} {v : Value} {d : DataW H} {ps : List MemPlace} (hv : ∃ a len cap, v = .slice a len cap) (h : DataW.Trod enc Try.prog w 0 (fun _ => true) true 51 v d ps) : ∃ xs, KI.IsL w w.heap.size v xs := by
  obtain ⟨a0, len0, cap0, rfl⟩ := hv
  obtain ⟨fuel, hf⟩ := h
  have hf' : DataW.trod enc Try.prog w 0 (fun _ => true) true fuel 51 [Value.slice a0 len0 cap0] = some (d, ps) := by simpa [Value.cells] using hf
  obtain ⟨v, xs, h1, h2, _⟩ := Lk.opened (K := KI) (fun _ => True) celi3 (fun fuel cs x h => by
    obtain ⟨k, e, _, hw⟩ := DataW.trod_int Try.underlying3 h
    exact ⟨k, e, int_fits hw, trivial⟩) hf'
  simp only [List.cons.injEq, and_true] at h1
  subst h1
  exact ⟨xs, h2⟩
set_option maxRecDepth 100000 in
/-- A cell that came in. -/
theorem open_cell {H : Type} {enc : TypeId × Value → H} {W w : World} {r : Reach} {base : Nat} {v : Value} {d : DataW H} {ps : List MemPlace} (hv : Value.okWide Try.prog W r base 62 v) (h : DataW.Trod enc Try.prog w 0 (fun _ => true) true 62 v d ps) : ∃ p : Ce, v = p.v ∧ p.Fit := by
  obtain ⟨ca, rfl, hca⟩ := okWide_struct Try.underlying62 hv
  obtain ⟨fuel, hf0⟩ := h
  obtain ⟨hl, n, hf⟩ := fieldz Try.underlying62 hf0
  have hcs : (Value.agg ca).cells = ca := by simp [Value.cells]
  rw [hcs] at hl hf
  rw [celi62] at hl
  match ca, hl with
  | ⟨[c0, c1, c2]⟩, _ =>
    have g0 := hf 0 { name := "Cap", type := 3, offset := 0, embedded := false, tag := "", pkgPath := "", byteOffset := 0 } rfl
    have g1 := hf 1 { name := "Vol", type := 3, offset := 1, embedded := false, tag := "", pkgPath := "", byteOffset := 8 } rfl
    have g2 := hf 2 { name := "Ver", type := 3, offset := 2, embedded := false, tag := "", pkgPath := "", byteOffset := 16 } rfl
    simp only [celi3, List.drop_zero, List.drop_succ_cons, List.take_succ_cons, List.take_zero] at g0 g1 g2
    obtain ⟨k0, rfl, f0⟩ := one_int' g0
    obtain ⟨k1, rfl, f1⟩ := one_int' g1
    obtain ⟨k2, rfl, f2⟩ := one_int' g2
    exact ⟨⟨k0, k1, k2⟩, rfl, ⟨f0, f1, f2⟩⟩
end Go.Proofs.Ytlgpnjbhmoomfaa

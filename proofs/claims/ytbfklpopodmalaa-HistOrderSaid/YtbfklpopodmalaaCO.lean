/- How histories and calls that came in are opened. -/
import Derived.Test.YtbfklpopodmalaaCB
import Derived.Test.YtbfklpopodmalaaHB
import Derived.OpenVars
namespace Go.Proofs.Ytbfklpopodmalaa
open Go.ChangeShapes Go.WideShapes Go.ChangeAt Go.RowKit Go.Deep
set_option maxRecDepth 100000 in
theorem celi3 : Try.prog.cellsOf 3 = 1 := by kernel_rfl
set_option maxRecDepth 100000 in
theorem cele : Try.prog.cellsOf 35 = 4 := by kernel_rfl
set_option maxRecDepth 100000 in
theorem celc : Try.prog.cellsOf 31 = 2 := by kernel_rfl
set_option maxRecDepth 100000 in
theorem events_reads : Try.prog.readableRec 22 = true := by kernel_rfl
set_option maxRecDepth 100000 in
theorem events_row : 22 < Try.prog.types.size := of_decide_eq_true (by kernel_rfl)
set_option maxRecDepth 100000 in
theorem call_reads : Try.prog.readableRec 31 = true := by kernel_rfl
set_option maxRecDepth 100000 in
theorem call_row : 31 < Try.prog.types.size := of_decide_eq_true (by kernel_rfl)

set_option maxRecDepth 100000 in
/-- A struct's fields that came in, each read by itself. -/
theorem fieldz {H : Type} {enc : TypeId × Value → H} {w : World} {fuel : Nat} {t : TypeId} {fs : Array Field} {cs : List Value} {x : DataW H × List MemPlace} (ht : Try.prog.underlying t = some (.struct fs)) (h : DataW.trod enc Try.prog w 0 (fun _ => true) true fuel t cs = some x) :
    cs.length = Try.prog.cellsOf t ∧ ∃ n, ∀ (i : Nat) (f : Field), fs[i]? = some f → ∃ y, DataW.trod enc Try.prog w 0 (fun _ => true) true n f.type ((cs.drop f.offset).take (Try.prog.cellsOf f.type)) = some y := by
  obtain ⟨xs, n, _, _, hl, hlen, hf⟩ := DataW.trod_struct ht h
  refine ⟨hl, n, fun i f hi => ?_⟩
  have hi' : i < xs.length := by
    rw [hlen]
    exact (Array.getElem?_eq_some_iff.1 hi).1
  exact ⟨xs[i], by rw [hf i f hi, List.getElem?_eq_getElem hi']⟩
set_option maxRecDepth 100000 in
theorem one_int' {H : Type} {enc : TypeId × Value → H} {w : World} {n : Nat} {c : Value} (h : ∃ y, DataW.trod enc Try.prog w 0 (fun _ => true) true n 3 [c] = some y) : ∃ k, c = .int .i64 k ∧ fits k := by
  obtain ⟨y, hy⟩ := h
  obtain ⟨k, e, _, hw⟩ := DataW.trod_int Try.underlying3 hy
  simp only [List.cons.injEq, and_true] at e
  exact ⟨k, e, int_fits hw⟩
set_option maxRecDepth 100000 in
theorem event_cs {H : Type} {enc : TypeId × Value → H} {w : World} {fuel : Nat} {cs : List Value} {x : DataW H × List MemPlace} (h : DataW.trod enc Try.prog w 0 (fun _ => true) true fuel 35 cs = some x) : ∃ q : Ev, cs = evCells q ∧ KE.ok q := by
  obtain ⟨hl, n, hf⟩ := fieldz Try.underlying35 h
  rw [cele] at hl
  match cs, hl with
  | [c0, c1, c2, c3], _ =>
    have g0 := hf 0 { name := "Kind", type := 3, offset := 0, embedded := false, tag := "", pkgPath := "", byteOffset := 0 } rfl
    have g1 := hf 1 { name := "Who", type := 3, offset := 1, embedded := false, tag := "", pkgPath := "", byteOffset := 8 } rfl
    have g2 := hf 2 { name := "Num", type := 3, offset := 2, embedded := false, tag := "", pkgPath := "", byteOffset := 16 } rfl
    have g3 := hf 3 { name := "At", type := 3, offset := 3, embedded := false, tag := "", pkgPath := "", byteOffset := 24 } rfl
    simp only [celi3, List.drop_zero, List.drop_succ_cons, List.take_succ_cons, List.take_zero] at g0 g1 g2 g3
    obtain ⟨k0, rfl, f0⟩ := one_int' g0
    obtain ⟨k1, rfl, f1⟩ := one_int' g1
    obtain ⟨k2, rfl, f2⟩ := one_int' g2
    obtain ⟨k3, rfl, f3⟩ := one_int' g3
    exact ⟨⟨k0, k1, k2, k3⟩, rfl, f0, f1, f2, f3⟩
set_option maxRecDepth 100000 in
theorem call_cs {H : Type} {enc : TypeId × Value → H} {w : World} {fuel : Nat} {cs : List Value} {x : DataW H × List MemPlace} (h : DataW.trod enc Try.prog w 0 (fun _ => true) true fuel 31 cs = some x) : ∃ q : Int × Int, cs = clCells q ∧ fits q.1 ∧ fits q.2 := by
  obtain ⟨hl, n, hf⟩ := fieldz Try.underlying31 h
  rw [celc] at hl
  match cs, hl with
  | [c0, c1], _ =>
    have g0 := hf 0 { name := "Who", type := 3, offset := 0, embedded := false, tag := "", pkgPath := "", byteOffset := 0 } rfl
    have g1 := hf 1 { name := "Num", type := 3, offset := 1, embedded := false, tag := "", pkgPath := "", byteOffset := 8 } rfl
    simp only [celi3, List.drop_zero, List.drop_succ_cons, List.take_succ_cons, List.take_zero] at g0 g1
    obtain ⟨k0, rfl, f0⟩ := one_int' g0
    obtain ⟨k1, rfl, f1⟩ := one_int' g1
    exact ⟨(k0, k1), rfl, f0, f1⟩
set_option maxRecDepth 100000 in
/-- A list that came in. -/
theorem open_events {H : Type} {enc : TypeId × Value → H} {w : World} {v : Value} {d : DataW H} {ps : List MemPlace} (hv : ∃ a len cap, v = .slice a len cap) (h : DataW.Trod enc Try.prog w 0 (fun _ => true) true 22 v d ps) : ∃ xs, KE.IsL w w.heap.size v xs := by
  obtain ⟨a0, len0, cap0, rfl⟩ := hv
  obtain ⟨fuel, hf⟩ := h
  have hf' : DataW.trod enc Try.prog w 0 (fun _ => true) true fuel 22 [Value.slice a0 len0 cap0] = some (d, ps) := by simpa [Value.cells] using hf
  obtain ⟨v, xs, h1, h2, _⟩ := Lk.opened (K := KE) (fun _ => True) cele (fun fuel cs x h => by
    obtain ⟨q, e, h1⟩ := event_cs h
    exact ⟨q, e, h1, trivial⟩) hf'
  simp only [List.cons.injEq, and_true] at h1
  subst h1
  exact ⟨xs, h2⟩
set_option maxRecDepth 100000 in
/-- A call that came in. -/
theorem open_call {H : Type} {enc : TypeId × Value → H} {W w : World} {r : Reach} {base : Nat} {v : Value} {d : DataW H} {ps : List MemPlace} (hv : Value.okWide Try.prog W r base 31 v) (h : DataW.Trod enc Try.prog w 0 (fun _ => true) true 31 v d ps) : ∃ a b : Int, v = .agg #[.int .i64 a, .int .i64 b] := by
  obtain ⟨ca, rfl, hca⟩ := okWide_struct Try.underlying31 hv
  obtain ⟨fuel, hf0⟩ := h
  obtain ⟨q, e, -, -⟩ := call_cs hf0
  have hcs : (Value.agg ca).cells = ca := by simp [Value.cells]
  rw [hcs] at e
  refine ⟨q.1, q.2, ?_⟩
  rw [show ca = #[.int .i64 q.1, .int .i64 q.2] by cases ca; simpa [clCells] using e]
end Go.Proofs.Ytbfklpopodmalaa

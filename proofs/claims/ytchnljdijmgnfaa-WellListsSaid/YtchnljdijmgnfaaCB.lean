/- What all proofs of this seat's statements share: the set-up, and how a list of pairs that came in is opened. -/
import Derived.Test.YtchnljdijmgnfaaRows
import Derived.Test.YtchnljdijmgnfaaLS
import Derived.ProofKit
import Derived.OpenShut
import Derived.ShutString
import Derived.ChangeMaps5
import Derived.Deep.Slices
import Derived.Deep.SlicePairs
import Derived.Lib.SmallJoins
import Derived.Carry
import Derived.ChangeSlices
namespace Go.Proofs.Ytchnljdijmgnfaa
open Go.ChangeShapes Go.WideShapes Go.ChangeAt Go.RowKit Go.Deep Go.Joins

theorem own : ownKnob Try.prog.godebug = none := by kernel_rfl
theorem laidOut : laidOutB Try.prog = true := by kernel_rfl
theorem cells3 : Try.prog.cellsOf 3 = 1 := by kernel_rfl
theorem int_fits {n : Int} (h : (Lit.int .i64 n).wf = true) : fits n := by
  have : -9223372036854775808 ≤ n ∧ n ≤ 9223372036854775807 := by simpa [Lit.wf, IntKind.min, IntKind.max, IntKind.signed, IntKind.bits] using h
  exact this
theorem int_reads {H : Type} {enc : TypeId × Value → H} {w : World} {base : Nat} {spare : Nat → Bool} {held : Bool} {n : Int} (h : (Lit.int .i64 n).wf = true) : ∃ m, DataW.trod enc Try.prog w base spare held m 3 [.int .i64 n] = some (.lit (.int .i64 n), []) := by
  obtain ⟨m, hm⟩ := shut_int (enc := enc) (w := w) (base := base) (spare := spare) (held := held) Try.underlying3 h
  exact ⟨m, by simpa [Value.cells] using hm⟩
theorem spans_reads : Try.prog.readableRec 30 = true := by kernel_rfl
theorem spans_row : 30 < Try.prog.types.size := of_decide_eq_true (by kernel_rfl)
theorem cells23 : Try.prog.cellsOf 23 = 2 := by kernel_rfl
/-- A list of pairs that came in. -/
theorem open_spans {H : Type} {enc : TypeId × Value → H} {w : World} {v : Value} {d : DataW H} {ps : List MemPlace} (hv : ∃ a len cap, v = .slice a len cap)
    (h : DataW.Trod enc Try.prog w 0 (fun _ => true) true 30 v d ps) : ∃ xs, IsL w w.heap.size v xs := by
  obtain ⟨a0, len0, cap0, rfl⟩ := hv
  obtain ⟨fuel, hf⟩ := h
  have hf' : DataW.trod enc Try.prog w 0 (fun _ => true) true fuel 30 [.slice a0 len0 cap0] = some (d, ps) := by simpa [Value.cells] using hf
  rcases open_slice_pairs Try.underlying30 Try.underlying23 cells23 rfl rfl cells3 cells3 hf' with ⟨hcs, _⟩ | ⟨a, len, cap, m, n, V0, V1, D0, D1, P0, P1, hcs, _, hlc, hm, hmm, _, hx⟩
  · simp only [List.cons.injEq, Value.slice.injEq, and_true] at hcs
    obtain ⟨rfl, rfl, rfl⟩ := hcs
    exact ⟨[], IsL.nil _ _ _ _⟩
  · simp only [List.cons.injEq, Value.slice.injEq, and_true] at hcs
    obtain ⟨rfl, rfl, rfl⟩ := hcs
    rw [if_pos rfl] at hmm
    subst hmm
    have each : ∀ i, ∃ x : Int × Int, i < m → w.cell? (a.add (i * 2)) = some (.int .i64 x.1) ∧ w.cell? (a.add (i * 2 + 1)) = some (.int .i64 x.2) ∧ fits x.1 ∧ fits x.2 := by
      intro i
      by_cases hi : i < m
      · obtain ⟨c0, c1, t0, t1⟩ := hx i hi
        obtain ⟨x0, e0, _, w0⟩ := DataW.trod_int Try.underlying3 t0
        obtain ⟨x1, e1, _, w1⟩ := DataW.trod_int Try.underlying3 t1
        simp only [List.cons.injEq, and_true] at e0 e1
        exact ⟨(x0, x1), fun _ => ⟨by rw [c0, e0], by rw [c1, e1], int_fits w0, int_fits w1⟩⟩
      · exact ⟨(0, 0), fun h => absurd h hi⟩
    have hF := fun i => Classical.choose_spec (each i)
    generalize hFd : (fun i => Classical.choose (each i)) = F at *
    have hG : ∀ i, i < m → w.cell? (a.add (i * 2)) = some (.int .i64 (F i).1) ∧ w.cell? (a.add (i * 2 + 1)) = some (.int .i64 (F i).2) ∧ fits (F i).1 ∧ fits (F i).2 := fun i hi => by
      have := hF i hi
      rw [← hFd]
      exact this
    have hlen : ((List.range len0).map F).length = len0 := by simp
    have hget : ∀ i, i < len0 → ((List.range len0).map F).getD i (0, 0) = F i := fun i hi => by
      rw [List.getD_eq_getElem?_getD, List.getElem?_map, List.getElem?_range hi]
      rfl
    refine ⟨(List.range len0).map F, ⟨some a, m, by rw [hlen], by omega, fun h0 => ?_⟩, fun x hxm => ?_, by unfold maxLen at hm; omega⟩
    · rw [hlen] at h0
      obtain ⟨b, off, spot⟩ := a
      have h00 := (hG 0 (by omega)).1
      have hspot : spot = none := by simpa [Addr.add] using World.cell?_spot h00
      subst hspot
      refine ⟨b, off, rfl, ?_, fun i hi => ?_⟩
      · have e := World.block_lt_of_cell? w _ h00
        simpa [Addr.add] using e
      · rw [hlen] at hi
        have e := hG i (by omega)
        rw [Go.WideShapes.add_plain, Go.WideShapes.add_plain] at e
        rw [hget i hi, Nat.add_assoc]
        exact ⟨e.1, e.2.1⟩
    · obtain ⟨i, hi, rfl⟩ := List.mem_map.1 hxm
      have hi2 := List.mem_range.1 hi
      exact (hG i (by omega)).2.2
theorem places_reads : Try.prog.readableRec 45 = true := by kernel_rfl
theorem places_row : 45 < Try.prog.types.size := of_decide_eq_true (by kernel_rfl)
theorem cells38 : Try.prog.cellsOf 38 = 2 := by kernel_rfl
/-- A list of pairs that came in. -/
theorem open_places {H : Type} {enc : TypeId × Value → H} {w : World} {v : Value} {d : DataW H} {ps : List MemPlace} (hv : ∃ a len cap, v = .slice a len cap)
    (h : DataW.Trod enc Try.prog w 0 (fun _ => true) true 45 v d ps) : ∃ xs, IsL w w.heap.size v xs := by
  obtain ⟨a0, len0, cap0, rfl⟩ := hv
  obtain ⟨fuel, hf⟩ := h
  have hf' : DataW.trod enc Try.prog w 0 (fun _ => true) true fuel 45 [.slice a0 len0 cap0] = some (d, ps) := by simpa [Value.cells] using hf
  rcases open_slice_pairs Try.underlying45 Try.underlying38 cells38 rfl rfl cells3 cells3 hf' with ⟨hcs, _⟩ | ⟨a, len, cap, m, n, V0, V1, D0, D1, P0, P1, hcs, _, hlc, hm, hmm, _, hx⟩
  · simp only [List.cons.injEq, Value.slice.injEq, and_true] at hcs
    obtain ⟨rfl, rfl, rfl⟩ := hcs
    exact ⟨[], IsL.nil _ _ _ _⟩
  · simp only [List.cons.injEq, Value.slice.injEq, and_true] at hcs
    obtain ⟨rfl, rfl, rfl⟩ := hcs
    rw [if_pos rfl] at hmm
    subst hmm
    have each : ∀ i, ∃ x : Int × Int, i < m → w.cell? (a.add (i * 2)) = some (.int .i64 x.1) ∧ w.cell? (a.add (i * 2 + 1)) = some (.int .i64 x.2) ∧ fits x.1 ∧ fits x.2 := by
      intro i
      by_cases hi : i < m
      · obtain ⟨c0, c1, t0, t1⟩ := hx i hi
        obtain ⟨x0, e0, _, w0⟩ := DataW.trod_int Try.underlying3 t0
        obtain ⟨x1, e1, _, w1⟩ := DataW.trod_int Try.underlying3 t1
        simp only [List.cons.injEq, and_true] at e0 e1
        exact ⟨(x0, x1), fun _ => ⟨by rw [c0, e0], by rw [c1, e1], int_fits w0, int_fits w1⟩⟩
      · exact ⟨(0, 0), fun h => absurd h hi⟩
    have hF := fun i => Classical.choose_spec (each i)
    generalize hFd : (fun i => Classical.choose (each i)) = F at *
    have hG : ∀ i, i < m → w.cell? (a.add (i * 2)) = some (.int .i64 (F i).1) ∧ w.cell? (a.add (i * 2 + 1)) = some (.int .i64 (F i).2) ∧ fits (F i).1 ∧ fits (F i).2 := fun i hi => by
      have := hF i hi
      rw [← hFd]
      exact this
    have hlen : ((List.range len0).map F).length = len0 := by simp
    have hget : ∀ i, i < len0 → ((List.range len0).map F).getD i (0, 0) = F i := fun i hi => by
      rw [List.getD_eq_getElem?_getD, List.getElem?_map, List.getElem?_range hi]
      rfl
    refine ⟨(List.range len0).map F, ⟨some a, m, by rw [hlen], by omega, fun h0 => ?_⟩, fun x hxm => ?_, by unfold maxLen at hm; omega⟩
    · rw [hlen] at h0
      obtain ⟨b, off, spot⟩ := a
      have h00 := (hG 0 (by omega)).1
      have hspot : spot = none := by simpa [Addr.add] using World.cell?_spot h00
      subst hspot
      refine ⟨b, off, rfl, ?_, fun i hi => ?_⟩
      · have e := World.block_lt_of_cell? w _ h00
        simpa [Addr.add] using e
      · rw [hlen] at hi
        have e := hG i (by omega)
        rw [Go.WideShapes.add_plain, Go.WideShapes.add_plain] at e
        rw [hget i hi, Nat.add_assoc]
        exact ⟨e.1, e.2.1⟩
    · obtain ⟨i, hi, rfl⟩ := List.mem_map.1 hxm
      have hi2 := List.mem_range.1 hi
      exact (hG i (by omega)).2.2
end Go.Proofs.Ytchnljdijmgnfaa

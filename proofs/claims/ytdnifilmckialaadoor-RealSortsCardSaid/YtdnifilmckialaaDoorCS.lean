/- What the cards over a list of floats share: how the list is opened. -/
import Derived.Test.YtdnifilmckialaaDoorCB
import Derived.Test.YtdnifilmckialaaDoorWF
import Derived.Deep.Slices
namespace Go.Proofs.YtdnifilmckialaaDoor
open Go.ChangeShapes Go.WideShapes Go.ChangeAt Go.RowKit

theorem laidOut : laidOutB Tryd.prog = true := by kernel_rfl
theorem cells22 : Tryd.prog.cellsOf 22 = 1 := by kernel_rfl
theorem trod_float {H : Type} {enc : TypeId × Value → H} {P : Program} {w : World} {base : Nat} {spare : Nat → Bool} {held : Bool} {fuel : Nat} {t : TypeId} {cs : List Value} {x : DataW H × List MemPlace} {k : FloatKind} (ht : P.underlying t = some (.float k)) (h : DataW.trod enc P w base spare held fuel t cs = some x) : ∃ n, cs = [.float k n] ∧ (Lit.float k n).wf = true := by
  cases fuel with
  | zero => simp [DataW.trod] at h
  | succ n =>
    unfold DataW.trod at h
    rw [ht] at h
    split at h <;> simp_all
/-- A list of floats that came in: empty, or its numbers. -/
theorem open_floats {H : Type} {enc : TypeId × Value → H} {w : World} {base : Nat} {held : Bool} {fuel : Nat} {cs : List Value} {x : DataW H × List MemPlace} (h : DataW.trod enc Tryd.prog w base (fun _ => true) held fuel 39 cs = some x) :
    (∃ a cap, cs = [.slice a 0 cap]) ∨ ∃ (b off len cap : Nat) (xs : List Nat), cs = [.slice (some ⟨b, off, none⟩) len cap] ∧ len ≤ 9223372036854775807 ∧ xs.length = len ∧ (∀ x ∈ xs, x < 18446744073709551616) ∧ Cells w b off xs ∧ b < w.heap.size := by
  rcases Go.Deep.open_slice1 Tryd.underlying39 cells22 h with ⟨h0, _⟩ | ⟨a, len, cap, m, n, V, D, Pl, rfl, hb, hl, hm, hmm, hx, hV⟩
  · exact Or.inl ⟨none, 0, h0⟩
  · by_cases hz : len = 0
    · subst hz
      exact Or.inl ⟨some a, cap, rfl⟩
    · right
      have hlm : len ≤ m := by rw [hmm]; exact hl
      obtain ⟨Z, hZ⟩ := Go.Deep.choose_lt (α := Nat) (n := len) (p := fun i z => V i = .float .f64 z ∧ z < 18446744073709551616) (fun i hi => by
        obtain ⟨_, h2⟩ := hV i (by omega)
        obtain ⟨z, hz, hw⟩ := trod_float Tryd.underlying22 h2
        refine ⟨z, by simpa using hz, by simpa [Lit.wf] using hw⟩)
      obtain ⟨b, off, spot⟩ := a
      have h00 := (hV 0 (by omega)).1
      have hspot : spot = none := by simpa [Addr.add] using World.cell?_spot h00
      subst hspot
      refine ⟨b, off, len, cap, (List.range len).map Z, rfl, by unfold maxLen at hm; omega, by simp, ?_, ?_, ?_⟩
      · intro x hx
        obtain ⟨i, hi, rfl⟩ := List.mem_map.1 hx
        exact (hZ i (List.mem_range.1 hi)).2
      · intro i hi
        have hi' : i < len := by simpa using hi
        have e := (hV i (by omega)).1
        rw [Go.WideShapes.add_plain] at e
        rw [e, (hZ i hi').1]
        simp [List.getD, hi']
      · have e := World.block_lt_of_cell? w _ h00
        simpa [Addr.add] using e
end Go.Proofs.YtdnifilmckialaaDoor

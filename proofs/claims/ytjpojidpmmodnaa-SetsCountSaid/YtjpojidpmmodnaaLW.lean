/- Words for a list of whole numbers in memory, nil or empty or not. -/
import Derived.Test.YtjpojidpmmodnaaNA
namespace Go.Proofs.Ytjpojidpmmodnaa
open Go.RowKit

/-- A slice value whose numbers are a list, in memory below a block. -/
def IsL (w : World) (B : Nat) (v : Value) (xs : List Int) : Prop :=
  (∃ A cap, v = .slice A xs.length cap ∧ xs.length ≤ cap ∧ (0 < xs.length → ∃ b off, A = some ⟨b, off, none⟩ ∧ b < B ∧ ∀ i, i < xs.length → w.cell? ⟨b, off + i, none⟩ = some (.int .i64 (xs.getD i 0)))) ∧
    (∀ x ∈ xs, fits x) ∧ xs.length ≤ 9223372036854775807

theorem IsL.below {w w' : World} {B : Nat} {v : Value} {xs : List Int} (h : IsL w B v xs) (hb : Below B w w') : IsL w' B v xs := by
  obtain ⟨⟨A, cap, rfl, hc, hA⟩, hf, hl⟩ := h
  refine ⟨⟨A, cap, rfl, hc, fun h0 => ?_⟩, hf, hl⟩
  obtain ⟨b, off, rfl, hbB, hcell⟩ := hA h0
  exact ⟨b, off, rfl, hbB, fun i hi => (hb.cell (p := ⟨b, off + i, none⟩) hbB).trans (hcell i hi)⟩
theorem IsL.more {w : World} {B B' : Nat} {v : Value} {xs : List Int} (h : IsL w B v xs) (hB : B ≤ B') : IsL w B' v xs := by
  obtain ⟨⟨A, cap, rfl, hc, hA⟩, hf, hl⟩ := h
  refine ⟨⟨A, cap, rfl, hc, fun h0 => ?_⟩, hf, hl⟩
  obtain ⟨b, off, rfl, hbB, hcell⟩ := hA h0
  exact ⟨b, off, rfl, by omega, hcell⟩
theorem IsL.drewN {w : World} {B : Nat} {v : Value} {xs : List Int} (h : IsL w B v xs) (d : Nat) : IsL (w.drewN d) B v xs := h
theorem IsL.nil (w : World) (B : Nat) (A : Option Addr) (cap : Nat) : IsL w B (.slice A 0 cap) [] :=
  ⟨⟨A, cap, rfl, Nat.zero_le _, fun h => absurd h (by simp)⟩, fun x hx => by simp at hx, by simp⟩
theorem below_drewN {B : Nat} {a w : World} (h : Below B a w) (d : Nat) : Below B a (w.drewN d) := ⟨h.os, h.tape, h.output, h.size, h.block⟩
theorem getD_fits {xs : List Int} (h : ∀ x ∈ xs, fits x) (i : Nat) : fits (xs.getD i 0) := by
  rw [List.getD_eq_getElem?_getD]
  by_cases hi : i < xs.length
  · rw [List.getElem?_eq_getElem hi]; exact h _ (List.getElem_mem hi)
  · rw [List.getElem?_eq_none (by omega)]; decide
end Go.Proofs.Ytjpojidpmmodnaa

/- Words for a list of pairs of whole numbers in memory, nil or empty or not; and for one that the call itself has made. -/
import Derived.Test.YtchnljdijmgnfaaSA
import Derived.Maps.AppendAt
import Derived.Laws.OwnMore
import Derived.Deep.AppendLies
import Derived.Deep.Onto
import Derived.OwnWalk
import Derived.Deep.QuietTactic
import Derived.BigQuiet
import Derived.Deep.RegionHeld3
namespace Go.Proofs.Ytchnljdijmgnfaa
open Go.RowKit

/-- A slice value whose pairs are a list, in memory below a block. -/
def IsL (w : World) (B : Nat) (v : Value) (xs : List (Int × Int)) : Prop :=
  (∃ A cap, v = .slice A xs.length cap ∧ xs.length ≤ cap ∧ (0 < xs.length → ∃ b off, A = some ⟨b, off, none⟩ ∧ b < B ∧
      ∀ i, i < xs.length → w.cell? ⟨b, off + i * 2, none⟩ = some (.int .i64 (xs.getD i (0, 0)).1) ∧ w.cell? ⟨b, off + i * 2 + 1, none⟩ = some (.int .i64 (xs.getD i (0, 0)).2))) ∧
    (∀ x ∈ xs, fits x.1 ∧ fits x.2) ∧ xs.length ≤ 9223372036854775807

theorem IsL.below {w w' : World} {B : Nat} {v : Value} {xs : List (Int × Int)} (h : IsL w B v xs) (hb : Below B w w') : IsL w' B v xs := by
  obtain ⟨⟨A, cap, rfl, hc, hA⟩, hf, hl⟩ := h
  refine ⟨⟨A, cap, rfl, hc, fun h0 => ?_⟩, hf, hl⟩
  obtain ⟨b, off, rfl, hbB, hcell⟩ := hA h0
  exact ⟨b, off, rfl, hbB, fun i hi => ⟨(hb.cell (p := ⟨b, off + i * 2, none⟩) hbB).trans (hcell i hi).1, (hb.cell (p := ⟨b, off + i * 2 + 1, none⟩) hbB).trans (hcell i hi).2⟩⟩
theorem IsL.more {w : World} {B B' : Nat} {v : Value} {xs : List (Int × Int)} (h : IsL w B v xs) (hB : B ≤ B') : IsL w B' v xs := by
  obtain ⟨⟨A, cap, rfl, hc, hA⟩, hf, hl⟩ := h
  refine ⟨⟨A, cap, rfl, hc, fun h0 => ?_⟩, hf, hl⟩
  obtain ⟨b, off, rfl, hbB, hcell⟩ := hA h0
  exact ⟨b, off, rfl, by omega, hcell⟩
theorem IsL.drewN {w : World} {B : Nat} {v : Value} {xs : List (Int × Int)} (h : IsL w B v xs) (d : Nat) : IsL (w.drewN d) B v xs := h
theorem IsL.nil (w : World) (B : Nat) (A : Option Addr) (cap : Nat) : IsL w B (.slice A 0 cap) [] :=
  ⟨⟨A, cap, rfl, Nat.zero_le _, fun h => absurd h (by simp)⟩, fun x hx => by simp at hx, by simp⟩
theorem IsL.then {w w' : World} {v : Value} {xs : List (Int × Int)} (h : IsL w w.heap.size v xs) (hb : Below w.heap.size w w') : IsL w' w'.heap.size v xs := (h.below hb).more hb.size
theorem below_drewN {B : Nat} {a w : World} (h : Below B a w) (d : Nat) : Below B a (w.drewN d) := ⟨h.os, h.tape, h.output, h.size, h.block⟩
theorem getD_fits {xs : List (Int × Int)} (h : ∀ x ∈ xs, fits x.1 ∧ fits x.2) (i : Nat) : fits (xs.getD i (0, 0)).1 ∧ fits (xs.getD i (0, 0)).2 := by
  rw [List.getD_eq_getElem?_getD]
  by_cases hi : i < xs.length
  · rw [List.getElem?_eq_getElem hi]; exact h _ (List.getElem_mem hi)
  · rw [List.getElem?_eq_none (by omega)]; decide
theorem take_getD (l : List (Int × Int)) (k : Nat) (h : k < l.length) : l.take (k + 1) = l.take k ++ [l.getD k (0, 0)] := by
  rw [List.take_succ_eq_append_getElem h, List.getD_eq_getElem?_getD, List.getElem?_eq_getElem h]
  rfl
theorem getD_mem (l : List (Int × Int)) (k : Nat) (h : k < l.length) : l.getD k (0, 0) ∈ l := by
  rw [List.getD_eq_getElem?_getD, List.getElem?_eq_getElem h]
  exact List.getElem_mem h
end Go.Proofs.Ytchnljdijmgnfaa

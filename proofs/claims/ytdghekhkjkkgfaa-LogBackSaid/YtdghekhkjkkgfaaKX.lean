/- Own blocks of a few cells, whatever they hold. -/
import Derived.Test.YtdghekhkjkkgfaaKJ
namespace Go.Proofs.Ytdghekhkjkkgfaa
open Go.RowKit

theorem ad_ne {a b c d : Nat} (h : a ≠ c ∨ b ≠ d) : (⟨a, b, none⟩ : Addr) ≠ ⟨c, d, none⟩ := by
  intro e
  injection e with e1 e2
  rcases h with h | h
  · exact h e1
  · exact h e2
/-- 2 cells of an own block. -/
def Cells2 (V : World) (D : Nat) (x0 x1 : Value) : Prop :=
  V.cell? ⟨D, 0, none⟩ = some x0 ∧ V.cell? ⟨D, 1, none⟩ = some x1 ∧
  V.frozen? ⟨D, 0, none⟩ = false ∧ V.frozen? ⟨D, 1, none⟩ = false ∧ D < V.heap.size
theorem Cells2.new (V : World) (t : TypeId) (x0 x1 : Value) : Cells2 (V.alloc (.cells #[x0, x1] t)) V.heap.size x0 x1 :=
  ⟨by rw [alloc_at]; rfl, by rw [alloc_at]; rfl, by simp, by simp, by simp⟩
theorem Cells2.below {V V' : World} {D : Nat} {x0 x1 : Value} (h : Cells2 V D x0 x1) (hb : Below V.heap.size V V') : Cells2 V' D x0 x1 := by
  obtain ⟨h0, h1, z0, z1, hs⟩ := h
  refine ⟨keep_cell hb h0, keep_cell hb h1, ?_, ?_, Nat.lt_of_lt_of_le hs hb.size⟩
  · rw [hb.frozen (p := ⟨D, 0, none⟩) hs]; exact z0
  · rw [hb.frozen (p := ⟨D, 1, none⟩) hs]; exact z1
theorem Cells2.set {V : World} {D : Nat} {x0 x1 : Value} (h : Cells2 V D x0 x1) (p0 p1 : Value) : Cells2 ((V.setCell ⟨D, 0, none⟩ p0).setCell ⟨D, 1, none⟩ p1) D p0 p1 := by
  obtain ⟨h0, h1, z0, z1, hs⟩ := h
  refine ⟨st_other (st_same (h0)) (ad_ne (.inr (by decide))), st_same (st_other (h1) (ad_ne (.inr (by decide)))), st_fz (st_fz (z0)), st_fz (st_fz (z1)), ?_⟩
  simpa using hs
theorem Cells2.apart {V : World} {D G : Nat} {x0 x1 : Value} (h : Cells2 V G x0 x1) (hne : D ≠ G) (p0 p1 : Value) : Cells2 ((V.setCell ⟨D, 0, none⟩ p0).setCell ⟨D, 1, none⟩ p1) G x0 x1 := by
  obtain ⟨h0, h1, z0, z1, hs⟩ := h
  refine ⟨st_other (st_other (h0) (ad_ne (.inl hne))) (ad_ne (.inl hne)), st_other (st_other (h1) (ad_ne (.inl hne))) (ad_ne (.inl hne)), st_fz (st_fz (z0)), st_fz (st_fz (z1)), ?_⟩
  simpa using hs
theorem cell_apart2 {V : World} {D : Nat} {a : Addr} {u : Value} (h : V.cell? a = some u) (hne : D ≠ a.block) (p0 p1 : Value) : ((V.setCell ⟨D, 0, none⟩ p0).setCell ⟨D, 1, none⟩ p1).cell? a = some u := st_other (st_other (h) (fun e => hne (by rw [← e]))) (fun e => hne (by rw [← e]))
theorem below_set2 {V w : World} {B D : Nat} (h : Below B w V) (hB : B ≤ D) (p0 p1 : Value) : Below B w ((V.setCell ⟨D, 0, none⟩ p0).setCell ⟨D, 1, none⟩ p1) := ((h.setCell hB _).setCell hB _)
/-- 3 cells of an own block. -/
def Cells3 (V : World) (D : Nat) (x0 x1 x2 : Value) : Prop :=
  V.cell? ⟨D, 0, none⟩ = some x0 ∧ V.cell? ⟨D, 1, none⟩ = some x1 ∧ V.cell? ⟨D, 2, none⟩ = some x2 ∧
  V.frozen? ⟨D, 0, none⟩ = false ∧ V.frozen? ⟨D, 1, none⟩ = false ∧ V.frozen? ⟨D, 2, none⟩ = false ∧ D < V.heap.size
theorem Cells3.new (V : World) (t : TypeId) (x0 x1 x2 : Value) : Cells3 (V.alloc (.cells #[x0, x1, x2] t)) V.heap.size x0 x1 x2 :=
  ⟨by rw [alloc_at]; rfl, by rw [alloc_at]; rfl, by rw [alloc_at]; rfl, by simp, by simp, by simp, by simp⟩
theorem Cells3.below {V V' : World} {D : Nat} {x0 x1 x2 : Value} (h : Cells3 V D x0 x1 x2) (hb : Below V.heap.size V V') : Cells3 V' D x0 x1 x2 := by
  obtain ⟨h0, h1, h2, z0, z1, z2, hs⟩ := h
  refine ⟨keep_cell hb h0, keep_cell hb h1, keep_cell hb h2, ?_, ?_, ?_, Nat.lt_of_lt_of_le hs hb.size⟩
  · rw [hb.frozen (p := ⟨D, 0, none⟩) hs]; exact z0
  · rw [hb.frozen (p := ⟨D, 1, none⟩) hs]; exact z1
  · rw [hb.frozen (p := ⟨D, 2, none⟩) hs]; exact z2
theorem Cells3.set {V : World} {D : Nat} {x0 x1 x2 : Value} (h : Cells3 V D x0 x1 x2) (p0 p1 p2 : Value) : Cells3 (((V.setCell ⟨D, 0, none⟩ p0).setCell ⟨D, 1, none⟩ p1).setCell ⟨D, 2, none⟩ p2) D p0 p1 p2 := by
  obtain ⟨h0, h1, h2, z0, z1, z2, hs⟩ := h
  refine ⟨st_other (st_other (st_same (h0)) (ad_ne (.inr (by decide)))) (ad_ne (.inr (by decide))), st_other (st_same (st_other (h1) (ad_ne (.inr (by decide))))) (ad_ne (.inr (by decide))), st_same (st_other (st_other (h2) (ad_ne (.inr (by decide)))) (ad_ne (.inr (by decide)))), st_fz (st_fz (st_fz (z0))), st_fz (st_fz (st_fz (z1))), st_fz (st_fz (st_fz (z2))), ?_⟩
  simpa using hs
theorem Cells3.apart {V : World} {D G : Nat} {x0 x1 x2 : Value} (h : Cells3 V G x0 x1 x2) (hne : D ≠ G) (p0 p1 p2 : Value) : Cells3 (((V.setCell ⟨D, 0, none⟩ p0).setCell ⟨D, 1, none⟩ p1).setCell ⟨D, 2, none⟩ p2) G x0 x1 x2 := by
  obtain ⟨h0, h1, h2, z0, z1, z2, hs⟩ := h
  refine ⟨st_other (st_other (st_other (h0) (ad_ne (.inl hne))) (ad_ne (.inl hne))) (ad_ne (.inl hne)), st_other (st_other (st_other (h1) (ad_ne (.inl hne))) (ad_ne (.inl hne))) (ad_ne (.inl hne)), st_other (st_other (st_other (h2) (ad_ne (.inl hne))) (ad_ne (.inl hne))) (ad_ne (.inl hne)), st_fz (st_fz (st_fz (z0))), st_fz (st_fz (st_fz (z1))), st_fz (st_fz (st_fz (z2))), ?_⟩
  simpa using hs
theorem cell_apart3 {V : World} {D : Nat} {a : Addr} {u : Value} (h : V.cell? a = some u) (hne : D ≠ a.block) (p0 p1 p2 : Value) : (((V.setCell ⟨D, 0, none⟩ p0).setCell ⟨D, 1, none⟩ p1).setCell ⟨D, 2, none⟩ p2).cell? a = some u := st_other (st_other (st_other (h) (fun e => hne (by rw [← e]))) (fun e => hne (by rw [← e]))) (fun e => hne (by rw [← e]))
theorem below_set3 {V w : World} {B D : Nat} (h : Below B w V) (hB : B ≤ D) (p0 p1 p2 : Value) : Below B w (((V.setCell ⟨D, 0, none⟩ p0).setCell ⟨D, 1, none⟩ p1).setCell ⟨D, 2, none⟩ p2) := (((h.setCell hB _).setCell hB _).setCell hB _)
end Go.Proofs.Ytdghekhkjkkgfaa

/- Lists of tips and of changes in memory; blocks of two and three cells. -/
import Derived.Test.YtacjonncakhhmaaGreatPz05
namespace Go.Proofs.YtacjonncakhhmaaGreat
open Go.RowKit
theorem Lk.IsL.shape {P : Program} {α : Type} {K : Lk P α} {w : World} {B : Nat} {v : Value} {xs : List α} (h : K.IsL w B v xs) : ∃ A c, v = .slice A xs.length c ∧ xs.length ≤ c := by
 obtain ⟨⟨A, cap, rfl, hc, hA⟩, _, _⟩ := h
 exact ⟨A, cap, rfl, hc⟩
def tpCells (q : Int × Int) : List Value := [.int .i64 q.1, .int .i64 q.2]
/-- Lists of tips. -/
noncomputable def KT : Lk Tryz.prog (Int × Int) where
 S := 29
 E := 68
 n := 2
 zero := .agg #[.int .i64 0, .int .i64 0]
 bytes := 16
 cells := tpCells
 dflt := (0, 0)
 ok := fun q => fits q.1 ∧ fits q.2
 und := Tryz.underlying29
 info := by kernel_rfl
 zs := rfl
 pos := by decide
 small := by decide
 len _ := rfl
 one x u hu := by
  simp only [tpCells, List.mem_cons, List.not_mem_nil, or_false] at hu
  rcases hu with rfl | rfl <;> rfl
theorem tip_cells {w : World} {B : Nat} {A : Option Addr} {n c : Nat} {xs : List (Int × Int)} (h : KT.IsL w B (.slice A n c) xs) (h0 : 0 < xs.length) : ∃ b off, A = some ⟨b, off, none⟩ ∧ b < B ∧ xs.length ≤ c ∧
  ∀ i, i < xs.length → w.cell? ⟨b, off + i * 2, none⟩ = some (.int .i64 (xs.getD i (0, 0)).1) ∧ w.cell? ⟨b, off + i * 2 + 1, none⟩ = some (.int .i64 (xs.getD i (0, 0)).2) := by
 obtain ⟨b, off, e, hb, hc, hcell⟩ := h.elem h0
 refine ⟨b, off, e, hb, hc, fun i hi => ?_⟩
 have q := fun j u hu => hcell i hi j u hu
 have hn : KT.n = 2 := rfl
 simp only [hn, ← Nat.add_assoc] at q
 exact ⟨q 0 _ rfl, q 1 _ rfl⟩
def ddCells (q : Bool × Int) : List Value := [.bool q.1, .int .i64 q.2]
/-- A change: version, arm, how much. -/
structure Ch where
 a : Int
 b : Int
 c : Int
def chCells (q : Ch) : List Value := [.int .i64 q.a, .int .i64 q.b, .int .i64 q.c]
def ch0 : Ch := ⟨0, 0, 0⟩
/-- Lists of changes. -/
noncomputable def KC : Lk Tryz.prog (Ch) where
 S := 48
 E := 128
 n := 3
 zero := .agg #[.int .i64 0, .int .i64 0, .int .i64 0]
 bytes := 24
 cells := chCells
 dflt := ch0
 ok := fun q => fits q.a ∧ fits q.b ∧ fits q.c
 und := Tryz.underlying48
 info := by kernel_rfl
 zs := rfl
 pos := by decide
 small := by decide
 len _ := rfl
 one x u hu := by
  simp only [chCells, List.mem_cons, List.not_mem_nil, or_false] at hu
  rcases hu with rfl | rfl | rfl <;> rfl
theorem ch_cells {w : World} {B : Nat} {A : Option Addr} {n c : Nat} {xs : List Ch} (h : KC.IsL w B (.slice A n c) xs) (h0 : 0 < xs.length) : ∃ b off, A = some ⟨b, off, none⟩ ∧ b < B ∧ xs.length ≤ c ∧
  ∀ i, i < xs.length → w.cell? ⟨b, off + i * 3, none⟩ = some (.int .i64 (xs.getD i ch0).a) ∧ w.cell? ⟨b, off + i * 3 + 1, none⟩ = some (.int .i64 (xs.getD i ch0).b) ∧ w.cell? ⟨b, off + i * 3 + 2, none⟩ = some (.int .i64 (xs.getD i ch0).c) := by
 obtain ⟨b, off, e, hb, hc, hcell⟩ := h.elem h0
 refine ⟨b, off, e, hb, hc, fun i hi => ?_⟩
 have q := fun j u hu => hcell i hi j u hu
 have hn : KC.n = 3 := rfl
 simp only [hn, ← Nat.add_assoc] at q
 exact ⟨q 0 _ rfl, q 1 _ rfl, q 2 _ rfl⟩
end Go.Proofs.YtacjonncakhhmaaGreat
namespace Go.Proofs.YtacjonncakhhmaaGreat
open Go.RowKit
theorem ad_ne {a b c d : Nat} (h : a ≠ c ∨ b ≠ d) : (⟨a, b, none⟩ : Addr) ≠ ⟨c, d, none⟩ := by
 intro e
 injection e with e1 e2
 rcases h with h | h
 ·exact h e1
 ·exact h e2
/-- 2 cells of an own block. -/
def Cells2 (V : World) (D : Nat) (x0 x1 : Value) : Prop :=
 V.cell? ⟨D, 0, none⟩ = some x0 ∧ V.cell? ⟨D, 1, none⟩ = some x1 ∧
 V.frozen? ⟨D, 0, none⟩ = false ∧ V.frozen? ⟨D, 1, none⟩ = false ∧ D < V.heap.size
abbrev setC2 (V : World) (D : Nat) (p0 p1 : Value) : World := (V.setCell ⟨D, 0, none⟩ p0).setCell ⟨D, 1, none⟩ p1
theorem Cells2.new (V : World) (t : TypeId) (x0 x1 : Value) : Cells2 (V.alloc (.cells #[x0, x1] t)) V.heap.size x0 x1 :=
 ⟨by rw [alloc_at]; rfl, by rw [alloc_at]; rfl, by simp, by simp, by simp⟩
theorem Cells2.below {V V' : World} {D : Nat} {x0 x1 : Value} (h : Cells2 V D x0 x1) (hb : Below V.heap.size V V') : Cells2 V' D x0 x1 := by
 obtain ⟨h0, h1, z0, z1, hs⟩ := h
 refine ⟨keep_cell hb h0, keep_cell hb h1, ?_, ?_, Nat.lt_of_lt_of_le hs hb.size⟩
 ·rw [hb.frozen (p := ⟨D, 0, none⟩) hs]; exact z0
 ·rw [hb.frozen (p := ⟨D, 1, none⟩) hs]; exact z1
theorem Cells2.set {V : World} {D : Nat} {x0 x1 : Value} (h : Cells2 V D x0 x1) (p0 p1 : Value) : Cells2 (setC2 V D p0 p1) D p0 p1 := by
 obtain ⟨h0, h1, z0, z1, hs⟩ := h
 refine ⟨st_other (st_same (h0)) (ad_ne (.inr (by decide))), st_same (st_other (h1) (ad_ne (.inr (by decide)))), st_fz (st_fz (z0)), st_fz (st_fz (z1)), ?_⟩
 simpa using hs
theorem Cells2.apart {V : World} {D G : Nat} {x0 x1 : Value} (h : Cells2 V G x0 x1) (hne : D ≠ G) (p0 p1 : Value) : Cells2 (setC2 V D p0 p1) G x0 x1 := by
 obtain ⟨h0, h1, z0, z1, hs⟩ := h
 refine ⟨st_other (st_other (h0) (ad_ne (.inl hne))) (ad_ne (.inl hne)), st_other (st_other (h1) (ad_ne (.inl hne))) (ad_ne (.inl hne)), st_fz (st_fz (z0)), st_fz (st_fz (z1)), ?_⟩
 simpa using hs
/-- 3 cells of an own block. -/
def Cells3 (V : World) (D : Nat) (x0 x1 x2 : Value) : Prop :=
 V.cell? ⟨D, 0, none⟩ = some x0 ∧ V.cell? ⟨D, 1, none⟩ = some x1 ∧ V.cell? ⟨D, 2, none⟩ = some x2 ∧
 V.frozen? ⟨D, 0, none⟩ = false ∧ V.frozen? ⟨D, 1, none⟩ = false ∧ V.frozen? ⟨D, 2, none⟩ = false ∧ D < V.heap.size
abbrev setC3 (V : World) (D : Nat) (p0 p1 p2 : Value) : World := ((V.setCell ⟨D, 0, none⟩ p0).setCell ⟨D, 1, none⟩ p1).setCell ⟨D, 2, none⟩ p2
theorem Cells3.new (V : World) (t : TypeId) (x0 x1 x2 : Value) : Cells3 (V.alloc (.cells #[x0, x1, x2] t)) V.heap.size x0 x1 x2 :=
 ⟨by rw [alloc_at]; rfl, by rw [alloc_at]; rfl, by rw [alloc_at]; rfl, by simp, by simp, by simp, by simp⟩
theorem Cells3.below {V V' : World} {D : Nat} {x0 x1 x2 : Value} (h : Cells3 V D x0 x1 x2) (hb : Below V.heap.size V V') : Cells3 V' D x0 x1 x2 := by
 obtain ⟨h0, h1, h2, z0, z1, z2, hs⟩ := h
 refine ⟨keep_cell hb h0, keep_cell hb h1, keep_cell hb h2, ?_, ?_, ?_, Nat.lt_of_lt_of_le hs hb.size⟩
 ·rw [hb.frozen (p := ⟨D, 0, none⟩) hs]; exact z0
 ·rw [hb.frozen (p := ⟨D, 1, none⟩) hs]; exact z1
 ·rw [hb.frozen (p := ⟨D, 2, none⟩) hs]; exact z2
theorem Cells3.set {V : World} {D : Nat} {x0 x1 x2 : Value} (h : Cells3 V D x0 x1 x2) (p0 p1 p2 : Value) : Cells3 (setC3 V D p0 p1 p2) D p0 p1 p2 := by
 obtain ⟨h0, h1, h2, z0, z1, z2, hs⟩ := h
 refine ⟨st_other (st_other (st_same (h0)) (ad_ne (.inr (by decide)))) (ad_ne (.inr (by decide))), st_other (st_same (st_other (h1) (ad_ne (.inr (by decide))))) (ad_ne (.inr (by decide))), st_same (st_other (st_other (h2) (ad_ne (.inr (by decide)))) (ad_ne (.inr (by decide)))), st_fz (st_fz (st_fz (z0))), st_fz (st_fz (st_fz (z1))), st_fz (st_fz (st_fz (z2))), ?_⟩
 simpa using hs
theorem Cells3.apart {V : World} {D G : Nat} {x0 x1 x2 : Value} (h : Cells3 V G x0 x1 x2) (hne : D ≠ G) (p0 p1 p2 : Value) : Cells3 (setC3 V D p0 p1 p2) G x0 x1 x2 := by
 obtain ⟨h0, h1, h2, z0, z1, z2, hs⟩ := h
 refine ⟨st_other (st_other (st_other (h0) (ad_ne (.inl hne))) (ad_ne (.inl hne))) (ad_ne (.inl hne)), st_other (st_other (st_other (h1) (ad_ne (.inl hne))) (ad_ne (.inl hne))) (ad_ne (.inl hne)), st_other (st_other (st_other (h2) (ad_ne (.inl hne))) (ad_ne (.inl hne))) (ad_ne (.inl hne)), st_fz (st_fz (st_fz (z0))), st_fz (st_fz (st_fz (z1))), st_fz (st_fz (st_fz (z2))), ?_⟩
 simpa using hs
theorem below_set3 {V w : World} {B D : Nat} (h : Below B w V) (hB : B ≤ D) (p0 p1 p2 : Value) : Below B w (setC3 V D p0 p1 p2) := (((h.setCell hB _).setCell hB _).setCell hB _)
end Go.Proofs.YtacjonncakhhmaaGreat

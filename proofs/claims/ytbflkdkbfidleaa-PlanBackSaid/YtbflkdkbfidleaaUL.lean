/- Lists of locks and unlocks, and of deeds, in memory. -/
import Derived.Test.YtbflkdkbfidleaaUA
namespace Go.Proofs.Ytbflkdkbfidleaa
open Go.RowKit
/-- A lock or an unlock that is asked for. -/
structure Gp where
  f : Bool
  i : Int
  o : Int
def gpCells (q : Gp) : List Value := [.bool q.f, .int .i64 q.i, .int .i64 q.o]
def gp0 : Gp := ⟨false, 0, 0⟩
/-- Lists of locks and unlocks. -/
noncomputable def KG : Lk Try.prog Gp where
  S := 32
  E := 35
  n := 3
  zero := .agg #[.bool false, .int .i64 0, .int .i64 0]
  bytes := 24
  cells := gpCells
  dflt := gp0
  ok := fun q => fits q.i ∧ fits q.o
  und := Try.underlying32
  info := by kernel_rfl
  zs := rfl
  pos := by decide
  small := by decide
  len _ := rfl
  one x u hu := by
    simp only [gpCells, List.mem_cons, List.not_mem_nil, or_false] at hu
    rcases hu with rfl | rfl | rfl <;> rfl
theorem gp_cells {w : World} {B : Nat} {A : Option Addr} {n c : Nat} {xs : List Gp} (h : KG.IsL w B (.slice A n c) xs) (h0 : 0 < xs.length) : ∃ b off, A = some ⟨b, off, none⟩ ∧ b < B ∧ xs.length ≤ c ∧
    ∀ i, i < xs.length → w.cell? ⟨b, off + i * 3, none⟩ = some (.bool (xs.getD i gp0).f) ∧ w.cell? ⟨b, off + i * 3 + 1, none⟩ = some (.int .i64 (xs.getD i gp0).i) ∧ w.cell? ⟨b, off + i * 3 + 2, none⟩ = some (.int .i64 (xs.getD i gp0).o) := by
  obtain ⟨b, off, e, hb, hc, hcell⟩ := h.elem h0
  refine ⟨b, off, e, hb, hc, fun i hi => ?_⟩
  have q := fun j u hu => hcell i hi j u hu
  have hn : KG.n = 3 := rfl
  simp only [hn, ← Nat.add_assoc] at q
  exact ⟨q 0 _ rfl, q 1 _ rfl, q 2 _ rfl⟩
def ddCells (q : Int × Int) : List Value := [.int .i64 q.1, .int .i64 q.2]
/-- Lists of deeds. -/
noncomputable def KD : Lk Try.prog (Int × Int) where
  S := 38
  E := 48
  n := 2
  zero := .agg #[.int .i64 0, .int .i64 0]
  bytes := 16
  cells := ddCells
  dflt := (0, 0)
  ok := fun q => fits q.1 ∧ fits q.2
  und := Try.underlying38
  info := by kernel_rfl
  zs := rfl
  pos := by decide
  small := by decide
  len _ := rfl
  one x u hu := by
    simp only [ddCells, List.mem_cons, List.not_mem_nil, or_false] at hu
    rcases hu with rfl | rfl <;> rfl
theorem dd_cells {w : World} {B : Nat} {A : Option Addr} {n c : Nat} {xs : List (Int × Int)} (h : KD.IsL w B (.slice A n c) xs) (h0 : 0 < xs.length) : ∃ b off, A = some ⟨b, off, none⟩ ∧ b < B ∧ xs.length ≤ c ∧
    ∀ i, i < xs.length → w.cell? ⟨b, off + i * 2, none⟩ = some (.int .i64 (xs.getD i (0, 0)).1) ∧ w.cell? ⟨b, off + i * 2 + 1, none⟩ = some (.int .i64 (xs.getD i (0, 0)).2) := by
  obtain ⟨b, off, e, hb, hc, hcell⟩ := h.elem h0
  refine ⟨b, off, e, hb, hc, fun i hi => ?_⟩
  have q := fun j u hu => hcell i hi j u hu
  have hn : KD.n = 2 := rfl
  simp only [hn, ← Nat.add_assoc] at q
  exact ⟨q 0 _ rfl, q 1 _ rfl⟩
end Go.Proofs.Ytbflkdkbfidleaa

/- Lists of tips, of deeds and of changes in memory. -/
import Derived.Test.YtacjonncakhhmaaKJ
namespace Go.Proofs.Ytacjonncakhhmaa
open Go.RowKit

theorem Lk.IsL.elem {P : Program} {α : Type} {K : Lk P α} {w : World} {B : Nat} {A : Option Addr} {n c : Nat} {xs : List α} (h : K.IsL w B (.slice A n c) xs) (h0 : 0 < xs.length) : ∃ b off, A = some ⟨b, off, none⟩ ∧ b < B ∧ xs.length ≤ c ∧
    ∀ i, i < xs.length → ∀ j u, (K.cells (xs.getD i K.dflt))[j]? = some u → w.cell? ⟨b, off + (i * K.n + j), none⟩ = some u := by
  obtain ⟨⟨A', cap, hv, hc, hA⟩, _, _⟩ := h
  simp only [Value.slice.injEq] at hv
  obtain ⟨rfl, rfl, rfl⟩ := hv
  obtain ⟨b, off, e, hb, hcell⟩ := hA h0
  exact ⟨b, off, e, hb, hc, hcell⟩
theorem Lk.IsL.shape {P : Program} {α : Type} {K : Lk P α} {w : World} {B : Nat} {v : Value} {xs : List α} (h : K.IsL w B v xs) : ∃ A c, v = .slice A xs.length c ∧ xs.length ≤ c := by
  obtain ⟨⟨A, cap, rfl, hc, hA⟩, _, _⟩ := h
  exact ⟨A, cap, rfl, hc⟩
def tpCells (q : Int × Int) : List Value := [.int .i64 q.1, .int .i64 q.2]
/-- Lists of tips. -/
noncomputable def KT : Lk Try.prog (Int × Int) where
  S := 31
  E := 86
  n := 2
  zero := .agg #[.int .i64 0, .int .i64 0]
  bytes := 16
  cells := tpCells
  dflt := (0, 0)
  ok := fun q => fits q.1 ∧ fits q.2
  und := Try.underlying31
  info := by kernel_rfl
  zs := rfl
  pos := by decide
  small := by decide
  len _ := rfl
  one x u hu := by
    simp only [tpCells, List.mem_cons, List.not_mem_nil, or_false] at hu
    rcases hu with rfl | rfl <;> rfl
theorem tip_cells {w : World} {B : Nat} {A : Option Addr} {n c : Nat} {xs : List (Int × Int)} (h : KT.IsL w B (.slice A n c) xs) (h0 : 0 < xs.length) : ∃ b off, A = some ⟨b, off, none⟩ ∧ b < B ∧ xs.length ≤ c ∧
    ∀ i, i < xs.length → w.cell? ⟨b, off + i * 2, none⟩ = some (.int .i64 (xs.getD i (0, 0)).1) ∧ w.cell? ⟨b, off + i * 2 + 1, none⟩ = some (.int .i64 (xs.getD i (0, 0)).2) := by
  obtain ⟨b, off, e, hb, hc, hcell⟩ := h.elem h0
  refine ⟨b, off, e, hb, hc, fun i hi => ?_⟩
  have q := fun j u hu => hcell i hi j u hu
  have hn : KT.n = 2 := rfl
  simp only [hn, ← Nat.add_assoc] at q
  exact ⟨q 0 _ rfl, q 1 _ rfl⟩
def ddCells (q : Bool × Int) : List Value := [.bool q.1, .int .i64 q.2]
/-- A change: version, arm, how much. -/
structure Ch where
  a : Int
  b : Int
  c : Int
def chCells (q : Ch) : List Value := [.int .i64 q.a, .int .i64 q.b, .int .i64 q.c]
def ch0 : Ch := ⟨0, 0, 0⟩
/-- Lists of changes. -/
noncomputable def KC : Lk Try.prog (Ch) where
  S := 80
  E := 144
  n := 3
  zero := .agg #[.int .i64 0, .int .i64 0, .int .i64 0]
  bytes := 24
  cells := chCells
  dflt := ch0
  ok := fun q => fits q.a ∧ fits q.b ∧ fits q.c
  und := Try.underlying80
  info := by kernel_rfl
  zs := rfl
  pos := by decide
  small := by decide
  len _ := rfl
  one x u hu := by
    simp only [chCells, List.mem_cons, List.not_mem_nil, or_false] at hu
    rcases hu with rfl | rfl | rfl <;> rfl
theorem ch_cells {w : World} {B : Nat} {A : Option Addr} {n c : Nat} {xs : List Ch} (h : KC.IsL w B (.slice A n c) xs) (h0 : 0 < xs.length) : ∃ b off, A = some ⟨b, off, none⟩ ∧ b < B ∧ xs.length ≤ c ∧
    ∀ i, i < xs.length → w.cell? ⟨b, off + i * 3, none⟩ = some (.int .i64 (xs.getD i ch0).a) ∧ w.cell? ⟨b, off + i * 3 + 1, none⟩ = some (.int .i64 (xs.getD i ch0).b) ∧ w.cell? ⟨b, off + i * 3 + 2, none⟩ = some (.int .i64 (xs.getD i ch0).c) := by
  obtain ⟨b, off, e, hb, hc, hcell⟩ := h.elem h0
  refine ⟨b, off, e, hb, hc, fun i hi => ?_⟩
  have q := fun j u hu => hcell i hi j u hu
  have hn : KC.n = 3 := rfl
  simp only [hn, ← Nat.add_assoc] at q
  exact ⟨q 0 _ rfl, q 1 _ rfl, q 2 _ rfl⟩
end Go.Proofs.Ytacjonncakhhmaa

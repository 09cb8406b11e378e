/- Lists of whole numbers; a literal list. -/
import Derived.Test.YtbflkdkbfidleaaLK
namespace Go.Proofs.Ytbflkdkbfidleaa
open Go.RowKit

/-- Lists of whole numbers. -/
noncomputable def KI : Lk Try.prog Int where
  S := 22
  E := 3
  n := 1
  zero := .int .i64 0
  bytes := 8
  cells x := [.int .i64 x]
  dflt := 0
  ok x := fits x
  und := Try.underlying22
  info := by kernel_rfl
  zs := rfl
  pos := by decide
  small := by decide
  len _ := rfl
  one x u hu := by rw [List.mem_singleton] at hu; subst hu; rfl
theorem KI.cells {w : World} {B : Nat} {v : Value} {xs : List Int} (h : KI.IsL w B v xs) (h0 : 0 < xs.length) : ∃ b off cap, v = .slice (some ⟨b, off, none⟩) xs.length cap ∧ xs.length ≤ cap ∧ b < B ∧ xs.length ≤ 9223372036854775807 ∧
    (∀ i, i < xs.length → w.cell? ⟨b, off + i, none⟩ = some (.int .i64 (xs.getD i 0))) ∧ (∀ i, i < xs.length → fits (xs.getD i 0)) := by
  obtain ⟨⟨A, cap, rfl, hc, hA⟩, hf, hl⟩ := h
  obtain ⟨b, off, rfl, hb, hcell⟩ := hA h0
  refine ⟨b, off, cap, rfl, hc, hb, hl, fun i hi => ?_, fun i hi => hf _ (getD_mem' xs i 0 hi)⟩
  have := hcell i hi 0 (.int .i64 (xs.getD i 0)) rfl
  simpa [KI] using this
theorem alloc_at (w : World) (cs : Array Value) (t : TypeId) (o : Nat) : (w.alloc (.cells cs t)).cell? ⟨w.heap.size, o, none⟩ = cs[o]? := by
  unfold World.cell?
  rw [heap_alloc_new]
  rfl
/-- A literal list, laid in a new block. -/
theorem Lk.IsL.lits {P : Program} {α : Type} {K : Lk P α} (w : World) (xs : List α) (cs : Array Value) (hx : ∀ x ∈ xs, K.ok x) (hcs : cs = (K.flat xs).toArray) (hl : xs.length ≤ 9223372036854775807) (H : Nat) (e : w.heap.size = H) :
    K.IsL (w.alloc (.cells cs K.E)) (H + 1) (.slice (some ⟨H, 0, none⟩) xs.length xs.length) xs := by
  subst e
  subst hcs
  refine ⟨⟨_, _, rfl, Nat.le_refl _, fun _ => ⟨_, _, rfl, Nat.lt_succ_self _, fun i hi j u hu => ?_⟩⟩, hx, hl⟩
  have hj : j < K.n := by
    have := (List.getElem?_eq_some_iff.1 hu).1
    rw [K.len] at this
    exact this
  rw [Nat.zero_add, alloc_at, List.getElem?_toArray, K.flat_at xs i j hi hj, hu]

end Go.Proofs.Ytbflkdkbfidleaa

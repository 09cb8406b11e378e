/- Sum, difference and product of two whole numbers: what the program and the reference answer. -/
import Derived.Test.YtacjonncakhhmaaPc06
import Derived.Test.YtacjonncakhhmaaPc07
import Derived.Test.YtacjonncakhhmaaPc00
import Derived.Test.YtacjonncakhhmaaPc04
import Derived.OpenVars
import Derived.Test.YtacjonncakhhmaaChecked
import Derived.WalkKit
import Derived.WalkLawsBesides
import Derived.WalkSpells
import Derived.Outline
import Derived.KernelRfl
import Derived.Lib.Hide
namespace Go.Proofs.Ytacjonncakhhmaa
open Go.RowKit
def ceCells (q : Cel.Ce) : List Value := [.int .i64 q.a, .int .i64 q.b, .int .i64 q.c]
def ce0 : Cel.Ce := ⟨0, 0, 0⟩
/-- Lists of cells. -/
noncomputable def KE : Lk Try.prog Cel.Ce where
 S := 29
 E := 41
 n := 3
 zero := .agg #[.int .i64 0, .int .i64 0, .int .i64 0]
 bytes := 24
 cells := ceCells
 dflt := ce0
 ok := fun q => q.Fit
 und := Try.underlying29
 info := by kernel_rfl
 zs := rfl
 pos := by decide
 small := by decide
 len _ := rfl
 one x u hu := by
  simp only [ceCells, List.mem_cons, List.not_mem_nil, or_false] at hu
  rcases hu with rfl | rfl | rfl <;> rfl
/-- A log: its room, its last version, where its changes lie, and which they are. -/
structure Lo where
 r : Int
 l : Int
 A : Option Addr
 c : Nat
 xs : List Ch
def loCells (q : Lo) : List Value := [.int .i64 q.r, .int .i64 q.l, .slice q.A q.xs.length q.c]
def lo0 : Lo := ⟨0, 0, none, 0, []⟩
/-- Lists of logs. -/
noncomputable def KL : Lk Try.prog Lo where
 S := 30
 E := 82
 n := 3
 zero := .agg #[.int .i64 0, .int .i64 0, .slice none 0 0]
 bytes := 40
 cells := loCells
 dflt := lo0
 ok := fun q => fits q.r ∧ fits q.l
 und := Try.underlying30
 info := by kernel_rfl
 zs := rfl
 pos := by decide
 small := by decide
 len _ := rfl
 one x u hu := by
  simp only [loCells, List.mem_cons, List.not_mem_nil, or_false] at hu
  rcases hu with rfl | rfl | rfl <;> rfl
theorem ce_cells {w : World} {B : Nat} {A : Option Addr} {n c : Nat} {xs : List Cel.Ce} (h : KE.IsL w B (.slice A n c) xs) (h0 : 0 < xs.length) : ∃ b off, A = some ⟨b, off, none⟩ ∧ b < B ∧ xs.length ≤ c ∧
  ∀ i, i < xs.length → w.cell? ⟨b, off + i * 3, none⟩ = some (.int .i64 (xs.getD i ce0).a) ∧ w.cell? ⟨b, off + i * 3 + 1, none⟩ = some (.int .i64 (xs.getD i ce0).b) ∧ w.cell? ⟨b, off + i * 3 + 2, none⟩ = some (.int .i64 (xs.getD i ce0).c) := by
 obtain ⟨b, off, e, hb, hc, hcell⟩ := h.elem h0
 refine ⟨b, off, e, hb, hc, fun i hi => ?_⟩
 have q := fun j u hu => hcell i hi j u hu
 have hn : KE.n = 3 := rfl
 simp only [hn, ← Nat.add_assoc] at q
 exact ⟨q 0 _ rfl, q 1 _ rfl, q 2 _ rfl⟩
theorem lo_cells {w : World} {B : Nat} {A : Option Addr} {n c : Nat} {xs : List Lo} (h : KL.IsL w B (.slice A n c) xs) (h0 : 0 < xs.length) : ∃ b off, A = some ⟨b, off, none⟩ ∧ b < B ∧ xs.length ≤ c ∧
  ∀ i, i < xs.length → w.cell? ⟨b, off + i * 3, none⟩ = some (.int .i64 (xs.getD i lo0).r) ∧ w.cell? ⟨b, off + i * 3 + 1, none⟩ = some (.int .i64 (xs.getD i lo0).l) ∧ w.cell? ⟨b, off + i * 3 + 2, none⟩ = some (.slice (xs.getD i lo0).A (xs.getD i lo0).xs.length (xs.getD i lo0).c) := by
 obtain ⟨b, off, e, hb, hc, hcell⟩ := h.elem h0
 refine ⟨b, off, e, hb, hc, fun i hi => ?_⟩
 have q := fun j u hu => hcell i hi j u hu
 have hn : KL.n = 3 := rfl
 simp only [hn, ← Nat.add_assoc] at q
 exact ⟨q 0 _ rfl, q 1 _ rfl, q 2 _ rfl⟩
/-- A stock: where its lists lie, and what they are. -/
structure Stk where
 cA : Option Addr
 cc : Nat
 cl : List Cel.Ce
 lA : Option Addr
 lc : Nat
 ll : List Lo
 tA : Option Addr
 tc : Nat
 tl : List (Int × Int)
 st : Int
 inn : Int
 out : Int
abbrev Stk.v (s : Stk) : Value := .agg #[.slice s.cA s.cl.length s.cc, .slice s.lA s.ll.length s.lc, .slice s.tA s.tl.length s.tc, .int .i64 s.st, .int .i64 s.inn, .int .i64 s.out]
/-- A stock that lies in memory below a block. -/
structure Stk.In (w : World) (B : Nat) (s : Stk) : Prop where
 c : KE.IsL w B (.slice s.cA s.cl.length s.cc) s.cl
 l : KL.IsL w B (.slice s.lA s.ll.length s.lc) s.ll
 t : KT.IsL w B (.slice s.tA s.tl.length s.tc) s.tl
 x : ∀ q ∈ s.ll, KC.IsL w B (.slice q.A q.xs.length q.c) q.xs
 f : fits s.st ∧ fits s.inn ∧ fits s.out
theorem Stk.In.below {w w' : World} {B : Nat} {s : Stk} (h : s.In w B) (hb : Below B w w') : s.In w' B := ⟨h.c.below hb, h.l.below hb, h.t.below hb, fun q hq => (h.x q hq).below hb, h.f⟩
theorem Stk.In.more {w : World} {B B' : Nat} {s : Stk} (h : s.In w B) (hB : B ≤ B') : s.In w B' := ⟨h.c.more hB, h.l.more hB, h.t.more hB, fun q hq => (h.x q hq).more hB, h.f⟩
theorem Stk.In.then {w w' : World} {s : Stk} (h : s.In w w.heap.size) (hb : Below w.heap.size w w') : s.In w' w'.heap.size := (h.below hb).more hb.size
/-- What a stock is, wherever it lies. -/
structure Ab where
 c : List Cel.Ce
 l : List (Int × Int × List Ch)
 t : List (Int × Int)
 st : Int
 inn : Int
 out : Int
def Lo.ab (q : Lo) : Int × Int × List Ch := (q.r, q.l, q.xs)
def Stk.ab (s : Stk) : Ab := ⟨s.cl, s.ll.map Lo.ab, s.tl, s.st, s.inn, s.out⟩
def ab0 : Ab := ⟨[], [], [], 0, 0, 0⟩
def stk0 : Stk := ⟨none, 0, [], none, 0, [], none, 0, [], 0, 0, 0⟩
theorem stk0_in (w : World) (B : Nat) : stk0.In w B := ⟨Lk.IsL.nil _ _ _ _, Lk.IsL.nil _ _ _ _, Lk.IsL.nil _ _ _ _, fun q hq => by simp [stk0] at hq, by decide, by decide, by decide⟩
/-- 4 cells of an own block. -/
def Cells4 (V : World) (D : Nat) (x0 x1 x2 x3 : Value) : Prop :=
 V.cell? ⟨D, 0, none⟩ = some x0 ∧ V.cell? ⟨D, 1, none⟩ = some x1 ∧ V.cell? ⟨D, 2, none⟩ = some x2 ∧ V.cell? ⟨D, 3, none⟩ = some x3 ∧
 V.frozen? ⟨D, 0, none⟩ = false ∧ V.frozen? ⟨D, 1, none⟩ = false ∧ V.frozen? ⟨D, 2, none⟩ = false ∧ V.frozen? ⟨D, 3, none⟩ = false ∧ D < V.heap.size
theorem Cells4.new (V : World) (t : TypeId) (x0 x1 x2 x3 : Value) : Cells4 (V.alloc (.cells #[x0, x1, x2, x3] t)) V.heap.size x0 x1 x2 x3 :=
 ⟨by rw [alloc_at]; rfl, by rw [alloc_at]; rfl, by rw [alloc_at]; rfl, by rw [alloc_at]; rfl, by simp, by simp, by simp, by simp, by simp⟩
theorem Cells4.below {V V' : World} {D : Nat} {x0 x1 x2 x3 : Value} (h : Cells4 V D x0 x1 x2 x3) (hb : Below V.heap.size V V') : Cells4 V' D x0 x1 x2 x3 := by
 obtain ⟨h0, h1, h2, h3, z0, z1, z2, z3, hs⟩ := h
 refine ⟨keep_cell hb h0, keep_cell hb h1, keep_cell hb h2, keep_cell hb h3, ?_, ?_, ?_, ?_, Nat.lt_of_lt_of_le hs hb.size⟩
 ·rw [hb.frozen (p := ⟨D, 0, none⟩) hs]; exact z0
 ·rw [hb.frozen (p := ⟨D, 1, none⟩) hs]; exact z1
 ·rw [hb.frozen (p := ⟨D, 2, none⟩) hs]; exact z2
 ·rw [hb.frozen (p := ⟨D, 3, none⟩) hs]; exact z3
theorem Cells4.set {V : World} {D : Nat} {x0 x1 x2 x3 : Value} (h : Cells4 V D x0 x1 x2 x3) (p0 p1 p2 p3 : Value) : Cells4 ((((V.setCell ⟨D, 0, none⟩ p0).setCell ⟨D, 1, none⟩ p1).setCell ⟨D, 2, none⟩ p2).setCell ⟨D, 3, none⟩ p3) D p0 p1 p2 p3 := by
 obtain ⟨h0, h1, h2, h3, z0, z1, z2, z3, hs⟩ := h
 refine ⟨st_other (st_other (st_other (st_same (h0)) (ad_ne (.inr (by decide)))) (ad_ne (.inr (by decide)))) (ad_ne (.inr (by decide))), st_other (st_other (st_same (st_other (h1) (ad_ne (.inr (by decide))))) (ad_ne (.inr (by decide)))) (ad_ne (.inr (by decide))), st_other (st_same (st_other (st_other (h2) (ad_ne (.inr (by decide)))) (ad_ne (.inr (by decide))))) (ad_ne (.inr (by decide))), st_same (st_other (st_other (st_other (h3) (ad_ne (.inr (by decide)))) (ad_ne (.inr (by decide)))) (ad_ne (.inr (by decide)))), st_fz (st_fz (st_fz (st_fz (z0)))), st_fz (st_fz (st_fz (st_fz (z1)))), st_fz (st_fz (st_fz (st_fz (z2)))), st_fz (st_fz (st_fz (st_fz (z3)))), ?_⟩
 simpa using hs
theorem Cells4.apart {V : World} {D G : Nat} {x0 x1 x2 x3 : Value} (h : Cells4 V G x0 x1 x2 x3) (hne : D ≠ G) (p0 p1 p2 p3 : Value) : Cells4 ((((V.setCell ⟨D, 0, none⟩ p0).setCell ⟨D, 1, none⟩ p1).setCell ⟨D, 2, none⟩ p2).setCell ⟨D, 3, none⟩ p3) G x0 x1 x2 x3 := by
 obtain ⟨h0, h1, h2, h3, z0, z1, z2, z3, hs⟩ := h
 refine ⟨st_other (st_other (st_other (st_other (h0) (ad_ne (.inl hne))) (ad_ne (.inl hne))) (ad_ne (.inl hne))) (ad_ne (.inl hne)), st_other (st_other (st_other (st_other (h1) (ad_ne (.inl hne))) (ad_ne (.inl hne))) (ad_ne (.inl hne))) (ad_ne (.inl hne)), st_other (st_other (st_other (st_other (h2) (ad_ne (.inl hne))) (ad_ne (.inl hne))) (ad_ne (.inl hne))) (ad_ne (.inl hne)), st_other (st_other (st_other (st_other (h3) (ad_ne (.inl hne))) (ad_ne (.inl hne))) (ad_ne (.inl hne))) (ad_ne (.inl hne)), st_fz (st_fz (st_fz (st_fz (z0)))), st_fz (st_fz (st_fz (st_fz (z1)))), st_fz (st_fz (st_fz (st_fz (z2)))), st_fz (st_fz (st_fz (st_fz (z3)))), ?_⟩
 simpa using hs
/-- 6 cells of an own block. -/
def Cells6 (V : World) (D : Nat) (x0 x1 x2 x3 x4 x5 : Value) : Prop :=
 V.cell? ⟨D, 0, none⟩ = some x0 ∧ V.cell? ⟨D, 1, none⟩ = some x1 ∧ V.cell? ⟨D, 2, none⟩ = some x2 ∧ V.cell? ⟨D, 3, none⟩ = some x3 ∧ V.cell? ⟨D, 4, none⟩ = some x4 ∧ V.cell? ⟨D, 5, none⟩ = some x5 ∧
 V.frozen? ⟨D, 0, none⟩ = false ∧ V.frozen? ⟨D, 1, none⟩ = false ∧ V.frozen? ⟨D, 2, none⟩ = false ∧ V.frozen? ⟨D, 3, none⟩ = false ∧ V.frozen? ⟨D, 4, none⟩ = false ∧ V.frozen? ⟨D, 5, none⟩ = false ∧ D < V.heap.size
theorem Cells6.new (V : World) (t : TypeId) (x0 x1 x2 x3 x4 x5 : Value) : Cells6 (V.alloc (.cells #[x0, x1, x2, x3, x4, x5] t)) V.heap.size x0 x1 x2 x3 x4 x5 :=
 ⟨by rw [alloc_at]; rfl, by rw [alloc_at]; rfl, by rw [alloc_at]; rfl, by rw [alloc_at]; rfl, by rw [alloc_at]; rfl, by rw [alloc_at]; rfl, by simp, by simp, by simp, by simp, by simp, by simp, by simp⟩
theorem Cells6.below {V V' : World} {D : Nat} {x0 x1 x2 x3 x4 x5 : Value} (h : Cells6 V D x0 x1 x2 x3 x4 x5) (hb : Below V.heap.size V V') : Cells6 V' D x0 x1 x2 x3 x4 x5 := by
 obtain ⟨h0, h1, h2, h3, h4, h5, z0, z1, z2, z3, z4, z5, hs⟩ := h
 refine ⟨keep_cell hb h0, keep_cell hb h1, keep_cell hb h2, keep_cell hb h3, keep_cell hb h4, keep_cell hb h5, ?_, ?_, ?_, ?_, ?_, ?_, Nat.lt_of_lt_of_le hs hb.size⟩
 ·rw [hb.frozen (p := ⟨D, 0, none⟩) hs]; exact z0
 ·rw [hb.frozen (p := ⟨D, 1, none⟩) hs]; exact z1
 ·rw [hb.frozen (p := ⟨D, 2, none⟩) hs]; exact z2
 ·rw [hb.frozen (p := ⟨D, 3, none⟩) hs]; exact z3
 ·rw [hb.frozen (p := ⟨D, 4, none⟩) hs]; exact z4
 ·rw [hb.frozen (p := ⟨D, 5, none⟩) hs]; exact z5
theorem Cells6.set {V : World} {D : Nat} {x0 x1 x2 x3 x4 x5 : Value} (h : Cells6 V D x0 x1 x2 x3 x4 x5) (p0 p1 p2 p3 p4 p5 : Value) : Cells6 ((((((V.setCell ⟨D, 0, none⟩ p0).setCell ⟨D, 1, none⟩ p1).setCell ⟨D, 2, none⟩ p2).setCell ⟨D, 3, none⟩ p3).setCell ⟨D, 4, none⟩ p4).setCell ⟨D, 5, none⟩ p5) D p0 p1 p2 p3 p4 p5 := by
 obtain ⟨h0, h1, h2, h3, h4, h5, z0, z1, z2, z3, z4, z5, hs⟩ := h
 refine ⟨st_other (st_other (st_other (st_other (st_other (st_same (h0)) (ad_ne (.inr (by decide)))) (ad_ne (.inr (by decide)))) (ad_ne (.inr (by decide)))) (ad_ne (.inr (by decide)))) (ad_ne (.inr (by decide))), st_other (st_other (st_other (st_other (st_same (st_other (h1) (ad_ne (.inr (by decide))))) (ad_ne (.inr (by decide)))) (ad_ne (.inr (by decide)))) (ad_ne (.inr (by decide)))) (ad_ne (.inr (by decide))), st_other (st_other (st_other (st_same (st_other (st_other (h2) (ad_ne (.inr (by decide)))) (ad_ne (.inr (by decide))))) (ad_ne (.inr (by decide)))) (ad_ne (.inr (by decide)))) (ad_ne (.inr (by decide))), st_other (st_other (st_same (st_other (st_other (st_other (h3) (ad_ne (.inr (by decide)))) (ad_ne (.inr (by decide)))) (ad_ne (.inr (by decide))))) (ad_ne (.inr (by decide)))) (ad_ne (.inr (by decide))), st_other (st_same (st_other (st_other (st_other (st_other (h4) (ad_ne (.inr (by decide)))) (ad_ne (.inr (by decide)))) (ad_ne (.inr (by decide)))) (ad_ne (.inr (by decide))))) (ad_ne (.inr (by decide))), st_same (st_other (st_other (st_other (st_other (st_other (h5) (ad_ne (.inr (by decide)))) (ad_ne (.inr (by decide)))) (ad_ne (.inr (by decide)))) (ad_ne (.inr (by decide)))) (ad_ne (.inr (by decide)))), st_fz (st_fz (st_fz (st_fz (st_fz (st_fz (z0)))))), st_fz (st_fz (st_fz (st_fz (st_fz (st_fz (z1)))))), st_fz (st_fz (st_fz (st_fz (st_fz (st_fz (z2)))))), st_fz (st_fz (st_fz (st_fz (st_fz (st_fz (z3)))))), st_fz (st_fz (st_fz (st_fz (st_fz (st_fz (z4)))))), st_fz (st_fz (st_fz (st_fz (st_fz (st_fz (z5)))))), ?_⟩
 simpa using hs
theorem Cells6.apart {V : World} {D G : Nat} {x0 x1 x2 x3 x4 x5 : Value} (h : Cells6 V G x0 x1 x2 x3 x4 x5) (hne : D ≠ G) (p0 p1 p2 p3 p4 p5 : Value) : Cells6 ((((((V.setCell ⟨D, 0, none⟩ p0).setCell ⟨D, 1, none⟩ p1).setCell ⟨D, 2, none⟩ p2).setCell ⟨D, 3, none⟩ p3).setCell ⟨D, 4, none⟩ p4).setCell ⟨D, 5, none⟩ p5) G x0 x1 x2 x3 x4 x5 := by
 obtain ⟨h0, h1, h2, h3, h4, h5, z0, z1, z2, z3, z4, z5, hs⟩ := h
 refine ⟨st_other (st_other (st_other (st_other (st_other (st_other (h0) (ad_ne (.inl hne))) (ad_ne (.inl hne))) (ad_ne (.inl hne))) (ad_ne (.inl hne))) (ad_ne (.inl hne))) (ad_ne (.inl hne)), st_other (st_other (st_other (st_other (st_other (st_other (h1) (ad_ne (.inl hne))) (ad_ne (.inl hne))) (ad_ne (.inl hne))) (ad_ne (.inl hne))) (ad_ne (.inl hne))) (ad_ne (.inl hne)), st_other (st_other (st_other (st_other (st_other (st_other (h2) (ad_ne (.inl hne))) (ad_ne (.inl hne))) (ad_ne (.inl hne))) (ad_ne (.inl hne))) (ad_ne (.inl hne))) (ad_ne (.inl hne)), st_other (st_other (st_other (st_other (st_other (st_other (h3) (ad_ne (.inl hne))) (ad_ne (.inl hne))) (ad_ne (.inl hne))) (ad_ne (.inl hne))) (ad_ne (.inl hne))) (ad_ne (.inl hne)), st_other (st_other (st_other (st_other (st_other (st_other (h4) (ad_ne (.inl hne))) (ad_ne (.inl hne))) (ad_ne (.inl hne))) (ad_ne (.inl hne))) (ad_ne (.inl hne))) (ad_ne (.inl hne)), st_other (st_other (st_other (st_other (st_other (st_other (h5) (ad_ne (.inl hne))) (ad_ne (.inl hne))) (ad_ne (.inl hne))) (ad_ne (.inl hne))) (ad_ne (.inl hne))) (ad_ne (.inl hne)), st_fz (st_fz (st_fz (st_fz (st_fz (st_fz (z0)))))), st_fz (st_fz (st_fz (st_fz (st_fz (st_fz (z1)))))), st_fz (st_fz (st_fz (st_fz (st_fz (st_fz (z2)))))), st_fz (st_fz (st_fz (st_fz (st_fz (st_fz (z3)))))), st_fz (st_fz (st_fz (st_fz (st_fz (st_fz (z4)))))), st_fz (st_fz (st_fz (st_fz (st_fz (st_fz (z5)))))), ?_⟩
 simpa using hs
theorem below_set6 {V w : World} {B D : Nat} (h : Below B w V) (hB : B ≤ D) (p0 p1 p2 p3 p4 p5 : Value) : Below B w ((((((V.setCell ⟨D, 0, none⟩ p0).setCell ⟨D, 1, none⟩ p1).setCell ⟨D, 2, none⟩ p2).setCell ⟨D, 3, none⟩ p3).setCell ⟨D, 4, none⟩ p4).setCell ⟨D, 5, none⟩ p5) := ((((((h.setCell hB _).setCell hB _).setCell hB _).setCell hB _).setCell hB _).setCell hB _)
theorem Cells6.s {V : World} {D : Nat} {x0 x1 x2 x3 x4 x5 : Value} (h : Cells6 V D x0 x1 x2 x3 x4 x5) (p : Value) : Cells6 (V.setCell ⟨D, 0, none⟩ p) D p x1 x2 x3 x4 x5 ∧ Cells6 (V.setCell ⟨D, 1, none⟩ p) D x0 p x2 x3 x4 x5 ∧ Cells6 (V.setCell ⟨D, 2, none⟩ p) D x0 x1 p x3 x4 x5 ∧
  Cells6 (V.setCell ⟨D, 3, none⟩ p) D x0 x1 x2 p x4 x5 ∧ Cells6 (V.setCell ⟨D, 4, none⟩ p) D x0 x1 x2 x3 p x5 ∧ Cells6 (V.setCell ⟨D, 5, none⟩ p) D x0 x1 x2 x3 x4 p := by
 obtain ⟨h0, h1, h2, h3, h4, h5, z0, z1, z2, z3, z4, z5, hs⟩ := h
 have ne : ∀ {i j : Nat}, i ≠ j → (⟨D, i, none⟩ : Addr) ≠ ⟨D, j, none⟩ := fun h => ad_ne (.inr h)
 exact ⟨⟨st_same h0, st_other h1 (ne (by decide)), st_other h2 (ne (by decide)), st_other h3 (ne (by decide)), st_other h4 (ne (by decide)), st_other h5 (ne (by decide)), st_fz z0, st_fz z1, st_fz z2, st_fz z3, st_fz z4, st_fz z5, by simpa using hs⟩,
  ⟨st_other h0 (ne (by decide)), st_same h1, st_other h2 (ne (by decide)), st_other h3 (ne (by decide)), st_other h4 (ne (by decide)), st_other h5 (ne (by decide)), st_fz z0, st_fz z1, st_fz z2, st_fz z3, st_fz z4, st_fz z5, by simpa using hs⟩,
  ⟨st_other h0 (ne (by decide)), st_other h1 (ne (by decide)), st_same h2, st_other h3 (ne (by decide)), st_other h4 (ne (by decide)), st_other h5 (ne (by decide)), st_fz z0, st_fz z1, st_fz z2, st_fz z3, st_fz z4, st_fz z5, by simpa using hs⟩,
  ⟨st_other h0 (ne (by decide)), st_other h1 (ne (by decide)), st_other h2 (ne (by decide)), st_same h3, st_other h4 (ne (by decide)), st_other h5 (ne (by decide)), st_fz z0, st_fz z1, st_fz z2, st_fz z3, st_fz z4, st_fz z5, by simpa using hs⟩,
  ⟨st_other h0 (ne (by decide)), st_other h1 (ne (by decide)), st_other h2 (ne (by decide)), st_other h3 (ne (by decide)), st_same h4, st_other h5 (ne (by decide)), st_fz z0, st_fz z1, st_fz z2, st_fz z3, st_fz z4, st_fz z5, by simpa using hs⟩,
  ⟨st_other h0 (ne (by decide)), st_other h1 (ne (by decide)), st_other h2 (ne (by decide)), st_other h3 (ne (by decide)), st_other h4 (ne (by decide)), st_same h5, st_fz z0, st_fz z1, st_fz z2, st_fz z3, st_fz z4, st_fz z5, by simpa using hs⟩⟩
theorem Cells6.off {V : World} {D G o : Nat} {x0 x1 x2 x3 x4 x5 : Value} (h : Cells6 V G x0 x1 x2 x3 x4 x5) (hne : D ≠ G) (p : Value) : Cells6 (V.setCell ⟨D, o, none⟩ p) G x0 x1 x2 x3 x4 x5 := by
 obtain ⟨h0, h1, h2, h3, h4, h5, z0, z1, z2, z3, z4, z5, hs⟩ := h
 exact ⟨st_other h0 (ad_ne (.inl hne)), st_other h1 (ad_ne (.inl hne)), st_other h2 (ad_ne (.inl hne)), st_other h3 (ad_ne (.inl hne)), st_other h4 (ad_ne (.inl hne)), st_other h5 (ad_ne (.inl hne)), st_fz z0, st_fz z1, st_fz z2, st_fz z3, st_fz z4, st_fz z5, by simpa using hs⟩
theorem Cells4.off {V : World} {D G o : Nat} {x0 x1 x2 x3 : Value} (h : Cells4 V G x0 x1 x2 x3) (hne : D ≠ G) (p : Value) : Cells4 (V.setCell ⟨D, o, none⟩ p) G x0 x1 x2 x3 := by
 obtain ⟨h0, h1, h2, h3, z0, z1, z2, z3, hs⟩ := h
 exact ⟨st_other h0 (ad_ne (.inl hne)), st_other h1 (ad_ne (.inl hne)), st_other h2 (ad_ne (.inl hne)), st_other h3 (ad_ne (.inl hne)), st_fz z0, st_fz z1, st_fz z2, st_fz z3, by simpa using hs⟩
/-- What is in a block of one's own, and the deck's and the stock's boxes. -/
theorem Cells4.box (w : World) (d : Dk) (t : TypeId) : Cells4 (w.alloc (.cells #[.slice d.bA d.bn d.bc, .slice d.pA d.pn d.pc, .slice d.rA d.rn d.rc, .int .i64 d.arms] t)) w.heap.size (.slice d.bA d.bn d.bc) (.slice d.pA d.pn d.pc) (.slice d.rA d.rn d.rc) (.int .i64 d.arms) := Cells4.new w t _ _ _ _
abbrev DkAt (V : World) (D : Nat) (d : Dk) : Prop := Cells4 V D (.slice d.bA d.bn d.bc) (.slice d.pA d.pn d.pc) (.slice d.rA d.rn d.rc) (.int .i64 d.arms)
abbrev SkAt (V : World) (D : Nat) (s : Stk) : Prop := Cells6 V D (.slice s.cA s.cl.length s.cc) (.slice s.lA s.ll.length s.lc) (.slice s.tA s.tl.length s.tc) (.int .i64 s.st) (.int .i64 s.inn) (.int .i64 s.out)
end Go.Proofs.Ytacjonncakhhmaa
namespace Go.Proofs.Ytacjonncakhhmaa
open Go.ChangeShapes Go.WideShapes Go.ChangeAt Go.RowKit Go.Deep
set_option maxRecDepth 100000 in
theorem celi3 : Try.prog.cellsOf 3 = 1 := by kernel_rfl
set_option maxRecDepth 100000 in
/-- A struct's fields that came in, each read by itself. -/
theorem fieldz {H : Type} {enc : TypeId × Value → H} {w : World} {fuel : Nat} {t : TypeId} {fs : Array Field} {cs : List Value} {x : DataW H × List MemPlace} (ht : Try.prog.underlying t = some (.struct fs)) (h : DataW.trod enc Try.prog w 0 (fun _ => true) true fuel t cs = some x) :
  cs.length = Try.prog.cellsOf t ∧ ∃ n, ∀ (i : Nat) (f : Field), fs[i]? = some f → ∃ y, DataW.trod enc Try.prog w 0 (fun _ => true) true n f.type ((cs.drop f.offset).take (Try.prog.cellsOf f.type)) = some y := by
 obtain ⟨xs, n, _, _, hl, hlen, hf⟩ := DataW.trod_struct ht h
 refine ⟨hl, n, fun i f hi => ?_⟩
 have hi' : i < xs.length := by
  rw [hlen]
  exact (Array.getElem?_eq_some_iff.1 hi).1
 exact ⟨xs[i], by rw [hf i f hi, List.getElem?_eq_getElem hi']⟩
set_option maxRecDepth 100000 in
theorem one_int' {H : Type} {enc : TypeId × Value → H} {w : World} {n : Nat} {c : Value} (h : ∃ y, DataW.trod enc Try.prog w 0 (fun _ => true) true n 3 [c] = some y) : ∃ k, c = .int .i64 k ∧ fits k := by
 obtain ⟨y, hy⟩ := h
 obtain ⟨k, e, _, hw⟩ := DataW.trod_int Try.underlying3 hy
 simp only [List.cons.injEq, and_true] at e
 exact ⟨k, e, int_fits hw⟩
set_option maxRecDepth 100000 in
theorem cells28 : Try.prog.cellsOf 70 = 1 := by kernel_rfl
set_option maxRecDepth 100000 in
/-- A list of floats that came in. -/
theorem open_floats {H : Type} {enc : TypeId × Value → H} {w : World} {fuel : Nat} {cs : List Value} {x : DataW H × List MemPlace} (h : DataW.trod enc Try.prog w 0 (fun _ => true) true fuel 22 cs = some x) : ∃ v xs, cs = [v] ∧ KF.IsL w w.heap.size v xs := by
 obtain ⟨v, xs, h1, h2, _⟩ := Lk.opened (K := KF) (fun _ => True) cells28 (fun fuel cs x h => by
  obtain ⟨n, rfl, hw⟩ := trod_float Try.underlying70 h
  exact ⟨n, rfl, fl_fits hw, trivial⟩) h
 exact ⟨v, xs, h1, h2⟩
set_option maxRecDepth 100000 in
theorem cells3 : Try.prog.cellsOf 3 = 1 := by kernel_rfl
set_option maxRecDepth 100000 in
theorem cells61 : Try.prog.cellsOf 56 = 1 := by kernel_rfl
set_option maxRecDepth 100000 in
theorem cells22 : Try.prog.cellsOf 22 = 1 := by kernel_rfl
set_option maxRecDepth 100000 in
theorem cells41 : Try.prog.cellsOf 23 = 1 := by kernel_rfl
set_option maxRecDepth 100000 in
theorem cells42 : Try.prog.cellsOf 24 = 1 := by kernel_rfl
set_option maxRecDepth 100000 in
theorem cells44 : Try.prog.cellsOf 26 = 4 := by kernel_rfl
set_option maxRecDepth 100000 in
theorem cells63 : Try.prog.cellsOf 72 = 7 := by kernel_rfl
set_option maxRecDepth 100000 in
theorem cells72 : Try.prog.cellsOf 74 = 5 := by kernel_rfl
set_option maxRecDepth 100000 in
theorem deck_reads : Try.prog.readableRec 26 = true := by kernel_rfl
set_option maxRecDepth 100000 in
theorem deck_row : 26 < Try.prog.types.size := of_decide_eq_true (by kernel_rfl)
set_option maxRecDepth 100000 in
theorem one_float {H : Type} {enc : TypeId × Value → H} {w : World} {n : Nat} {c : Value} (h : ∃ y, DataW.trod enc Try.prog w 0 (fun _ => true) true n 70 [c] = some y) : ∃ k, c = .float .f64 k ∧ k < 18446744073709551616 := by
 obtain ⟨y, hy⟩ := h
 obtain ⟨k, e, hw⟩ := trod_float Try.underlying70 hy
 simp only [List.cons.injEq, and_true] at e
 exact ⟨k, e, fl_fits hw⟩
set_option maxRecDepth 100000 in
theorem one_ints {H : Type} {enc : TypeId × Value → H} {w : World} {n : Nat} {c : Value} (h : ∃ y, DataW.trod enc Try.prog w 0 (fun _ => true) true n 56 [c] = some y) : ∃ xs, KI.IsL w w.heap.size c xs := by
 obtain ⟨y, hy⟩ := h
 obtain ⟨v, xs, h1, h2, _⟩ := Lk.opened (K := KI) (fun _ => True) cells3 (fun fuel cs x h => by
  obtain ⟨k, e, _, hw⟩ := DataW.trod_int Try.underlying3 h
  exact ⟨k, e, int_fits hw, trivial⟩) hy
 simp only [List.cons.injEq, and_true] at h1
 subst h1
 exact ⟨xs, h2⟩
set_option maxRecDepth 100000 in
theorem open_plate {H : Type} {enc : TypeId × Value → H} {w : World} {fuel : Nat} {cs : List Value} {x : DataW H × List MemPlace} (h : DataW.trod enc Try.prog w 0 (fun _ => true) true fuel 72 cs = some x) :
  ∃ q : Pl, cs = KP.cells q ∧ KP.ok q ∧ KI.IsL w w.heap.size (.slice q.sA q.sn q.sc) q.st := by
 obtain ⟨hl, n, hf⟩ := fieldz Try.underlying72 h
 rw [cells63] at hl
 match cs, hl with
 | [c0, c1, c2, c3, c4, c5, c6], _ =>
  have g0 := hf 0 { name := "Rows", type := 3, offset := 0, embedded := false, tag := "", pkgPath := "", byteOffset := 0 } rfl
  have g1 := hf 1 { name := "Cols", type := 3, offset := 1, embedded := false, tag := "", pkgPath := "", byteOffset := 8 } rfl
  have g2 := hf 2 { name := "X", type := 70, offset := 2, embedded := false, tag := "", pkgPath := "", byteOffset := 16 } rfl
  have g3 := hf 3 { name := "Pitch", type := 70, offset := 3, embedded := false, tag := "", pkgPath := "", byteOffset := 24 } rfl
  have g4 := hf 4 { name := "Reach", type := 70, offset := 4, embedded := false, tag := "", pkgPath := "", byteOffset := 32 } rfl
  have g5 := hf 5 { name := "Cap", type := 3, offset := 5, embedded := false, tag := "", pkgPath := "", byteOffset := 40 } rfl
  have g6 := hf 6 { name := "Start", type := 56, offset := 6, embedded := false, tag := "", pkgPath := "", byteOffset := 48 } rfl
  simp only [cells3, cells28, cells61, List.drop_zero, List.drop_succ_cons, List.take_succ_cons, List.take_zero] at g0 g1 g2 g3 g4 g5 g6
  obtain ⟨k0, rfl, f0⟩ := one_int' g0
  obtain ⟨k1, rfl, f1⟩ := one_int' g1
  obtain ⟨k2, rfl, f2⟩ := one_float g2
  obtain ⟨k3, rfl, f3⟩ := one_float g3
  obtain ⟨k4, rfl, f4⟩ := one_float g4
  obtain ⟨k5, rfl, f5⟩ := one_int' g5
  obtain ⟨xs, hx⟩ := one_ints g6
  obtain ⟨A, cap, hv, _, _⟩ := hx.1
  subst hv
  exact ⟨⟨k0, k1, k2, k3, k4, k5, A, xs.length, cap, xs⟩, rfl, ⟨f0, f1, f2, f3, f4, f5⟩, hx⟩
set_option maxRecDepth 100000 in
theorem open_rack {H : Type} {enc : TypeId × Value → H} {w : World} {fuel : Nat} {cs : List Value} {x : DataW H × List MemPlace} (h : DataW.trod enc Try.prog w 0 (fun _ => true) true fuel 74 cs = some x) :
  ∃ q : Rk, cs = KR.cells q ∧ KR.ok q ∧ True := by
 obtain ⟨hl, n, hf⟩ := fieldz Try.underlying74 h
 rw [cells72] at hl
 match cs, hl with
 | [c0, c1, c2, c3, c4], _ =>
  have g0 := hf 0 { name := "Rows", type := 3, offset := 0, embedded := false, tag := "", pkgPath := "", byteOffset := 0 } rfl
  have g1 := hf 1 { name := "Cols", type := 3, offset := 1, embedded := false, tag := "", pkgPath := "", byteOffset := 8 } rfl
  have g2 := hf 2 { name := "X", type := 70, offset := 2, embedded := false, tag := "", pkgPath := "", byteOffset := 16 } rfl
  have g3 := hf 3 { name := "Pitch", type := 70, offset := 3, embedded := false, tag := "", pkgPath := "", byteOffset := 24 } rfl
  have g4 := hf 4 { name := "Reach", type := 70, offset := 4, embedded := false, tag := "", pkgPath := "", byteOffset := 32 } rfl
  simp only [cells3, cells28, List.drop_zero, List.drop_succ_cons, List.take_succ_cons, List.take_zero] at g0 g1 g2 g3 g4
  obtain ⟨k0, rfl, f0⟩ := one_int' g0
  obtain ⟨k1, rfl, f1⟩ := one_int' g1
  obtain ⟨k2, rfl, f2⟩ := one_float g2
  obtain ⟨k3, rfl, f3⟩ := one_float g3
  obtain ⟨k4, rfl, f4⟩ := one_float g4
  exact ⟨⟨k0, k1, k2, k3, k4⟩, rfl, ⟨f0, f1, f2, f3, f4⟩, trivial⟩
set_option maxRecDepth 100000 in
/-- A deck that came in. -/
theorem open_deck {H : Type} {enc : TypeId × Value → H} {W w : World} {r : Reach} {base : Nat} {v : Value} {d : DataW H} {ps : List MemPlace} (hv : Value.okWide Try.prog W r base 26 v) (h : DataW.Trod enc Try.prog w 0 (fun _ => true) true 26 v d ps) : ∃ D : Dk, v = D.v ∧ D.In w w.heap.size := by
 obtain ⟨ca, rfl, hca⟩ := okWide_struct Try.underlying26 hv
 obtain ⟨fuel, hf0⟩ := h
 obtain ⟨hl, n, hf⟩ := fieldz Try.underlying26 hf0
 have hcs : (Value.agg ca).cells = ca := by simp [Value.cells]
 rw [hcs] at hl hf
 rw [cells44] at hl
 match ca, hl with
 | ⟨[c0, c1, c2, c3]⟩, _ =>
  have g0 := hf 0 { name := "Borders", type := 22, offset := 0, embedded := false, tag := "", pkgPath := "", byteOffset := 0 } rfl
  have g1 := hf 1 { name := "Plates", type := 23, offset := 1, embedded := false, tag := "", pkgPath := "", byteOffset := 24 } rfl
  have g2 := hf 2 { name := "Racks", type := 24, offset := 2, embedded := false, tag := "", pkgPath := "", byteOffset := 48 } rfl
  have g3 := hf 3 { name := "Arms", type := 3, offset := 3, embedded := false, tag := "", pkgPath := "", byteOffset := 72 } rfl
  simp only [cells3, cells22, cells41, cells42, List.drop_zero, List.drop_succ_cons, List.take_succ_cons, List.take_zero] at g0 g1 g2 g3
  obtain ⟨k3, rfl, f3⟩ := one_int' g3
  obtain ⟨y0, e0⟩ := g0
  obtain ⟨y1, e1⟩ := g1
  obtain ⟨y2, e2⟩ := g2
  obtain ⟨v0, bl, a0, b0⟩ := open_floats e0
  obtain ⟨v1, pl, a1, b1, q1⟩ := Lk.opened (K := KP) (fun q => KI.IsL w w.heap.size (.slice q.sA q.sn q.sc) q.st) cells63 (fun fuel cs x h => open_plate h) e1
  obtain ⟨v2, rl, a2, b2, _⟩ := Lk.opened (K := KR) (fun _ => True) cells72 (fun fuel cs x h => open_rack h) e2
  have z0 : c0 = v0 := by simpa using a0
  have z1 : c1 = v1 := by simpa using a1
  have z2 : c2 = v2 := by simpa using a2
  subst z0 z1 z2
  obtain ⟨A0, m0, h0, _, _⟩ := b0.1
  obtain ⟨A1, m1, h1, _, _⟩ := b1.1
  obtain ⟨A2, m2, h2, _, _⟩ := b2.1
  subst h0 h1 h2
  exact ⟨⟨A0, bl.length, m0, bl, A1, pl.length, m1, pl, A2, rl.length, m2, rl, k3⟩, rfl, ⟨b0, b1, b2, q1, f3⟩⟩
end Go.Proofs.Ytacjonncakhhmaa
namespace Go.Proofs.Ytacjonncakhhmaa
open Go.RowKit
end Go.Proofs.Ytacjonncakhhmaa

/- Sum, difference and product of two whole numbers: what the program and the reference answer. -/
import Derived.Test.YtacjonncakhhmaaGreatPz02
import Derived.Test.YtacjonncakhhmaaGreatPz07
import Derived.Test.YtacjonncakhhmaaGreatPz06
import Derived.Test.YtacjonncakhhmaaGreatChecked
import Derived.Test.YtacjonncakhhmaaGreatPz00
import Derived.WalkKit
import Derived.WalkLawsBesides
import Derived.WalkSpells
import Derived.Outline
import Derived.KernelRfl
import Derived.Lib.Hide
namespace Go.Proofs.YtacjonncakhhmaaGreat
open Go.RowKit
def ceCells (q : Cel.Ce) : List Value := [.int .i64 q.a, .int .i64 q.b, .int .i64 q.c]
def ce0 : Cel.Ce := ⟨0, 0, 0⟩
/-- Lists of cells. -/
noncomputable def KE : Lk Tryz.prog Cel.Ce where
 S := 27
 E := 58
 n := 3
 zero := .agg #[.int .i64 0, .int .i64 0, .int .i64 0]
 bytes := 24
 cells := ceCells
 dflt := ce0
 ok := fun q => q.Fit
 und := Tryz.underlying27
 info := by kernel_rfl
 zs := rfl
 pos := by decide
 small := by decide
 len _ := rfl
 one x u hu := by
  simp only [ceCells, List.mem_cons, List.not_mem_nil, or_false] at hu
  rcases hu with rfl | rfl | rfl <;> rfl
/-- A log: its room, its last version, where its changes lie, and which they are. -/
structure Lo where
 r : Int
 l : Int
 A : Option Addr
 c : Nat
 xs : List Ch
def loCells (q : Lo) : List Value := [.int .i64 q.r, .int .i64 q.l, .slice q.A q.xs.length q.c]
def lo0 : Lo := ⟨0, 0, none, 0, []⟩
/-- Lists of logs. -/
noncomputable def KL : Lk Tryz.prog Lo where
 S := 28
 E := 50
 n := 3
 zero := .agg #[.int .i64 0, .int .i64 0, .slice none 0 0]
 bytes := 40
 cells := loCells
 dflt := lo0
 ok := fun q => fits q.r ∧ fits q.l
 und := Tryz.underlying28
 info := by kernel_rfl
 zs := rfl
 pos := by decide
 small := by decide
 len _ := rfl
 one x u hu := by
  simp only [loCells, List.mem_cons, List.not_mem_nil, or_false] at hu
  rcases hu with rfl | rfl | rfl <;> rfl
theorem ce_cells {w : World} {B : Nat} {A : Option Addr} {n c : Nat} {xs : List Cel.Ce} (h : KE.IsL w B (.slice A n c) xs) (h0 : 0 < xs.length) : ∃ b off, A = some ⟨b, off, none⟩ ∧ b < B ∧ xs.length ≤ c ∧
  ∀ i, i < xs.length → w.cell? ⟨b, off + i * 3, none⟩ = some (.int .i64 (xs.getD i ce0).a) ∧ w.cell? ⟨b, off + i * 3 + 1, none⟩ = some (.int .i64 (xs.getD i ce0).b) ∧ w.cell? ⟨b, off + i * 3 + 2, none⟩ = some (.int .i64 (xs.getD i ce0).c) := by
 obtain ⟨b, off, e, hb, hc, hcell⟩ := h.elem h0
 refine ⟨b, off, e, hb, hc, fun i hi => ?_⟩
 have q := fun j u hu => hcell i hi j u hu
 have hn : KE.n = 3 := rfl
 simp only [hn, ← Nat.add_assoc] at q
 exact ⟨q 0 _ rfl, q 1 _ rfl, q 2 _ rfl⟩
theorem lo_cells {w : World} {B : Nat} {A : Option Addr} {n c : Nat} {xs : List Lo} (h : KL.IsL w B (.slice A n c) xs) (h0 : 0 < xs.length) : ∃ b off, A = some ⟨b, off, none⟩ ∧ b < B ∧ xs.length ≤ c ∧
  ∀ i, i < xs.length → w.cell? ⟨b, off + i * 3, none⟩ = some (.int .i64 (xs.getD i lo0).r) ∧ w.cell? ⟨b, off + i * 3 + 1, none⟩ = some (.int .i64 (xs.getD i lo0).l) ∧ w.cell? ⟨b, off + i * 3 + 2, none⟩ = some (.slice (xs.getD i lo0).A (xs.getD i lo0).xs.length (xs.getD i lo0).c) := by
 obtain ⟨b, off, e, hb, hc, hcell⟩ := h.elem h0
 refine ⟨b, off, e, hb, hc, fun i hi => ?_⟩
 have q := fun j u hu => hcell i hi j u hu
 have hn : KL.n = 3 := rfl
 simp only [hn, ← Nat.add_assoc] at q
 exact ⟨q 0 _ rfl, q 1 _ rfl, q 2 _ rfl⟩
/-- A stock: where its lists lie, and what they are. -/
structure Stk where
 cA : Option Addr
 cc : Nat
 cl : List Cel.Ce
 lA : Option Addr
 lc : Nat
 ll : List Lo
 tA : Option Addr
 tc : Nat
 tl : List (Int × Int)
 st : Int
 inn : Int
 out : Int
abbrev Stk.v (s : Stk) : Value := .agg #[.slice s.cA s.cl.length s.cc, .slice s.lA s.ll.length s.lc, .slice s.tA s.tl.length s.tc, .int .i64 s.st, .int .i64 s.inn, .int .i64 s.out]
/-- A stock that lies in memory below a block. -/
structure Stk.In (w : World) (B : Nat) (s : Stk) : Prop where
 c : KE.IsL w B (.slice s.cA s.cl.length s.cc) s.cl
 l : KL.IsL w B (.slice s.lA s.ll.length s.lc) s.ll
 t : KT.IsL w B (.slice s.tA s.tl.length s.tc) s.tl
 x : ∀ q ∈ s.ll, KC.IsL w B (.slice q.A q.xs.length q.c) q.xs
 f : fits s.st ∧ fits s.inn ∧ fits s.out
theorem Stk.In.below {w w' : World} {B : Nat} {s : Stk} (h : s.In w B) (hb : Below B w w') : s.In w' B := ⟨h.c.below hb, h.l.below hb, h.t.below hb, fun q hq => (h.x q hq).below hb, h.f⟩
theorem Stk.In.more {w : World} {B B' : Nat} {s : Stk} (h : s.In w B) (hB : B ≤ B') : s.In w B' := ⟨h.c.more hB, h.l.more hB, h.t.more hB, fun q hq => (h.x q hq).more hB, h.f⟩
theorem Stk.In.then {w w' : World} {s : Stk} (h : s.In w w.heap.size) (hb : Below w.heap.size w w') : s.In w' w'.heap.size := (h.below hb).more hb.size
/-- What a stock is, wherever it lies. -/
structure Ab where
 c : List Cel.Ce
 l : List (Int × Int × List Ch)
 t : List (Int × Int)
 st : Int
 inn : Int
 out : Int
def Lo.ab (q : Lo) : Int × Int × List Ch := (q.r, q.l, q.xs)
def Stk.ab (s : Stk) : Ab := ⟨s.cl, s.ll.map Lo.ab, s.tl, s.st, s.inn, s.out⟩
def ab0 : Ab := ⟨[], [], [], 0, 0, 0⟩
def stk0 : Stk := ⟨none, 0, [], none, 0, [], none, 0, [], 0, 0, 0⟩
theorem stk0_in (w : World) (B : Nat) : stk0.In w B := ⟨Lk.IsL.nil _ _ _ _, Lk.IsL.nil _ _ _ _, Lk.IsL.nil _ _ _ _, fun q hq => by simp [stk0] at hq, by decide, by decide, by decide⟩
/-- 4 cells of an own block. -/
def Cells4 (V : World) (D : Nat) (x0 x1 x2 x3 : Value) : Prop :=
 V.cell? ⟨D, 0, none⟩ = some x0 ∧ V.cell? ⟨D, 1, none⟩ = some x1 ∧ V.cell? ⟨D, 2, none⟩ = some x2 ∧ V.cell? ⟨D, 3, none⟩ = some x3 ∧
 V.frozen? ⟨D, 0, none⟩ = false ∧ V.frozen? ⟨D, 1, none⟩ = false ∧ V.frozen? ⟨D, 2, none⟩ = false ∧ V.frozen? ⟨D, 3, none⟩ = false ∧ D < V.heap.size
theorem Cells4.new (V : World) (t : TypeId) (x0 x1 x2 x3 : Value) : Cells4 (V.alloc (.cells #[x0, x1, x2, x3] t)) V.heap.size x0 x1 x2 x3 :=
 ⟨by rw [alloc_at]; rfl, by rw [alloc_at]; rfl, by rw [alloc_at]; rfl, by rw [alloc_at]; rfl, by simp, by simp, by simp, by simp, by simp⟩
theorem Cells4.below {V V' : World} {D : Nat} {x0 x1 x2 x3 : Value} (h : Cells4 V D x0 x1 x2 x3) (hb : Below V.heap.size V V') : Cells4 V' D x0 x1 x2 x3 := by
 obtain ⟨h0, h1, h2, h3, z0, z1, z2, z3, hs⟩ := h
 refine ⟨keep_cell hb h0, keep_cell hb h1, keep_cell hb h2, keep_cell hb h3, ?_, ?_, ?_, ?_, Nat.lt_of_lt_of_le hs hb.size⟩
 ·rw [hb.frozen (p := ⟨D, 0, none⟩) hs]; exact z0
 ·rw [hb.frozen (p := ⟨D, 1, none⟩) hs]; exact z1
 ·rw [hb.frozen (p := ⟨D, 2, none⟩) hs]; exact z2
 ·rw [hb.frozen (p := ⟨D, 3, none⟩) hs]; exact z3
theorem Cells4.set {V : World} {D : Nat} {x0 x1 x2 x3 : Value} (h : Cells4 V D x0 x1 x2 x3) (p0 p1 p2 p3 : Value) : Cells4 ((((V.setCell ⟨D, 0, none⟩ p0).setCell ⟨D, 1, none⟩ p1).setCell ⟨D, 2, none⟩ p2).setCell ⟨D, 3, none⟩ p3) D p0 p1 p2 p3 := by
 obtain ⟨h0, h1, h2, h3, z0, z1, z2, z3, hs⟩ := h
 refine ⟨st_other (st_other (st_other (st_same (h0)) (ad_ne (.inr (by decide)))) (ad_ne (.inr (by decide)))) (ad_ne (.inr (by decide))), st_other (st_other (st_same (st_other (h1) (ad_ne (.inr (by decide))))) (ad_ne (.inr (by decide)))) (ad_ne (.inr (by decide))), st_other (st_same (st_other (st_other (h2) (ad_ne (.inr (by decide)))) (ad_ne (.inr (by decide))))) (ad_ne (.inr (by decide))), st_same (st_other (st_other (st_other (h3) (ad_ne (.inr (by decide)))) (ad_ne (.inr (by decide)))) (ad_ne (.inr (by decide)))), st_fz (st_fz (st_fz (st_fz (z0)))), st_fz (st_fz (st_fz (st_fz (z1)))), st_fz (st_fz (st_fz (st_fz (z2)))), st_fz (st_fz (st_fz (st_fz (z3)))), ?_⟩
 simpa using hs
theorem Cells4.apart {V : World} {D G : Nat} {x0 x1 x2 x3 : Value} (h : Cells4 V G x0 x1 x2 x3) (hne : D ≠ G) (p0 p1 p2 p3 : Value) : Cells4 ((((V.setCell ⟨D, 0, none⟩ p0).setCell ⟨D, 1, none⟩ p1).setCell ⟨D, 2, none⟩ p2).setCell ⟨D, 3, none⟩ p3) G x0 x1 x2 x3 := by
 obtain ⟨h0, h1, h2, h3, z0, z1, z2, z3, hs⟩ := h
 refine ⟨st_other (st_other (st_other (st_other (h0) (ad_ne (.inl hne))) (ad_ne (.inl hne))) (ad_ne (.inl hne))) (ad_ne (.inl hne)), st_other (st_other (st_other (st_other (h1) (ad_ne (.inl hne))) (ad_ne (.inl hne))) (ad_ne (.inl hne))) (ad_ne (.inl hne)), st_other (st_other (st_other (st_other (h2) (ad_ne (.inl hne))) (ad_ne (.inl hne))) (ad_ne (.inl hne))) (ad_ne (.inl hne)), st_other (st_other (st_other (st_other (h3) (ad_ne (.inl hne))) (ad_ne (.inl hne))) (ad_ne (.inl hne))) (ad_ne (.inl hne)), st_fz (st_fz (st_fz (st_fz (z0)))), st_fz (st_fz (st_fz (st_fz (z1)))), st_fz (st_fz (st_fz (st_fz (z2)))), st_fz (st_fz (st_fz (st_fz (z3)))), ?_⟩
 simpa using hs
/-- 6 cells of an own block. -/
def Cells6 (V : World) (D : Nat) (x0 x1 x2 x3 x4 x5 : Value) : Prop :=
 V.cell? ⟨D, 0, none⟩ = some x0 ∧ V.cell? ⟨D, 1, none⟩ = some x1 ∧ V.cell? ⟨D, 2, none⟩ = some x2 ∧ V.cell? ⟨D, 3, none⟩ = some x3 ∧ V.cell? ⟨D, 4, none⟩ = some x4 ∧ V.cell? ⟨D, 5, none⟩ = some x5 ∧
 V.frozen? ⟨D, 0, none⟩ = false ∧ V.frozen? ⟨D, 1, none⟩ = false ∧ V.frozen? ⟨D, 2, none⟩ = false ∧ V.frozen? ⟨D, 3, none⟩ = false ∧ V.frozen? ⟨D, 4, none⟩ = false ∧ V.frozen? ⟨D, 5, none⟩ = false ∧ D < V.heap.size
theorem Cells6.new (V : World) (t : TypeId) (x0 x1 x2 x3 x4 x5 : Value) : Cells6 (V.alloc (.cells #[x0, x1, x2, x3, x4, x5] t)) V.heap.size x0 x1 x2 x3 x4 x5 :=
 ⟨by rw [alloc_at]; rfl, by rw [alloc_at]; rfl, by rw [alloc_at]; rfl, by rw [alloc_at]; rfl, by rw [alloc_at]; rfl, by rw [alloc_at]; rfl, by simp, by simp, by simp, by simp, by simp, by simp, by simp⟩
theorem Cells6.below {V V' : World} {D : Nat} {x0 x1 x2 x3 x4 x5 : Value} (h : Cells6 V D x0 x1 x2 x3 x4 x5) (hb : Below V.heap.size V V') : Cells6 V' D x0 x1 x2 x3 x4 x5 := by
 obtain ⟨h0, h1, h2, h3, h4, h5, z0, z1, z2, z3, z4, z5, hs⟩ := h
 refine ⟨keep_cell hb h0, keep_cell hb h1, keep_cell hb h2, keep_cell hb h3, keep_cell hb h4, keep_cell hb h5, ?_, ?_, ?_, ?_, ?_, ?_, Nat.lt_of_lt_of_le hs hb.size⟩
 ·rw [hb.frozen (p := ⟨D, 0, none⟩) hs]; exact z0
 ·rw [hb.frozen (p := ⟨D, 1, none⟩) hs]; exact z1
 ·rw [hb.frozen (p := ⟨D, 2, none⟩) hs]; exact z2
 ·rw [hb.frozen (p := ⟨D, 3, none⟩) hs]; exact z3
 ·rw [hb.frozen (p := ⟨D, 4, none⟩) hs]; exact z4
 ·rw [hb.frozen (p := ⟨D, 5, none⟩) hs]; exact z5
theorem Cells6.set {V : World} {D : Nat} {x0 x1 x2 x3 x4 x5 : Value} (h : Cells6 V D x0 x1 x2 x3 x4 x5) (p0 p1 p2 p3 p4 p5 : Value) : Cells6 ((((((V.setCell ⟨D, 0, none⟩ p0).setCell ⟨D, 1, none⟩ p1).setCell ⟨D, 2, none⟩ p2).setCell ⟨D, 3, none⟩ p3).setCell ⟨D, 4, none⟩ p4).setCell ⟨D, 5, none⟩ p5) D p0 p1 p2 p3 p4 p5 := by
 obtain ⟨h0, h1, h2, h3, h4, h5, z0, z1, z2, z3, z4, z5, hs⟩ := h
 refine ⟨st_other (st_other (st_other (st_other (st_other (st_same (h0)) (ad_ne (.inr (by decide)))) (ad_ne (.inr (by decide)))) (ad_ne (.inr (by decide)))) (ad_ne (.inr (by decide)))) (ad_ne (.inr (by decide))), st_other (st_other (st_other (st_other (st_same (st_other (h1) (ad_ne (.inr (by decide))))) (ad_ne (.inr (by decide)))) (ad_ne (.inr (by decide)))) (ad_ne (.inr (by decide)))) (ad_ne (.inr (by decide))), st_other (st_other (st_other (st_same (st_other (st_other (h2) (ad_ne (.inr (by decide)))) (ad_ne (.inr (by decide))))) (ad_ne (.inr (by decide)))) (ad_ne (.inr (by decide)))) (ad_ne (.inr (by decide))), st_other (st_other (st_same (st_other (st_other (st_other (h3) (ad_ne (.inr (by decide)))) (ad_ne (.inr (by decide)))) (ad_ne (.inr (by decide))))) (ad_ne (.inr (by decide)))) (ad_ne (.inr (by decide))), st_other (st_same (st_other (st_other (st_other (st_other (h4) (ad_ne (.inr (by decide)))) (ad_ne (.inr (by decide)))) (ad_ne (.inr (by decide)))) (ad_ne (.inr (by decide))))) (ad_ne (.inr (by decide))), st_same (st_other (st_other (st_other (st_other (st_other (h5) (ad_ne (.inr (by decide)))) (ad_ne (.inr (by decide)))) (ad_ne (.inr (by decide)))) (ad_ne (.inr (by decide)))) (ad_ne (.inr (by decide)))), st_fz (st_fz (st_fz (st_fz (st_fz (st_fz (z0)))))), st_fz (st_fz (st_fz (st_fz (st_fz (st_fz (z1)))))), st_fz (st_fz (st_fz (st_fz (st_fz (st_fz (z2)))))), st_fz (st_fz (st_fz (st_fz (st_fz (st_fz (z3)))))), st_fz (st_fz (st_fz (st_fz (st_fz (st_fz (z4)))))), st_fz (st_fz (st_fz (st_fz (st_fz (st_fz (z5)))))), ?_⟩
 simpa using hs
theorem Cells6.apart {V : World} {D G : Nat} {x0 x1 x2 x3 x4 x5 : Value} (h : Cells6 V G x0 x1 x2 x3 x4 x5) (hne : D ≠ G) (p0 p1 p2 p3 p4 p5 : Value) : Cells6 ((((((V.setCell ⟨D, 0, none⟩ p0).setCell ⟨D, 1, none⟩ p1).setCell ⟨D, 2, none⟩ p2).setCell ⟨D, 3, none⟩ p3).setCell ⟨D, 4, none⟩ p4).setCell ⟨D, 5, none⟩ p5) G x0 x1 x2 x3 x4 x5 := by
 obtain ⟨h0, h1, h2, h3, h4, h5, z0, z1, z2, z3, z4, z5, hs⟩ := h
 refine ⟨st_other (st_other (st_other (st_other (st_other (st_other (h0) (ad_ne (.inl hne))) (ad_ne (.inl hne))) (ad_ne (.inl hne))) (ad_ne (.inl hne))) (ad_ne (.inl hne))) (ad_ne (.inl hne)), st_other (st_other (st_other (st_other (st_other (st_other (h1) (ad_ne (.inl hne))) (ad_ne (.inl hne))) (ad_ne (.inl hne))) (ad_ne (.inl hne))) (ad_ne (.inl hne))) (ad_ne (.inl hne)), st_other (st_other (st_other (st_other (st_other (st_other (h2) (ad_ne (.inl hne))) (ad_ne (.inl hne))) (ad_ne (.inl hne))) (ad_ne (.inl hne))) (ad_ne (.inl hne))) (ad_ne (.inl hne)), st_other (st_other (st_other (st_other (st_other (st_other (h3) (ad_ne (.inl hne))) (ad_ne (.inl hne))) (ad_ne (.inl hne))) (ad_ne (.inl hne))) (ad_ne (.inl hne))) (ad_ne (.inl hne)), st_other (st_other (st_other (st_other (st_other (st_other (h4) (ad_ne (.inl hne))) (ad_ne (.inl hne))) (ad_ne (.inl hne))) (ad_ne (.inl hne))) (ad_ne (.inl hne))) (ad_ne (.inl hne)), st_other (st_other (st_other (st_other (st_other (st_other (h5) (ad_ne (.inl hne))) (ad_ne (.inl hne))) (ad_ne (.inl hne))) (ad_ne (.inl hne))) (ad_ne (.inl hne))) (ad_ne (.inl hne)), st_fz (st_fz (st_fz (st_fz (st_fz (st_fz (z0)))))), st_fz (st_fz (st_fz (st_fz (st_fz (st_fz (z1)))))), st_fz (st_fz (st_fz (st_fz (st_fz (st_fz (z2)))))), st_fz (st_fz (st_fz (st_fz (st_fz (st_fz (z3)))))), st_fz (st_fz (st_fz (st_fz (st_fz (st_fz (z4)))))), st_fz (st_fz (st_fz (st_fz (st_fz (st_fz (z5)))))), ?_⟩
 simpa using hs
theorem below_set6 {V w : World} {B D : Nat} (h : Below B w V) (hB : B ≤ D) (p0 p1 p2 p3 p4 p5 : Value) : Below B w ((((((V.setCell ⟨D, 0, none⟩ p0).setCell ⟨D, 1, none⟩ p1).setCell ⟨D, 2, none⟩ p2).setCell ⟨D, 3, none⟩ p3).setCell ⟨D, 4, none⟩ p4).setCell ⟨D, 5, none⟩ p5) := ((((((h.setCell hB _).setCell hB _).setCell hB _).setCell hB _).setCell hB _).setCell hB _)
theorem Cells6.s {V : World} {D : Nat} {x0 x1 x2 x3 x4 x5 : Value} (h : Cells6 V D x0 x1 x2 x3 x4 x5) (p : Value) : Cells6 (V.setCell ⟨D, 0, none⟩ p) D p x1 x2 x3 x4 x5 ∧ Cells6 (V.setCell ⟨D, 1, none⟩ p) D x0 p x2 x3 x4 x5 ∧ Cells6 (V.setCell ⟨D, 2, none⟩ p) D x0 x1 p x3 x4 x5 ∧
  Cells6 (V.setCell ⟨D, 3, none⟩ p) D x0 x1 x2 p x4 x5 ∧ Cells6 (V.setCell ⟨D, 4, none⟩ p) D x0 x1 x2 x3 p x5 ∧ Cells6 (V.setCell ⟨D, 5, none⟩ p) D x0 x1 x2 x3 x4 p := by
 obtain ⟨h0, h1, h2, h3, h4, h5, z0, z1, z2, z3, z4, z5, hs⟩ := h
 have ne : ∀ {i j : Nat}, i ≠ j → (⟨D, i, none⟩ : Addr) ≠ ⟨D, j, none⟩ := fun h => ad_ne (.inr h)
 exact ⟨⟨st_same h0, st_other h1 (ne (by decide)), st_other h2 (ne (by decide)), st_other h3 (ne (by decide)), st_other h4 (ne (by decide)), st_other h5 (ne (by decide)), st_fz z0, st_fz z1, st_fz z2, st_fz z3, st_fz z4, st_fz z5, by simpa using hs⟩,
  ⟨st_other h0 (ne (by decide)), st_same h1, st_other h2 (ne (by decide)), st_other h3 (ne (by decide)), st_other h4 (ne (by decide)), st_other h5 (ne (by decide)), st_fz z0, st_fz z1, st_fz z2, st_fz z3, st_fz z4, st_fz z5, by simpa using hs⟩,
  ⟨st_other h0 (ne (by decide)), st_other h1 (ne (by decide)), st_same h2, st_other h3 (ne (by decide)), st_other h4 (ne (by decide)), st_other h5 (ne (by decide)), st_fz z0, st_fz z1, st_fz z2, st_fz z3, st_fz z4, st_fz z5, by simpa using hs⟩,
  ⟨st_other h0 (ne (by decide)), st_other h1 (ne (by decide)), st_other h2 (ne (by decide)), st_same h3, st_other h4 (ne (by decide)), st_other h5 (ne (by decide)), st_fz z0, st_fz z1, st_fz z2, st_fz z3, st_fz z4, st_fz z5, by simpa using hs⟩,
  ⟨st_other h0 (ne (by decide)), st_other h1 (ne (by decide)), st_other h2 (ne (by decide)), st_other h3 (ne (by decide)), st_same h4, st_other h5 (ne (by decide)), st_fz z0, st_fz z1, st_fz z2, st_fz z3, st_fz z4, st_fz z5, by simpa using hs⟩,
  ⟨st_other h0 (ne (by decide)), st_other h1 (ne (by decide)), st_other h2 (ne (by decide)), st_other h3 (ne (by decide)), st_other h4 (ne (by decide)), st_same h5, st_fz z0, st_fz z1, st_fz z2, st_fz z3, st_fz z4, st_fz z5, by simpa using hs⟩⟩
theorem Cells6.off {V : World} {D G o : Nat} {x0 x1 x2 x3 x4 x5 : Value} (h : Cells6 V G x0 x1 x2 x3 x4 x5) (hne : D ≠ G) (p : Value) : Cells6 (V.setCell ⟨D, o, none⟩ p) G x0 x1 x2 x3 x4 x5 := by
 obtain ⟨h0, h1, h2, h3, h4, h5, z0, z1, z2, z3, z4, z5, hs⟩ := h
 exact ⟨st_other h0 (ad_ne (.inl hne)), st_other h1 (ad_ne (.inl hne)), st_other h2 (ad_ne (.inl hne)), st_other h3 (ad_ne (.inl hne)), st_other h4 (ad_ne (.inl hne)), st_other h5 (ad_ne (.inl hne)), st_fz z0, st_fz z1, st_fz z2, st_fz z3, st_fz z4, st_fz z5, by simpa using hs⟩
theorem Cells4.off {V : World} {D G o : Nat} {x0 x1 x2 x3 : Value} (h : Cells4 V G x0 x1 x2 x3) (hne : D ≠ G) (p : Value) : Cells4 (V.setCell ⟨D, o, none⟩ p) G x0 x1 x2 x3 := by
 obtain ⟨h0, h1, h2, h3, z0, z1, z2, z3, hs⟩ := h
 exact ⟨st_other h0 (ad_ne (.inl hne)), st_other h1 (ad_ne (.inl hne)), st_other h2 (ad_ne (.inl hne)), st_other h3 (ad_ne (.inl hne)), st_fz z0, st_fz z1, st_fz z2, st_fz z3, by simpa using hs⟩
/-- What is in a block of one's own, and the deck's and the stock's boxes. -/
theorem Cells4.box (w : World) (d : Dk) (t : TypeId) : Cells4 (w.alloc (.cells #[.slice d.bA d.bn d.bc, .slice d.pA d.pn d.pc, .slice d.rA d.rn d.rc, .int .i64 d.arms] t)) w.heap.size (.slice d.bA d.bn d.bc) (.slice d.pA d.pn d.pc) (.slice d.rA d.rn d.rc) (.int .i64 d.arms) := Cells4.new w t _ _ _ _
abbrev DkAt (V : World) (D : Nat) (d : Dk) : Prop := Cells4 V D (.slice d.bA d.bn d.bc) (.slice d.pA d.pn d.pc) (.slice d.rA d.rn d.rc) (.int .i64 d.arms)
abbrev SkAt (V : World) (D : Nat) (s : Stk) : Prop := Cells6 V D (.slice s.cA s.cl.length s.cc) (.slice s.lA s.ll.length s.lc) (.slice s.tA s.tl.length s.tc) (.int .i64 s.st) (.int .i64 s.inn) (.int .i64 s.out)
end Go.Proofs.YtacjonncakhhmaaGreat
namespace Go.Proofs.YtacjonncakhhmaaGreat
open Go.RowKit
end Go.Proofs.YtacjonncakhhmaaGreat

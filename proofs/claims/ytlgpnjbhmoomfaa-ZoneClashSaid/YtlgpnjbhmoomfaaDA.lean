/- Words for decks in memory; whether a plate, a rack may be: what the program and the reference answer. -/
import Derived.Test.YtlgpnjbhmoomfaaKJ
namespace Go.Proofs.Ytlgpnjbhmoomfaa
open Go.RowKit

/-- A plate: its numbers, where its volumes lie, and what they are. -/
structure Pl where
  rows : Int
  cols : Int
  x : Nat
  p : Nat
  r : Nat
  cap : Int
  sA : Option Addr
  sn : Nat
  sc : Nat
  st : List Int
structure Rk where
  rows : Int
  cols : Int
  x : Nat
  p : Nat
  r : Nat
/-- Four numbers. -/
structure Q4 where
  a : Int
  b : Int
  c : Int
  d : Int
  deriving DecidableEq
def plCells (q : Pl) : List Value := [.int .i64 q.rows, .int .i64 q.cols, .float .f64 q.x, .float .f64 q.p, .float .f64 q.r, .int .i64 q.cap, .slice q.sA q.sn q.sc]
def rkCells (q : Rk) : List Value := [.int .i64 q.rows, .int .i64 q.cols, .float .f64 q.x, .float .f64 q.p, .float .f64 q.r]
def q4Cells (q : Q4) : List Value := [.int .i64 q.a, .int .i64 q.b, .int .i64 q.c, .int .i64 q.d]
noncomputable def KP : Lk Try.prog Pl where
  S := 23
  E := 75
  n := 7
  zero := .agg #[.int .i64 0, .int .i64 0, .float .f64 0, .float .f64 0, .float .f64 0, .int .i64 0, .slice none 0 0]
  bytes := 72
  cells := plCells
  dflt := ⟨0, 0, 0, 0, 0, 0, none, 0, 0, []⟩
  ok q := fits q.rows ∧ fits q.cols ∧ q.x < 18446744073709551616 ∧ q.p < 18446744073709551616 ∧ q.r < 18446744073709551616 ∧ fits q.cap
  und := Try.underlying23
  info := by kernel_rfl
  zs := rfl
  pos := by decide
  small := by decide
  len _ := rfl
  one x u hu := by
    simp only [plCells, List.mem_cons, List.not_mem_nil, or_false] at hu
    rcases hu with rfl | rfl | rfl | rfl | rfl | rfl | rfl <;> rfl
noncomputable def KR : Lk Try.prog Rk where
  S := 24
  E := 79
  n := 5
  zero := .agg #[.int .i64 0, .int .i64 0, .float .f64 0, .float .f64 0, .float .f64 0]
  bytes := 40
  cells := rkCells
  dflt := ⟨0, 0, 0, 0, 0⟩
  ok q := fits q.rows ∧ fits q.cols ∧ q.x < 18446744073709551616 ∧ q.p < 18446744073709551616 ∧ q.r < 18446744073709551616
  und := Try.underlying24
  info := by kernel_rfl
  zs := rfl
  pos := by decide
  small := by decide
  len _ := rfl
  one x u hu := by
    simp only [rkCells, List.mem_cons, List.not_mem_nil, or_false] at hu
    rcases hu with rfl | rfl | rfl | rfl | rfl <;> rfl
noncomputable def KU : Lk Try.prog Q4 where
  S := 97
  E := 100
  n := 4
  zero := .agg #[.int .i64 0, .int .i64 0, .int .i64 0, .int .i64 0]
  bytes := 32
  cells := q4Cells
  dflt := ⟨0, 0, 0, 0⟩
  ok q := fits q.a ∧ fits q.b ∧ fits q.c ∧ fits q.d
  und := Try.underlying97
  info := by kernel_rfl
  zs := rfl
  pos := by decide
  small := by decide
  len _ := rfl
  one x u hu := by
    simp only [q4Cells, List.mem_cons, List.not_mem_nil, or_false] at hu
    rcases hu with rfl | rfl | rfl | rfl <;> rfl
noncomputable def KQ : Lk Try.prog Q4 where
  S := 83
  E := 38
  n := 4
  zero := .agg #[.int .i64 0, .int .i64 0, .int .i64 0, .int .i64 0]
  bytes := 32
  cells := q4Cells
  dflt := ⟨0, 0, 0, 0⟩
  ok q := fits q.a ∧ fits q.b ∧ fits q.c ∧ fits q.d
  und := Try.underlying83
  info := by kernel_rfl
  zs := rfl
  pos := by decide
  small := by decide
  len _ := rfl
  one x u hu := by
    simp only [q4Cells, List.mem_cons, List.not_mem_nil, or_false] at hu
    rcases hu with rfl | rfl | rfl | rfl <;> rfl
/-- A list's length is the slice's. -/
theorem Lk.IsL.len {P : Program} {α : Type} {K : Lk P α} {w : World} {B : Nat} {A : Option Addr} {n c : Nat} {xs : List α} (h : K.IsL w B (.slice A n c) xs) : n = xs.length := by
  obtain ⟨⟨A', c', hv, _⟩, _⟩ := h
  injection hv
/-- An element's cells. -/
theorem Lk.IsL.elem {P : Program} {α : Type} {K : Lk P α} {w : World} {B : Nat} {A : Option Addr} {n c : Nat} {xs : List α} (h : K.IsL w B (.slice A n c) xs) (h0 : 0 < xs.length) : ∃ b off, A = some ⟨b, off, none⟩ ∧ b < B ∧ xs.length ≤ c ∧
    ∀ i, i < xs.length → ∀ j u, (K.cells (xs.getD i K.dflt))[j]? = some u → w.cell? ⟨b, off + (i * K.n + j), none⟩ = some u := by
  obtain ⟨⟨A', c', hv, hc, hA⟩, _⟩ := h
  obtain ⟨b, off, rfl, hb, hcell⟩ := hA h0
  injection hv with e1 e2 e3
  exact ⟨b, off, e1, hb, by omega, hcell⟩
theorem Lk.IsL.okAt {P : Program} {α : Type} {K : Lk P α} {w : World} {B : Nat} {v : Value} {xs : List α} (h : K.IsL w B v xs) (i : Nat) (hi : i < xs.length) : K.ok (xs.getD i K.dflt) := h.2.1 _ (getD_mem' xs i _ hi)

/-- A deck: where its lists lie, and what they are. -/
structure Dk where
  bA : Option Addr
  bn : Nat
  bc : Nat
  bl : List Nat
  pA : Option Addr
  pn : Nat
  pc : Nat
  pl : List Pl
  rA : Option Addr
  rn : Nat
  rc : Nat
  rl : List Rk
  arms : Int
/-- A deck's value. -/
abbrev Dk.v (d : Dk) : Value := .agg #[.slice d.bA d.bn d.bc, .slice d.pA d.pn d.pc, .slice d.rA d.rn d.rc, .int .i64 d.arms]
/-- A deck that lies in memory below a block. -/
structure Dk.In (w : World) (B : Nat) (d : Dk) : Prop where
  b : KF.IsL w B (.slice d.bA d.bn d.bc) d.bl
  p : KP.IsL w B (.slice d.pA d.pn d.pc) d.pl
  r : KR.IsL w B (.slice d.rA d.rn d.rc) d.rl
  s : ∀ q ∈ d.pl, KI.IsL w B (.slice q.sA q.sn q.sc) q.st
  a : fits d.arms
theorem Dk.In.below {w w' : World} {B : Nat} {d : Dk} (h : d.In w B) (hb : Below B w w') : d.In w' B := ⟨h.b.below hb, h.p.below hb, h.r.below hb, fun q hq => (h.s q hq).below hb, h.a⟩
theorem Dk.In.more {w : World} {B B' : Nat} {d : Dk} (h : d.In w B) (hB : B ≤ B') : d.In w B' := ⟨h.b.more hB, h.p.more hB, h.r.more hB, fun q hq => (h.s q hq).more hB, h.a⟩
theorem Dk.In.then {w w' : World} {d : Dk} (h : d.In w w.heap.size) (hb : Below w.heap.size w w') : d.In w' w'.heap.size := (h.below hb).more hb.size
theorem Dk.In.drewN {w : World} {B : Nat} {d : Dk} (h : d.In w B) (n : Nat) : d.In (w.drewN n) B := ⟨h.b, h.p, h.r, h.s, h.a⟩

/-- May so many rows and columns be? -/
def sizeB (r c : Int) : Bool := decide (1 ≤ r ∧ r ≤ 32 ∧ 1 ≤ c ∧ c ≤ 48)
set_option maxHeartbeats 1000000 in
theorem rightSize_any (r c : Int) (w : World) : Calls Try.prog 81 #[.int .i64 r, .int .i64 c] w fun e w' => e = .returned (.bool (sizeB r c)) ∧ w = w' := by
  by_cases h1 : 1 ≤ r <;> by_cases h2 : r ≤ 32 <;> by_cases h3 : 1 ≤ c
  all_goals (try (exfalso; omega; done))
  all_goals
    go_enter Try.func81, Try.ntmps81
    go_wp2
    go_ret
    exact ⟨ret_b (by first | exact (decide_eq_false (by omega)).symm | exact (decide_eq_true (by omega)).symm | (rw [sizeB, Bool.eq_iff_iff]; simp only [decide_eq_true_eq]; omega)), rfl⟩
set_option maxHeartbeats 1000000 in
theorem box_any (r c : Int) (w : World) : Calls Try.prog 76 #[.int .i64 r, .int .i64 c] w fun e w' => e = .returned (.bool (sizeB r c)) ∧ w = w' := by
  by_cases h1 : 1 ≤ r <;> by_cases h2 : r ≤ 32 <;> by_cases h3 : 1 ≤ c
  all_goals (try (exfalso; omega; done))
  all_goals
    go_enter Try.func76, Try.ntmps76
    go_wp2
    go_ret
    exact ⟨ret_b (by first | exact (decide_eq_false (by omega)).symm | exact (decide_eq_true (by omega)).symm | (rw [sizeB, Bool.eq_iff_iff]; simp only [decide_eq_true_eq]; omega)), rfl⟩
theorem size_of {r c : Int} (h : sizeB r c = true) : 1 ≤ r ∧ r ≤ 32 ∧ 1 ≤ c ∧ c ≤ 48 := by unfold sizeB at h; simpa using h
theorem size_mul {r c : Int} (h : sizeB r c = true) : 1 ≤ r * c ∧ r * c ≤ 1536 := by
  obtain ⟨h1, h2, h3, h4⟩ := size_of h
  have a := Int.mul_le_mul h2 h4 (by omega) (by omega)
  have b := Int.mul_le_mul h1 h3 (by omega) (by omega)
  omega
end Go.Proofs.Ytlgpnjbhmoomfaa

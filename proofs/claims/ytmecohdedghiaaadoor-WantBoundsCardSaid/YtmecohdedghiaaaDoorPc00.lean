/- A lane's width; is a lane touched: what the program and the reference answer. -/
import Derived.Laws.BitsAllLaws
import Derived.Laws.Bits64
import Derived.IntWalk
import Derived.RowKit
import Derived.Test.YtmecohdedghiaaaDoorChecked
import Derived.WalkKit
import Derived.WalkLawsBesides
import Derived.WalkSpells
import Derived.Outline
import Derived.KernelRfl
import Derived.Lib.Hide
import Derived.Maps.AppendAt
import Derived.Laws.OwnMore
import Derived.Laws.Cover2
import Derived.Laws.FloatArith
import Derived.Deep.AppendLies
import Derived.Deep.Onto
import Derived.OwnWalk
import Derived.LoopTactic
import Derived.Deep.QuietTactic
import Derived.BigQuiet
import Derived.Deep.RegionHeld3
import Derived.Deep.LoopGhost
import Ieee.Arith
import GoSem.Core.Float
namespace Go.Proofs.YtmecohdedghiaaaDoor
theorem ret_u {a b : Int} (h : a = b) : Ending.returned (.int .u64 a) = .returned (.int .u64 b) := by rw [h]
theorem ret_i {a b : Int} (h : a = b) : Ending.returned (.int .i64 a) = .returned (.int .i64 b) := by rw [h]
theorem ret_b {a b : Bool} (h : a = b) : Ending.returned (.bool a) = .returned (.bool b) := by rw [h]
theorem ret_ii {a b c d : Int} (h : a = c) (k : b = d) : Ending.returned (.tuple #[.int .i64 a, .int .i64 b]) = .returned (.tuple #[.int .i64 c, .int .i64 d]) := by rw [h, k]
theorem num_i {a b : Int} (h : a = b) : Value.int .i64 a = .int .i64 b := by rw [h]
/-- Goes a whole number into 64 bits with a sign? -/
def fits (x : Int) : Prop := -9223372036854775808 ≤ x ∧ x ≤ 9223372036854775807
instance (x : Int) : Decidable (fits x) := inferInstanceAs (Decidable (_ ∧ _))
/-- What is answered for it, and with which error. -/
def fitV (x : Int) : Int := if fits x then x else 0
def fitE (x : Int) : Int := if fits x then 0 else 4
end Go.Proofs.YtmecohdedghiaaaDoor
namespace Go.Proofs.YtmecohdedghiaaaDoor
open Go.RowKit
theorem below_drewN {B : Nat} {a w : World} (h : Below B a w) (d : Nat) : Below B a (w.drewN d) := ⟨h.os, h.tape, h.output, h.size, h.block⟩
/-- Behind a call that makes memory all that was there is as it was. -/
theorem bcell {W w1 : World} (hb : Below W.heap.size W w1) : (∀ b o, b < W.heap.size → w1.cell? ⟨b, o, none⟩ = W.cell? ⟨b, o, none⟩) ∧ (∀ b o, b < W.heap.size → w1.frozen? ⟨b, o, none⟩ = W.frozen? ⟨b, o, none⟩) :=
 ⟨fun b o h => hb.cell (p := ⟨b, o, none⟩) h, fun b o h => hb.frozen (p := ⟨b, o, none⟩) h⟩
theorem Below.al {w w' : World} (h : Below w.heap.size w w') (o : Obj) : Below w.heap.size w (w'.alloc o) := h.alloc h.size o
theorem Below.call {w w' w'' : World} (h : Below w.heap.size w w') (k : Below w'.heap.size w' w'') : Below w.heap.size w w'' := h.trans (k.mono h.size)
theorem Below.st {w w' : World} {p : Addr} {v : Value} (h : Below w.heap.size w w') (hp : w.heap.size ≤ p.block) : Below w.heap.size w (w'.setCell p v) := h.setCell hp v
theorem keep_cell {w w1 : World} {a : Addr} {v : Value} (hb : Below w.heap.size w w1) (h : w.cell? a = some v) : w1.cell? a = some v := (hb.cell (World.block_lt_of_cell? w a h)).trans h
theorem take_snoc {α : Type} (l : List α) (k : Nat) (d : α) (h : k < l.length) : l.take (k + 1) = l.take k ++ [l.getD k d] := by
 rw [List.take_succ_eq_append_getElem h, List.getD_eq_getElem?_getD, List.getElem?_eq_getElem h]
 rfl
theorem getD_mem' {α : Type} (l : List α) (k : Nat) (d : α) (h : k < l.length) : l.getD k d ∈ l := by
 rw [List.getD_eq_getElem?_getD, List.getElem?_eq_getElem h]
 exact List.getElem_mem h
theorem drop_snoc {α : Type} (l : List α) (k : Nat) (d : α) (h : k < l.length) : l.drop k = l.getD k d :: l.drop (k + 1) := by
 rw [List.drop_eq_getElem_cons h, List.getD_eq_getElem?_getD, List.getElem?_eq_getElem h]
 rfl
theorem st_same {w : World} {a : Addr} {u v : Value} (h : w.cell? a = some u) : (w.setCell a v).cell? a = some v := by apply World.cell?_setCell_same; exact h
theorem st_other {w : World} {a b : Addr} {u v : Value} (h : w.cell? b = some u) (hne : a ≠ b) : (w.setCell a v).cell? b = some u := by rw [World.cell?_setCell_other (h := hne)]; exact h
theorem st_fz {w : World} {a b : Addr} {v : Value} (h : w.frozen? b = false) : (w.setCell a v).frozen? b = false := by rw [World.frozen?_setCell]; exact h
end Go.Proofs.YtmecohdedghiaaaDoor
namespace Go.Proofs.YtmecohdedghiaaaDoor
open Go.RowKit
/-- A kind of list: the slice's type, its element's, how many cells an element has, which ones. -/
structure Lk (P : Program) (α : Type) where
 S : TypeId
 E : TypeId
 n : Nat
 zero : Value
 bytes : Nat
 cells : α → List Value
 dflt : α
 ok : α → Prop
 und : P.underlying S = some (.slice E)
 info : (P.info? E).map (fun i => (i.zero, i.size, i.bytes)) = some (some zero, n, bytes)
 zs : zero.cells.size = n
 pos : 0 < n
 small : bytes ≤ 100000
 len : ∀ x, (cells x).length = n
 one : ∀ x, ∀ u ∈ cells x, u.oneCell' = true
namespace Lk
variable {P : Program} {α : Type} (K : Lk P α)
def flat (xs : List α) : List Value := xs.flatMap K.cells
theorem flat_len (xs : List α) : (K.flat xs).length = xs.length * K.n := by
 induction xs with
 | nil => simp [flat]
 | cons x r ih =>
  show (K.cells x ++ K.flat r).length = _
  rw [List.length_append, ih, K.len, List.length_cons, Nat.succ_mul, Nat.add_comm]
theorem flat_append (xs ys : List α) : K.flat (xs ++ ys) = K.flat xs ++ K.flat ys := List.flatMap_append
theorem flat_at (xs : List α) (i j : Nat) (h : i < xs.length) (hj : j < K.n) : (K.flat xs)[i * K.n + j]? = (K.cells (xs.getD i K.dflt))[j]? := by
 induction xs generalizing i with
 | nil => simp at h
 | cons x r ih =>
  show (K.cells x ++ K.flat r)[i * K.n + j]? = _
  cases i with
  | zero => rw [Nat.zero_mul, Nat.zero_add, List.getElem?_append_left (by rw [K.len]; exact hj)]; rfl
  | succ k =>
   rw [List.getElem?_append_right (by rw [K.len, Nat.succ_mul]; omega), K.len]
   rw [show (k + 1) * K.n + j - K.n = k * K.n + j by rw [Nat.succ_mul]; omega]
   exact ih k (by simpa using h)
theorem flat_one (xs : List α) : ∀ u ∈ K.flat xs, u.oneCell' = true := by
 intro u hu
 obtain ⟨x, _, hx⟩ := List.mem_flatMap.1 hu
 exact K.one x u hx
/-- A slice value whose elements are a list, in memory below a block. -/
def IsL (w : World) (B : Nat) (v : Value) (xs : List α) : Prop :=
 (∃ A cap, v = .slice A xs.length cap ∧ xs.length ≤ cap ∧ (0 < xs.length → ∃ b off, A = some ⟨b, off, none⟩ ∧ b < B ∧
   ∀ i, i < xs.length → ∀ j u, (K.cells (xs.getD i K.dflt))[j]? = some u → w.cell? ⟨b, off + (i * K.n + j), none⟩ = some u)) ∧
  (∀ x ∈ xs, K.ok x) ∧ xs.length ≤ 9223372036854775807
variable {K}
theorem IsL.below {w w' : World} {B : Nat} {v : Value} {xs : List α} (h : K.IsL w B v xs) (hb : Below B w w') : K.IsL w' B v xs := by
 obtain ⟨⟨A, cap, rfl, hc, hA⟩, hf, hl⟩ := h
 refine ⟨⟨A, cap, rfl, hc, fun h0 => ?_⟩, hf, hl⟩
 obtain ⟨b, off, rfl, hbB, hcell⟩ := hA h0
 exact ⟨b, off, rfl, hbB, fun i hi j u hu => (hb.cell (p := ⟨b, off + (i * K.n + j), none⟩) hbB).trans (hcell i hi j u hu)⟩
theorem IsL.more {w : World} {B B' : Nat} {v : Value} {xs : List α} (h : K.IsL w B v xs) (hB : B ≤ B') : K.IsL w B' v xs := by
 obtain ⟨⟨A, cap, rfl, hc, hA⟩, hf, hl⟩ := h
 refine ⟨⟨A, cap, rfl, hc, fun h0 => ?_⟩, hf, hl⟩
 obtain ⟨b, off, rfl, hbB, hcell⟩ := hA h0
 exact ⟨b, off, rfl, by omega, hcell⟩
theorem IsL.drewN {w : World} {B : Nat} {v : Value} {xs : List α} (h : K.IsL w B v xs) (d : Nat) : K.IsL (w.drewN d) B v xs := h
theorem IsL.nil (w : World) (B : Nat) (A : Option Addr) (cap : Nat) : K.IsL w B (.slice A 0 cap) [] :=
 ⟨⟨A, cap, rfl, Nat.zero_le _, fun h => absurd h (by simp)⟩, fun x hx => by simp at hx, by simp⟩
theorem IsL.then {w w' : World} {v : Value} {xs : List α} (h : K.IsL w w.heap.size v xs) (hb : Below w.heap.size w w') : K.IsL w' w'.heap.size v xs := (h.below hb).more hb.size
variable (K)
/-- A slice of the call's own that holds a list. -/
def Own (w : World) (base : Nat) (v : Value) (xs : List α) : Prop := w.ownsRow base K.E K.n v xs.length (K.flat xs) ∧ ∀ x ∈ xs, K.ok x
variable {K}
theorem Own.isL {w : World} {base : Nat} {v : Value} {xs : List α} (h : K.Own w base v xs) (hl : xs.length ≤ 9223372036854775807) : K.IsL w w.heap.size v xs := by
 obtain ⟨h, hf⟩ := h
 rcases h.2 with ⟨rfl, h0⟩ | ⟨g, cap, cur, rfl, hb, hg, hnc, _⟩
 ·obtain rfl : xs = [] := List.eq_nil_of_length_eq_zero h0
  exact IsL.nil _ _ _ _
 ·refine ⟨⟨_, cap, rfl, hnc, fun h0 => ⟨g, 0, rfl, (Array.getElem?_eq_some_iff.1 hg).1, fun i hi j u hu => ?_⟩⟩, hf, hl⟩
  have hj : j < K.n := by
   have := (List.getElem?_eq_some_iff.1 hu).1
   rw [K.len] at this
   exact this
  have hij : i * K.n + j < xs.length * K.n := by
   have : (i + 1) * K.n ≤ xs.length * K.n := Nat.mul_le_mul_right _ hi
   rw [Nat.succ_mul] at this
   omega
  rw [Nat.zero_add, h.cellAt (i * K.n + j) hij, K.flat_at xs i j hi hj, hu]
theorem Own.nil (w : World) (base : Nat) : K.Own w base (.slice none 0 0) [] := ⟨World.ownsRow_nil _ _ _ _, fun x hx => by simp at hx⟩
theorem Own.alloc {w : World} {base : Nat} {v : Value} {xs : List α} (h : K.Own w base v xs) (o : Obj) : K.Own (w.alloc o) base v xs := ⟨h.1.alloc o, h.2⟩
theorem Own.drewN {w : World} {base : Nat} {v : Value} {xs : List α} (h : K.Own w base v xs) (d : Nat) : K.Own (w.drewN d) base v xs := h
theorem Own.drew {w : World} {base : Nat} {v : Value} {xs : List α} (h : K.Own w base v xs) : K.Own w.drew base v xs := h
theorem Own.mono {w : World} {base base' : Nat} {v : Value} {xs : List α} (h : K.Own w base v xs) (hb : base' ≤ base) : K.Own w base' v xs := ⟨h.1.mono hb, h.2⟩
theorem Own.kept {w w' : World} {row : Option Nat} {base : Nat} {v : Value} {xs : List α} (h : K.Own w base v xs) (hg : w.grownBy w' row) (hne : v.ownBlock = none ∨ v.ownBlock ≠ row) : K.Own w' base v xs := ⟨h.1.kept hg hne, h.2⟩
theorem Own.lt {w : World} {base : Nat} {v : Value} {xs : List α} (h : K.Own w base v xs) : ∀ k, v.ownBlock = some k → base ≤ k ∧ k < w.heap.size := h.1.lt
theorem Own.below {w w' : World} {base : Nat} {v : Value} {xs : List α} (h : K.Own w base v xs) (hb : Below w.heap.size w w') : K.Own w' base v xs := by
 obtain ⟨⟨h1, h2⟩, hf⟩ := h
 refine ⟨⟨h1, ?_⟩, hf⟩
 rcases h2 with hn | ⟨g, cap, cur, rfl, hb2, hg, rest⟩
 ·exact .inl hn
 ·exact .inr ⟨g, cap, cur, rfl, hb2, (hb.block g (Array.getElem?_eq_some_iff.1 hg).1).trans hg, rest⟩
/-- One element, laid as a slice. -/
theorem Own.lit (w : World) (base : Nat) (x : α) (cs : Array Value) (hx : K.ok x) (hcs : cs = (K.cells x).toArray) (hb : base ≤ w.heap.size) : K.Own (w.alloc (.cells cs K.E)) base (.slice (some ⟨w.heap.size, 0, none⟩) 1 1) [x] := by
 subst hcs
 refine ⟨?_, fun z hz => ?_⟩
 ·have q := World.ownsRow_lit (base := base) (e := K.E) (size := K.n) w (K.cells x).toArray 1 hb (by unfold maxLen; omega) (by simp [K.len])
  simpa [flat] using q
 ·rw [List.mem_singleton] at hz
  subst hz
  exact hx
theorem IsL.lit (w : World) (x : α) (cs : Array Value) (hx : K.ok x) (hcs : cs = (K.cells x).toArray) (H : Nat) (e : w.heap.size = H) : K.IsL (w.alloc (.cells cs K.E)) (H + 1) (.slice (some ⟨H, 0, none⟩) 1 1) [x] := by
 subst e
 have h := (Own.lit w w.heap.size x cs hx hcs (Nat.le_refl _)).isL (by simp)
 simpa using h
theorem run_append_nothing (w : World) (base : Nat) (ty : TypeId) (v : Value) (xs : List α) (h : K.Own w base v xs) (c : Nat) : (Builtin.append_ #[K.S, K.S] ty #[v, .slice none 0 c]).run P w = .ok v w := by
 obtain ⟨i0, hi, hz0, hz1, hz2⟩ := info_parts K.info
 rcases h.1.2 with ⟨rfl, _⟩ | ⟨g, cap, cur, rfl, _, _, hnc, _⟩
 ·simp [Builtin.append_, run_underlying K.und, sizeOf, typeInfo, hi, Builtin.lenOf, Builtin.firstCells]
 ·simp [Builtin.append_, run_underlying K.und, sizeOf, typeInfo, hi, Builtin.lenOf, Builtin.firstCells, hnc, storeCells]
theorem run_app (w : World) (base B : Nat) (ty : TypeId) (v src : Value) (xs ys : List α) (h : K.Own w base v xs) (hs : K.IsL w B src ys) (hl : xs.length + ys.length ≤ 1000000) (hb : base ≤ w.heap.size) :
  ∃ v' w', (Builtin.append_ #[K.S, K.S] ty #[v, src]).run P w = .ok v' w' ∧ K.Own w' base v' (xs ++ ys) ∧ w.grownBy w' v.ownBlock ∧ (v'.ownBlock = v.ownBlock ∨ v'.ownBlock = some w.heap.size) := by
 obtain ⟨i0, hi, hz0, hz1, hz2⟩ := info_parts K.info
 obtain ⟨⟨A, cap, rfl, hc, hA⟩, hf, hll⟩ := hs
 have hfa : ∀ x ∈ xs ++ ys, K.ok x := fun x hx => by
  rcases List.mem_append.1 hx with hx | hx
  ·exact h.2 x hx
  ·exact hf x hx
 have hby : (xs.length + ys.length) * K.bytes ≤ 140737488355328 := by
  have := Nat.mul_le_mul hl K.small
  omega
 by_cases h0 : ys = []
 ·subst h0
  match A with
  | none => exact ⟨v, w, run_append_nothing w base ty v xs h cap, by simpa using h, World.grownBy.refl w _, .inl rfl⟩
  | some ad =>
   obtain ⟨v', w', hrun, h2, h3, _, h5⟩ := run_append_own_at (P := P) w base K.S ty K.E i0 K.zero K.n K.bytes K.und hi hz0 hz1 hz2 K.zs K.pos v xs.length (K.flat xs) h.1 ad 0 cap [] (by simp)
    (fun j u hu => by simp at hu) (fun u hu => by simp at hu) (by unfold maxLen; simp at hl; omega) (by simpa using hby) hb
   exact ⟨v', w', hrun, ⟨by simpa using h2, hfa⟩, h3, h5⟩
 ·have hpos : 0 < ys.length := by
   rcases Nat.eq_zero_or_pos ys.length with h | h
   ·exact absurd (List.eq_nil_of_length_eq_zero h) h0
   ·exact h
  obtain ⟨b, off, rfl, hbB, hcell⟩ := hA hpos
  obtain ⟨v', w', hrun, h2, h3, _, h5⟩ := run_append_own_at (P := P) w base K.S ty K.E i0 K.zero K.n K.bytes K.und hi hz0 hz1 hz2 K.zs K.pos v xs.length (K.flat xs) h.1 ⟨b, off, none⟩ ys.length cap (K.flat ys) (K.flat_len ys)
   (fun j u hu => by
    have hj : j < ys.length * K.n := by
     have := (List.getElem?_eq_some_iff.1 hu).1
     rw [K.flat_len] at this
     exact this
    have hn := K.pos
    have e := Nat.div_add_mod j K.n
    have hm := Nat.mod_lt j hn
    have hi2 : j / K.n < ys.length := (Nat.div_lt_iff_lt_mul hn).2 hj
    rw [Nat.mul_comm] at e
    rw [← e, K.flat_at ys _ _ hi2 hm] at hu
    have q := hcell (j / K.n) hi2 (j % K.n) u hu
    rw [e] at q
    rw [Go.WideShapes.add_plain]
    exact q) (K.flat_one ys) (by unfold maxLen; omega) hby hb
  exact ⟨v', w', hrun, ⟨by rw [List.length_append, K.flat_append]; exact h2, hfa⟩, h3, h5⟩
theorem wp_app {o : Oper} {a : Act} {R : Act → World → Prop} {Q : Exit → Act → World → Prop} (w : World) (s x : Operand) {T : TypeId} (hT : T = K.S)
  (ho : o.op = .call { callee := .builtin .append, args := #[s, x], argTypes := #[T, T] }) (base B : Nat) (v src : Value) (xs ys : List α) (hs : a.eval s = v) (hx : a.eval x = src)
  (h : K.Own w base v xs) (hy : K.IsL w B src ys) (hl : xs.length + ys.length ≤ 1000000) (hb : base ≤ w.heap.size)
  (hk : ∀ v' w', K.Own w' base v' (xs ++ ys) → w.grownBy w' v.ownBlock → (v'.ownBlock = v.ownBlock ∨ v'.ownBlock = some w.heap.size) → R (a.put o.dst v') w') : o.wp P a w R Q := by
 subst hT
 obtain ⟨v', w', hrun, h2, h3, h4⟩ := run_app w base B o.type v src xs ys h hy hl hb
 unfold Oper.wp execOp
 simp only [ho, resolve, invoke, builtin, Sem.run_bind, Sem.run_pure, Result.andThen_ok, List.map_toArray, List.map_cons, List.map_nil, hs, hx, hrun]
 exact hk v' w' h2 h3 h4
theorem wpList_app {ops : Array Oper} {rest : List Oper} {o : Oper} {a : Act} {Q : Exit → Act → World → Prop} (w : World) (hgd : o.guard = none) (s x : Operand) {T : TypeId} (hT : T = K.S)
  (ho : o.op = .call { callee := .builtin .append, args := #[s, x], argTypes := #[T, T] }) (base B : Nat) (v src : Value) (xs ys : List α) (hs : a.eval s = v) (hx : a.eval x = src)
  (h : K.Own w base v xs) (hy : K.IsL w B src ys) (hl : xs.length + ys.length ≤ 1000000) (hb : base ≤ w.heap.size)
  (hk : ∀ v' w', K.Own w' base v' (xs ++ ys) → w.grownBy w' v.ownBlock → (v'.ownBlock = v.ownBlock ∨ v'.ownBlock = some w.heap.size) → wpList P ops Q rest (a.put o.dst v') w') : wpList P ops Q (o :: rest) a w :=
 wpList_plain hgd fun _ hK => wp_app w s x hT ho base B v src xs ys hs hx h hy hl hb fun v' w' h2 h3 h4 => hK _ _ (hk v' w' h2 h3 h4)
theorem Own.grow' {S : Nat} {X W W' : World} {v : Value} {xs : List α} (h : K.Own W S v xs) (hb : Below S X W) (hs : S ≤ W.heap.size) (hg : W.grownBy W' v.ownBlock) : Below S X W' := hb.grown hg hs fun k hk => (h.lt k hk).1
end Lk
end Go.Proofs.YtmecohdedghiaaaDoor
namespace Go.Proofs.YtmecohdedghiaaaDoor
open Ieee
theorem sw : double.signWeight = 9223372036854775808 := by decide +kernel
theorem bn : double.binade = 4503599627370496 := by decide +kernel
theorem ir : double.infRung = 9218868437227405312 := by decide +kernel
theorem lp : double.leastPlace = -1074 := by decide +kernel
theorem fb : double.fractionBits = 52 := rfl
theorem pow_mono {a b : Nat} (h : a ≤ b) : 2 ^ a ≤ 2 ^ b := Nat.pow_le_pow_right (by decide) h
/-- Is it a no-number? -/
def nan (b : Nat) : Prop := 9218868437227405312 < b % 9223372036854775808
instance (b : Nat) : Decidable (nan b) := Nat.decLt _ _
def nanb (b : Nat) : Bool := decide (nan b)
/-- Its sign; its rung. -/
def sg (s : Bool) (n : Nat) : Int := if s = true then -(n : Int) else n
def sb (b : Nat) : Bool := b / 9223372036854775808 % 2 == 1
def rg (b : Nat) : Nat := b % 9223372036854775808
/-- The place in the order. -/
def vf (b : Nat) : Int := sg (sb b) (rg b)
/-- A rung's value, in units of 2^-1074. -/
def rv (r : Nat) : Nat := if r < 4503599627370496 then r else (4503599627370496 + r % 4503599627370496) * 2 ^ (r / 4503599627370496 - 1)
theorem rv_succ (r : Nat) : rv r < rv (r + 1) := by
 unfold rv
 by_cases h : r + 1 < 4503599627370496
 ·rw [if_pos (by omega), if_pos h]; omega
 ·by_cases h2 : r + 1 = 4503599627370496
  ·rw [if_pos (by omega), if_neg h, h2]
   simp only [Nat.reduceMod, Nat.reduceDiv, Nat.reduceSub, Nat.pow_zero]
   omega
  ·rw [if_neg (by omega), if_neg h]
   by_cases h3 : r % 4503599627370496 + 1 < 4503599627370496
   ·have e1 : (r + 1) % 4503599627370496 = r % 4503599627370496 + 1 := by omega
    have e2 : (r + 1) / 4503599627370496 = r / 4503599627370496 := by omega
    rw [e1, e2]
    exact Nat.mul_lt_mul_of_pos_right (by omega) (Nat.two_pow_pos _)
   ·have e1 : (r + 1) % 4503599627370496 = 0 := by omega
    have e2 : (r + 1) / 4503599627370496 - 1 = (r / 4503599627370496 - 1) + 1 := by omega
    have e3 : r % 4503599627370496 = 4503599627370495 := by omega
    rw [e1, e2, e3, Nat.pow_succ]
    have := Nat.two_pow_pos (r / 4503599627370496 - 1)
    generalize 2 ^ (r / 4503599627370496 - 1) = p at *
    omega
theorem rv_lt {r s : Nat} (h : r < s) : rv r < rv s := by
 induction s with
 | zero => omega
 | succ s ih =>
  by_cases e : r = s
  ·subst e; exact rv_succ r
  ·exact Nat.lt_trans (ih (by omega)) (rv_succ s)
theorem rv_iff (r s : Nat) : rv r < rv s ↔ r < s := by
 constructor
 ·intro h
  apply Nat.lt_of_not_le
  intro hh
  rcases Nat.lt_or_eq_of_le hh with h2 | h2
  ·have := rv_lt h2; omega
  ·rw [h2] at h; omega
 ·exact rv_lt
theorem rv_eq (r s : Nat) : rv r = rv s ↔ r = s := by
 constructor
 ·intro h
  rcases Nat.lt_trichotomy r s with h1 | h1 | h1
  ·have := rv_lt h1; omega
  ·exact h1
  ·have := rv_lt h1; omega
 ·intro h; rw [h]
theorem rv_0 : rv 0 = 0 := by unfold rv; rw [if_pos (by omega)]
/-- How the model reads a float that is a number. -/
theorem read_fin (b : Nat) (h : rg b < 9218868437227405312) : ∃ (m : Nat) (p : Int), double.read b = .number (sb b) m p ∧ -1074 ≤ p ∧ m * 2 ^ (p + 1074).toNat = rv (rg b) := by
 unfold Format.read
 simp only [sw, bn, ir, lp]
 unfold rg at h ⊢
 by_cases h1 : b % 9223372036854775808 < 4503599627370496
 ·rw [if_pos h1]
  refine ⟨_, _, rfl, by omega, ?_⟩
  unfold rv
  rw [if_pos h1]
  simp
 ·rw [if_neg h1, if_pos h]
  refine ⟨_, _, rfl, by omega, ?_⟩
  unfold rv
  rw [if_neg h1]
  congr 2
  omega
theorem read_inf (b : Nat) (h : rg b = 9218868437227405312) : double.read b = .infinity (sb b) := by
 unfold Format.read
 simp only [sw, bn, ir, lp]
 unfold rg at h
 rw [h, if_neg (by omega), if_neg (by omega), if_pos rfl]
 rfl
theorem read_nan (b : Nat) (h : nan b) : ∃ s t, double.read b = .nan s t := by
 unfold Format.read
 simp only [sw, bn, ir, lp]
 unfold nan at h
 rw [if_neg (by omega), if_neg (by omega), if_neg (by omega)]
 exact ⟨_, _, rfl⟩
theorem signed_sg (s : Bool) (m k : Nat) : signed s m k = sg s (m * 2 ^ k) := by
 unfold signed sg
 rw [Nat.shiftLeft_eq]
theorem sg_mul (s : Bool) (n k : Nat) : sg s (n * k) = sg s n * (k : Int) := by
 unfold sg
 split
 ·rw [Int.natCast_mul, Int.neg_mul]
 ·rw [Int.natCast_mul]
theorem sg_lt (f : Nat → Nat) (hf : ∀ x y, f x < f y ↔ x < y) (he : ∀ x y, f x = f y ↔ x = y) (h0 : f 0 = 0) (s t : Bool) (x y : Nat) : (sg s (f x) < sg t (f y) ↔ sg s x < sg t y) ∧ (sg s (f x) = sg t (f y) ↔ sg s x = sg t y) := by
 have a := hf x y
 have b := hf y x
 have c := he x y
 have d := hf 0 x
 have e := hf 0 y
 rw [h0] at d e
 unfold sg
 cases s <;> cases t <;> simp only [Bool.false_eq_true, if_true, if_false] <;> constructor <;> omega
theorem cmp_congr {a b c d : Int} (h1 : a < b ↔ c < d) (h2 : a = b ↔ c = d) : compare a b = compare c d := by
 simp only [compare, compareOfLessAndEq, h1, h2]
theorem cmp_mul (a b : Int) (k : Nat) (hk : 0 < k) : compare (a * (k : Int)) (b * (k : Int)) = compare a b := by
 have hk' : (0 : Int) < k := by omega
 refine cmp_congr ⟨fun h => Int.lt_of_mul_lt_mul_right h (Int.le_of_lt hk'), fun h => Int.mul_lt_mul_of_pos_right h hk'⟩ ⟨fun h => Int.eq_of_mul_eq_mul_right (by omega) h, fun h => by rw [h]⟩
/-- The model's order of two floats is that of their places. -/
theorem order_num (a b : Nat) (ha : ¬ nan a) (hb : ¬ nan b) : double.order a b = some (compare (vf a) (vf b)) := by
 have e := sg_lt rv rv_iff rv_eq rv_0 (sb a) (sb b) (rg a) (rg b)
 have ha' : rg a ≤ 9218868437227405312 := by unfold nan at ha; unfold rg; omega
 have hb' : rg b ≤ 9218868437227405312 := by unfold nan at hb; unfold rg; omega
 unfold Format.order vf
 by_cases h1 : rg a = 9218868437227405312
 ·rw [read_inf a h1]
  by_cases h2 : rg b = 9218868437227405312
  ·rw [read_inf b h2, h1, h2]
   unfold Datum.order sg
   cases sb a <;> cases sb b <;> rfl
  ·obtain ⟨m, p, hr, _, _⟩ := read_fin b (by omega)
   rw [hr, h1]
   unfold Datum.order sg
   congr 1
   cases sb a <;> cases sb b <;> simp only [Bool.false_eq_true, if_true, if_false, compare, compareOfLessAndEq] <;> (repeat' split) <;> first | rfl | omega
 ·obtain ⟨m, p, hr, hp, hv⟩ := read_fin a (by omega)
  rw [hr]
  by_cases h2 : rg b = 9218868437227405312
  ·rw [read_inf b h2, h2]
   unfold Datum.order sg
   congr 1
   cases sb a <;> cases sb b <;> simp only [Bool.false_eq_true, if_true, if_false, compare, compareOfLessAndEq] <;> (repeat' split) <;> first | rfl | omega
  ·obtain ⟨n, q, hr2, hq, hv2⟩ := read_fin b (by omega)
   rw [hr2]
   unfold Datum.order
   congr 1
   simp only [signed_sg]
   rw [← cmp_mul _ _ (2 ^ (min p q + 1074).toNat) (Nat.two_pow_pos _), ← sg_mul, ← sg_mul, Nat.mul_assoc, Nat.mul_assoc, ← Nat.pow_add, ← Nat.pow_add]
   rw [show (p - min p q).toNat + (min p q + 1074).toNat = (p + 1074).toNat by omega, show (q - min p q).toNat + (min p q + 1074).toNat = (q + 1074).toNat by omega, hv, hv2]
   exact congrArg some (cmp_congr e.1 e.2)
theorem order_nan (a b : Nat) (h : nan a ∨ nan b) : double.order a b = none := by
 unfold Format.order
 rcases h with h | h
 ·obtain ⟨s, t, e⟩ := read_nan a h
  rw [e]; rfl
 ·obtain ⟨s, t, e⟩ := read_nan b h
  rw [e]
  cases double.read a <;> rfl
/-- The comparisons as the program makes them. -/
def ltb (a b : Nat) : Bool := FloatKind.f64.format.order a b == some .lt
def gtb (a b : Nat) : Bool := FloatKind.f64.format.order a b == some .gt
def leb (a b : Nat) : Bool := FloatKind.f64.format.order a b == some .lt || FloatKind.f64.format.order a b == some .eq
def geb (a b : Nat) : Bool := FloatKind.f64.format.order a b == some .gt || FloatKind.f64.format.order a b == some .eq
theorem ltb_iff (a b : Nat) : ltb a b = true ↔ ¬ nan a ∧ ¬ nan b ∧ vf a < vf b := by
 unfold ltb
 by_cases h : nan a ∨ nan b
 ·rw [show FloatKind.f64.format.order a b = none from order_nan a b h]
  simp; intro h1 h2; exact absurd h (by simp [h1, h2])
 ·have h1 : ¬ nan a := fun x => h (.inl x)
  have h2 : ¬ nan b := fun x => h (.inr x)
  rw [show FloatKind.f64.format.order a b = _ from order_num a b h1 h2]
  simp only [h1, h2, not_false_eq_true, true_and, compare, compareOfLessAndEq]
  (repeat' split) <;> simp <;> omega
theorem gtb_iff (a b : Nat) : gtb a b = true ↔ ¬ nan a ∧ ¬ nan b ∧ vf b < vf a := by
 unfold gtb
 by_cases h : nan a ∨ nan b
 ·rw [show FloatKind.f64.format.order a b = none from order_nan a b h]
  simp; intro h1 h2; exact absurd h (by simp [h1, h2])
 ·have h1 : ¬ nan a := fun x => h (.inl x)
  have h2 : ¬ nan b := fun x => h (.inr x)
  rw [show FloatKind.f64.format.order a b = _ from order_num a b h1 h2]
  simp only [h1, h2, not_false_eq_true, true_and, compare, compareOfLessAndEq]
  (repeat' split) <;> simp <;> omega
theorem leb_iff (a b : Nat) : leb a b = true ↔ ¬ nan a ∧ ¬ nan b ∧ vf a ≤ vf b := by
 unfold leb
 by_cases h : nan a ∨ nan b
 ·rw [show FloatKind.f64.format.order a b = none from order_nan a b h]
  simp; intro h1 h2; exact absurd h (by simp [h1, h2])
 ·have h1 : ¬ nan a := fun x => h (.inl x)
  have h2 : ¬ nan b := fun x => h (.inr x)
  rw [show FloatKind.f64.format.order a b = _ from order_num a b h1 h2]
  simp only [h1, h2, not_false_eq_true, true_and, compare, compareOfLessAndEq]
  (repeat' split) <;> simp <;> omega
theorem geb_iff (a b : Nat) : geb a b = true ↔ ¬ nan a ∧ ¬ nan b ∧ vf b ≤ vf a := by
 unfold geb
 by_cases h : nan a ∨ nan b
 ·rw [show FloatKind.f64.format.order a b = none from order_nan a b h]
  simp; intro h1 h2; exact absurd h (by simp [h1, h2])
 ·have h1 : ¬ nan a := fun x => h (.inl x)
  have h2 : ¬ nan b := fun x => h (.inr x)
  rw [show FloatKind.f64.format.order a b = _ from order_num a b h1 h2]
  simp only [h1, h2, not_false_eq_true, true_and, compare, compareOfLessAndEq]
  (repeat' split) <;> simp <;> omega
theorem self_eq (a : Nat) : (FloatKind.f64.format.order a a != some .eq) = nanb a := by
 unfold nanb
 by_cases h : nan a
 ·rw [show FloatKind.f64.format.order a a = none from order_nan a a (.inl h), decide_eq_true h]; rfl
 ·rw [show FloatKind.f64.format.order a a = _ from order_num a a h h, decide_eq_false h]
  simp [compare, compareOfLessAndEq]
end Go.Proofs.YtmecohdedghiaaaDoor
namespace Go.Proofs.YtmecohdedghiaaaDoor
open Ieee
/-- n / 2^k, rounded to the nearest whole number, of two the even one. -/
def rne (n k : Nat) : Nat := if 2 ^ k < 2 * (n % 2 ^ k) ∨ (2 ^ k = 2 * (n % 2 ^ k) ∧ n / 2 ^ k % 2 = 1) then n / 2 ^ k + 1 else n / 2 ^ k
theorem cut_at (neg : Bool) (n d : Nat) (h : d ≤ n.log2 + 2) : Toward.even.cut neg n d = rne n d := by
 unfold Toward.cut rne
 simp only [Nat.min_eq_left h, Nat.shiftLeft_eq, Nat.one_mul]
 generalize n % 2 ^ d = r
 generalize n / 2 ^ d = q
 generalize 2 ^ d = g
 by_cases c : g < 2 * r ∨ (g = 2 * r ∧ q % 2 = 1)
 ·rw [if_pos c]
  have : (decide (g < 2 * r) || g == 2 * r && q % 2 == 1) = true := by simpa using c
  rw [this]
  rfl
 ·rw [if_neg c]
  have : (decide (g < 2 * r) || g == 2 * r && q % 2 == 1) = false := by
   rw [← Bool.not_eq_true]
   simpa using c
  rw [this]
  rfl
theorem rne_exact (n k : Nat) : rne (n * 2 ^ k) k = n := by
 unfold rne
 rw [Nat.mul_div_cancel _ (Nat.two_pow_pos k), Nat.mul_mod_left]
 have := Nat.two_pow_pos k
 rw [if_neg (by omega)]
theorem rne_mul (n k j : Nat) : rne (n * 2 ^ j) (k + j) = rne n k := by
 have hp := Nat.two_pow_pos j
 have e1 : n * 2 ^ j / 2 ^ (k + j) = n / 2 ^ k := by rw [Nat.pow_add, Nat.mul_div_mul_right _ _ hp]
 have e2 : n * 2 ^ j % 2 ^ (k + j) = n % 2 ^ k * 2 ^ j := by rw [Nat.pow_add, Nat.mul_mod_mul_right]
 have e3 : 2 ^ (k + j) = 2 ^ k * 2 ^ j := Nat.pow_add _ _ _
 unfold rne
 rw [e1, e2, e3, ← Nat.mul_assoc]
 have c1 : (2 ^ k * 2 ^ j < 2 * (n % 2 ^ k) * 2 ^ j) ↔ (2 ^ k < 2 * (n % 2 ^ k)) := Nat.mul_lt_mul_right hp
 have c2 : (2 ^ k * 2 ^ j = 2 * (n % 2 ^ k) * 2 ^ j) ↔ (2 ^ k = 2 * (n % 2 ^ k)) := Nat.mul_right_cancel_iff hp
 simp only [c1, c2]
theorem rne_mono (n m k : Nat) (h : n ≤ m) : rne n k ≤ rne m k := by
 have hq : n / 2 ^ k ≤ m / 2 ^ k := Nat.div_le_div_right h
 have d1 := Nat.div_add_mod n (2 ^ k)
 have d2 := Nat.div_add_mod m (2 ^ k)
 unfold rne
 by_cases he : n / 2 ^ k = m / 2 ^ k
 ·rw [he] at d1 ⊢
  have hr : n % 2 ^ k ≤ m % 2 ^ k := by omega
  generalize n % 2 ^ k = r at *
  generalize m % 2 ^ k = s at *
  generalize m / 2 ^ k = q at *
  (repeat' split) <;> omega
 ·(repeat' split) <;> omega
theorem rne_le (n k : Nat) : n / 2 ^ k ≤ rne n k ∧ rne n k ≤ n / 2 ^ k + 1 := by
 unfold rne
 split <;> omega
/-- The rung of the float next to X * 2^-1074. -/
def R (X : Nat) : Nat := min ((X.log2 - 52) * 4503599627370496 + rne X (X.log2 - 52)) 9218868437227405312
theorem R_0 : R 0 = 0 := by
 unfold R rne
 rw [Nat.log2_zero]
 simp
theorem R_le (X : Nat) : R X ≤ 9218868437227405312 := by unfold R; omega
theorem log2_shift (m k : Nat) (hm : m ≠ 0) : (m * 2 ^ k).log2 = m.log2 + k := by
 have h1 := Nat.log2_self_le hm
 have h2 := @Nat.lt_log2_self m
 have hz : m * 2 ^ k ≠ 0 := Nat.mul_ne_zero hm (by have := Nat.two_pow_pos k; omega)
 have a : m.log2 + k ≤ (m * 2 ^ k).log2 := (Nat.le_log2 hz).2 (by rw [Nat.pow_add]; exact Nat.mul_le_mul_right _ h1)
 have b : (m * 2 ^ k).log2 < m.log2 + k + 1 := (Nat.log2_lt hz).2 (by
  rw [show m.log2 + k + 1 = (m.log2 + 1) + k by omega, Nat.pow_add]
  exact Nat.mul_lt_mul_of_pos_right h2 (Nat.two_pow_pos k))
 omega
/-- What is kept of the number, as the model has it. -/
theorem kept_R (neg : Bool) (m : Nat) (p l : Int) (d k : Nat) (hp : -1074 ≤ p) (hk : k = (p + 1074).toNat) (hd : d = m.log2 + k - 52) (hl : l = max (p + (m.log2 : Int) - 52) (-1074)) :
  Toward.even.cut neg (m <<< (p - l).toNat) (l - p).toNat = rne (m * 2 ^ k) d := by
 by_cases hlp : l ≤ p
 ·have e2 : (l - p).toNat = 0 := by omega
  rw [e2, cut_at _ _ _ (Nat.zero_le _), Nat.shiftLeft_eq]
  have e3 : k = (p - l).toNat + d := by omega
  have e4 : m * 2 ^ k = m * 2 ^ (p - l).toNat * 2 ^ d := by
   rw [Nat.mul_assoc, ← Nat.pow_add, ← e3]
  rw [e4, rne_exact]
  have y := rne_exact (m * 2 ^ (p - l).toNat) 0
  rw [Nat.pow_zero, Nat.mul_one] at y
  exact y
 ·have e2 : (p - l).toNat = 0 := by omega
  rw [e2, Nat.shiftLeft_eq, Nat.pow_zero, Nat.mul_one, cut_at _ _ _ (by omega)]
  have e3 : d = (l - p).toNat + k := by omega
  rw [e3, rne_mul]
/-- The model's rounding, out of the value in units of 2^-1074. -/
theorem nearest_R (neg : Bool) (m : Nat) (p : Int) (hp : -1074 ≤ p) : double.nearest neg m p = double.word neg (R (m * 2 ^ (p + 1074).toNat)) := by
 unfold Format.nearest
 by_cases hm : m = 0
 ·subst hm
  rw [if_pos rfl, Nat.zero_mul, R_0]
 ·rw [if_neg hm]
  simp only [fb, lp, bn, ir]
  have e0 := kept_R neg m p _ _ _ hp rfl rfl rfl
  have e1 : (max (p + (m.log2 : Int) - ((52 : Nat) : Int)) (-1074) - -1074).toNat = m.log2 + (p + 1074).toNat - 52 := by omega
  unfold R
  rw [log2_shift m _ hm, ← e0, e1]
  rfl
theorem top_ge (Y l d : Nat) (hy : 2 ^ l ≤ Y) (hd : l = 52 + d) : 2 ^ 52 ≤ Y / 2 ^ d := by
 subst hd
 rw [Nat.pow_add] at hy
 exact (Nat.le_div_iff_mul_le (Nat.two_pow_pos _)).2 hy
theorem top_lt (X l d : Nat) (hx : X < 2 ^ (l + 1)) (hd : l + 1 ≤ 53 + d) : X / 2 ^ d < 2 ^ 53 := by
 rw [Nat.div_lt_iff_lt_mul (Nat.two_pow_pos _), ← Nat.pow_add]
 exact Nat.lt_of_lt_of_le hx (pow_mono hd)
theorem p52 : (2 : Nat) ^ 52 = 4503599627370496 := by decide
theorem p53 : (2 : Nat) ^ 53 = 9007199254740992 := by decide
theorem low_R (l m a b : Nat) (hl : l < m) (hm : 52 < m) (hb : 4503599627370496 ≤ b) (ha : a ≤ 9007199254740992) (hs : l < 52 → a ≤ 4503599627370496) : (l - 52) * 4503599627370496 + a ≤ (m - 52) * 4503599627370496 + b := by
 by_cases h : l < 52
 ·have := hs h
  omega
 ·omega
theorem R_mono {X Y : Nat} (h : X ≤ Y) : R X ≤ R Y := by
 by_cases hx : X = 0
 ·rw [hx, R_0]; exact Nat.zero_le _
 have hy : Y ≠ 0 := fun h0 => hx (by rw [h0] at h; exact Nat.le_zero.1 h)
 have x1 := Nat.log2_self_le hx
 have x2 := @Nat.lt_log2_self X
 have y1 := Nat.log2_self_le hy
 have hl : X.log2 ≤ Y.log2 := (Nat.le_log2 hy).2 (Nat.le_trans x1 h)
 have key : (X.log2 - 52) * 4503599627370496 + rne X (X.log2 - 52) ≤ (Y.log2 - 52) * 4503599627370496 + rne Y (Y.log2 - 52) := by
  by_cases he : X.log2 = Y.log2
  ·rw [he]
   exact Nat.add_le_add_left (rne_mono X Y _ h) _
  ·by_cases hs : Y.log2 ≤ 52
   ·have e1 : X.log2 - 52 = 0 := by clear x1 x2 y1; omega
    have e2 : Y.log2 - 52 = 0 := by clear x1 x2 y1; omega
    rw [e1, e2]
    exact Nat.add_le_add_left (rne_mono X Y _ h) _
   ·have t1 := top_ge Y Y.log2 (Y.log2 - 52) y1 (by clear x1 x2 y1; omega)
    have t2 := top_lt X X.log2 (X.log2 - 52) x2 (by clear x1 x2 y1; omega)
    rw [p52] at t1
    rw [p53] at t2
    have r1 := (rne_le Y (Y.log2 - 52)).1
    have r2 := (rne_le X (X.log2 - 52)).2
    refine low_R _ _ _ _ (by clear x1 x2 y1; omega) (by clear x1 x2 y1; omega) (Nat.le_trans t1 r1) (Nat.le_trans r2 t2) fun hlt => ?_
    have e1 : X.log2 - 52 = 0 := by clear x1 x2 y1; omega
    rw [e1]
    have hb : X < 2 ^ 52 := Nat.lt_of_lt_of_le x2 (pow_mono (by clear x1 x2 y1; omega))
    have r3 := (rne_le X 0).2
    rw [Nat.pow_zero, Nat.div_one] at r3
    rw [p52] at hb
    exact Nat.le_trans r3 hb
 unfold R
 exact Nat.le_min.2 ⟨Nat.le_trans (Nat.min_le_left _ _) key, Nat.min_le_right _ _⟩
theorem R_rv (r : Nat) (h : r ≤ 9218868437227405312) : R (rv r) = r := by
 unfold rv
 by_cases h1 : r < 4503599627370496
 ·rw [if_pos h1]
  by_cases h0 : r = 0
  ·rw [h0, R_0]
  ·have hl : r.log2 < 52 := (Nat.log2_lt h0).2 (by omega)
   unfold R
   rw [show r.log2 - 52 = 0 by omega]
   have y := rne_exact r 0
   rw [Nat.pow_zero, Nat.mul_one] at y
   rw [y]
   omega
 ·rw [if_neg h1]
  have hl : (4503599627370496 + r % 4503599627370496).log2 = 52 := by
   have hz : 4503599627370496 + r % 4503599627370496 ≠ 0 := by omega
   have a := (Nat.le_log2 hz (k := 52)).2 (by omega)
   have b := (Nat.log2_lt hz (k := 53)).2 (by omega)
   omega
  unfold R
  rw [log2_shift _ _ (by omega), hl, show 52 + (r / 4503599627370496 - 1) - 52 = r / 4503599627370496 - 1 by omega, rne_exact]
  omega
/-- Rounding of a whole number of units with its sign. -/
def RI (T : Int) : Int := sg (decide (T < 0)) (R T.natAbs)
theorem RI_mono {S T : Int} (h : S ≤ T) : RI S ≤ RI T := by
 unfold RI sg
 by_cases h1 : S < 0
 ·rw [decide_eq_true h1, if_pos rfl]
  by_cases h2 : T < 0
  ·rw [decide_eq_true h2, if_pos rfl]
   have := R_mono (X := T.natAbs) (Y := S.natAbs) (by omega)
   omega
  ·rw [decide_eq_false h2, if_neg (by simp)]
   omega
 ·rw [decide_eq_false h1, decide_eq_false (by omega), if_neg (by simp), if_neg (by simp)]
  have := R_mono (X := S.natAbs) (Y := T.natAbs) (by omega)
  omega
/-- A value far above each number's. -/
def big : Nat := 2 * rv 9218868437227405312
def rw' (r : Nat) : Nat := if r < 9218868437227405312 then rv r else big
/-- The exact value of a float, in units of 2^-1074; of an infinity a far one. -/
def xv (b : Nat) : Int := sg (sb b) (rw' (rg b))
theorem rv_top (r : Nat) (h : r < 9218868437227405312) : rv r < rv 9218868437227405312 := rv_lt h
theorem rw_lt (r s : Nat) (hr : r ≤ 9218868437227405312) (hs : s ≤ 9218868437227405312) (h : r ≤ s) : rw' r ≤ rw' s := by
 unfold rw' big
 by_cases h2 : s < 9218868437227405312
 ·rw [if_pos (by omega), if_pos h2]
  rcases Nat.lt_or_eq_of_le h with h3 | h3
  ·exact Nat.le_of_lt (rv_lt h3)
  ·rw [h3]; omega
 ·rw [if_neg h2]
  split
  ·rename_i h4
   have := rv_top r h4
   omega
  ·omega
theorem rw_0 : rw' 0 = 0 := by unfold rw'; rw [if_pos (by omega), rv_0]
theorem R_rw (r : Nat) (h : r ≤ 9218868437227405312) : R (rw' r) = r := by
 unfold rw'
 split
 ·exact R_rv r h
 ·have e : r = 9218868437227405312 := by omega
  have h1 := R_mono (X := rv 9218868437227405312) (Y := big) (by unfold big; omega)
  rw [R_rv _ (by omega)] at h1
  have := R_le big
  omega
theorem not_nan (b : Nat) (h : ¬ nan b) : rg b ≤ 9218868437227405312 := by unfold nan at h; unfold rg; omega
theorem RI_xv (b : Nat) (h : ¬ nan b) : RI (xv b) = vf b := by
 have hb := not_nan b h
 have e := R_rw (rg b) hb
 have h0 := R_0
 unfold RI xv vf
 generalize hx : rw' (rg b) = x at *
 unfold sg
 cases sb b
 ·simp only [Bool.false_eq_true, if_false]
  rw [decide_eq_false (by omega), if_neg (by simp), Int.natAbs_natCast, e]
 ·simp only [if_true]
  rw [Int.natAbs_neg, Int.natAbs_natCast, e]
  by_cases hz : x = 0
  ·rw [hz, h0] at e
   rw [← e]
   split <;> rfl
  ·rw [decide_eq_true (by omega), if_pos rfl]
theorem xv_mono {a b : Nat} (ha : ¬ nan a) (hb : ¬ nan b) (h : vf a ≤ vf b) : xv a ≤ xv b := by
 have h1 := not_nan a ha
 have h2 := not_nan b hb
 have h0 := rw_0
 unfold xv vf sg at *
 have m1 := rw_lt (rg a) (rg b) h1 h2
 have m2 := rw_lt (rg b) (rg a) h2 h1
 have z1 := rw_lt (rg a) 0 h1 (by omega)
 have z2 := rw_lt (rg b) 0 h2 (by omega)
 rw [h0] at z1 z2
 generalize rw' (rg a) = x at *
 generalize rw' (rg b) = y at *
 revert h
 cases sb a <;> cases sb b <;> simp only [Bool.false_eq_true, if_true, if_false] <;> omega
end Go.Proofs.YtmecohdedghiaaaDoor
namespace Go.Proofs.YtmecohdedghiaaaDoor
open Ieee
theorem word_vf (neg : Bool) (r : Nat) (h : r ≤ 9218868437227405312) : vf (double.word neg r) = sg neg r ∧ ¬ nan (double.word neg r) ∧ double.word neg r < 18446744073709551616 := by
 unfold Format.word vf sb rg nan
 rw [sw]
 cases neg
 ·simp only [Bool.false_eq_true, if_false]
  have e1 : (r / 9223372036854775808 % 2 == 1) = false := by rw [beq_eq_false_iff_ne]; omega
  have e2 : r % 9223372036854775808 = r := by omega
  rw [e1, e2]
  exact ⟨rfl, by omega, by omega⟩
 ·simp only [if_true]
  have e1 : ((9223372036854775808 + r) / 9223372036854775808 % 2 == 1) = true := by rw [beq_iff_eq]; omega
  have e2 : (9223372036854775808 + r) % 9223372036854775808 = r := by omega
  rw [e1, e2]
  exact ⟨rfl, by omega, by omega⟩
/-- Two infinities that are on either side. -/
def clash (a b : Nat) : Prop := rg a = 9218868437227405312 ∧ rg b = 9218868437227405312 ∧ sb a ≠ sb b
theorem R_big (X : Nat) (h : rv 9218868437227405312 ≤ X) : R X = 9218868437227405312 := by
 have h1 := R_mono h
 rw [R_rv _ (by omega)] at h1
 have := R_le X
 omega
theorem RI_pos (T : Int) (h : (rv 9218868437227405312 : Int) ≤ T) : RI T = 9218868437227405312 := by
 unfold RI sg
 rw [decide_eq_false (by omega), if_neg (by simp), R_big _ (by omega)]
 rfl
theorem RI_neg (T : Int) (h : T ≤ -(rv 9218868437227405312 : Int)) : RI T = -9218868437227405312 := by
 have hz : 0 < rv 9218868437227405312 := by
  have := rv_top 0 (by omega)
  omega
 unfold RI sg
 rw [decide_eq_true (by omega), if_pos rfl, R_big _ (by omega)]
 rfl
theorem xv_fin (b : Nat) (h : rg b < 9218868437227405312) : xv b = sg (sb b) (rv (rg b)) := by unfold xv rw'; rw [if_pos h]
theorem xv_inf (b : Nat) (h : rg b = 9218868437227405312) : xv b = sg (sb b) (2 * rv 9218868437227405312) := by unfold xv rw' big; rw [if_neg (by omega)]
theorem fin_bd (b : Nat) (h : rg b < 9218868437227405312) : -(rv 9218868437227405312 : Int) ≤ xv b ∧ xv b ≤ rv 9218868437227405312 := by
 have := rv_top _ h
 rw [xv_fin b h]
 unfold sg
 split <;> omega
theorem inf_sum (s : Bool) (T x : Int) (h : T = sg s (2 * rv 9218868437227405312) + x) (h1 : -(rv 9218868437227405312 : Int) ≤ x ∧ x ≤ rv 9218868437227405312) : RI T = sg s 9218868437227405312 := by
 subst h
 cases s
 ·exact RI_pos _ (by unfold sg; rw [if_neg (by simp)]; omega)
 ·exact RI_neg _ (by unfold sg; rw [if_pos rfl]; omega)
theorem write_inf (s : Bool) : double.write (.infinity s) = double.word s 9218868437227405312 := by
 unfold Format.write
 rw [ir]
/-- What a sum is, where there is one. -/
theorem add_some (a b : Nat) (ha : ¬ nan a) (hb : ¬ nan b) (hc : ¬ clash a b) : ∃ p, double.add a b = some p ∧ ¬ nan p ∧ p < 18446744073709551616 ∧ vf p = RI (xv a + xv b) := by
 have h1 := not_nan a ha
 have h2 := not_nan b hb
 unfold Format.add
 by_cases ia : rg a = 9218868437227405312
 ·rw [read_inf a ia]
  by_cases ib : rg b = 9218868437227405312
  ·rw [read_inf b ib]
   have hs : sb a = sb b := by
    apply Decidable.byContradiction
    intro hh
    exact hc ⟨ia, ib, hh⟩
   simp only [Datum.sum, hs, if_true, Option.map_some, write_inf]
   obtain ⟨w1, w2, w3⟩ := word_vf (sb b) 9218868437227405312 (by omega)
   refine ⟨_, rfl, w2, w3, ?_⟩
   rw [w1, xv_inf a ia, xv_inf b ib, hs]
   have hz : 0 < rv 9218868437227405312 := by
    have := rv_top 0 (by omega)
    omega
   cases sb b
   ·exact (RI_pos _ (by unfold sg; rw [if_neg (by simp)]; omega)).symm
   ·exact (RI_neg _ (by unfold sg; rw [if_pos rfl]; omega)).symm
  ·obtain ⟨n, q, hr2, _, _⟩ := read_fin b (by omega)
   rw [hr2]
   simp only [Datum.sum, Option.map_some, write_inf]
   obtain ⟨w1, w2, w3⟩ := word_vf (sb a) 9218868437227405312 (by omega)
   refine ⟨_, rfl, w2, w3, ?_⟩
   rw [w1]
   exact (inf_sum (sb a) _ (xv b) (by rw [xv_inf a ia]) (fin_bd b (by omega))).symm
 ·obtain ⟨m, p, hr, hp, hv⟩ := read_fin a (by omega)
  rw [hr]
  by_cases ib : rg b = 9218868437227405312
  ·rw [read_inf b ib]
   simp only [Datum.sum, Option.map_some, write_inf]
   obtain ⟨w1, w2, w3⟩ := word_vf (sb b) 9218868437227405312 (by omega)
   refine ⟨_, rfl, w2, w3, ?_⟩
   rw [w1]
   exact (inf_sum (sb b) _ (xv a) (by rw [xv_inf b ib, Int.add_comm]) (fin_bd a (by omega))).symm
  ·obtain ⟨n, q, hr2, hq, hv2⟩ := read_fin b (by omega)
   rw [hr2]
   simp only [Datum.sum, Option.map_some, Format.write]
   have hbase : -1074 ≤ min p q := by omega
   rw [nearest_R _ _ _ hbase]
   have hT : (signed (sb a) m (p - min p q).toNat + signed (sb b) n (q - min p q).toNat) * ((2 ^ (min p q + 1074).toNat : Nat) : Int) = xv a + xv b := by
    rw [xv_fin a (by omega), xv_fin b (by omega), Int.add_mul, signed_sg, signed_sg, ← sg_mul, ← sg_mul, Nat.mul_assoc, Nat.mul_assoc, ← Nat.pow_add, ← Nat.pow_add]
    rw [show (p - min p q).toNat + (min p q + 1074).toNat = (p + 1074).toNat by omega, show (q - min p q).toNat + (min p q + 1074).toNat = (q + 1074).toNat by omega, hv, hv2]
   rw [← hT]
   have hk := Nat.two_pow_pos (min p q + 1074).toNat
   generalize 2 ^ (min p q + 1074).toNat = k at *
   generalize signed (sb a) m (p - min p q).toNat + signed (sb b) n (q - min p q).toNat = T at *
   obtain ⟨w1, w2, w3⟩ := word_vf (if T = 0 then sb a && sb b else decide (T < 0)) (R (T.natAbs * k)) (R_le _)
   refine ⟨_, rfl, w2, w3, ?_⟩
   rw [w1]
   unfold RI
   rw [Int.natAbs_mul, Int.natAbs_natCast]
   by_cases hz : T = 0
   ·subst hz
    rw [if_pos rfl, Int.zero_mul, Int.natAbs_zero, Nat.zero_mul, R_0]
    unfold sg
    simp
   ·rw [if_neg hz]
    congr 1
    rw [decide_eq_decide]
    have hk' : (0 : Int) < k := by omega
    constructor
    ·intro h; exact Int.mul_neg_of_neg_of_pos h hk'
    ·intro h
     apply Int.lt_of_not_ge
     intro hh
     have := Int.mul_nonneg hh (Int.le_of_lt hk')
     omega
theorem add_none (a b : Nat) (h : nan a ∨ nan b ∨ clash a b) : double.add a b = none := by
 unfold Format.add
 rcases h with h | h | ⟨ia, ib, hs⟩
 ·obtain ⟨s, t, e⟩ := read_nan a h
  rw [e]; rfl
 ·obtain ⟨s, t, e⟩ := read_nan b h
  rw [e]
  cases double.read a <;> rfl
 ·rw [read_inf a ia, read_inf b ib]
  simp only [Datum.sum, if_neg hs, Option.map_none]
/-- The float on the other side. -/
def flip (b : Nat) : Nat := if 9223372036854775808 ≤ b then b - 9223372036854775808 else b + 9223372036854775808
theorem flip_parts (b : Nat) (h : b < 18446744073709551616) : rg (flip b) = rg b ∧ sb (flip b) = !sb b := by
 unfold flip rg sb
 split
 ·refine ⟨by omega, ?_⟩
  have e1 : (b / 9223372036854775808 % 2 == 1) = true := by rw [beq_iff_eq]; omega
  have e2 : ((b - 9223372036854775808) / 9223372036854775808 % 2 == 1) = false := by rw [beq_eq_false_iff_ne]; omega
  rw [e1, e2]; rfl
 ·refine ⟨by omega, ?_⟩
  have e1 : (b / 9223372036854775808 % 2 == 1) = false := by rw [beq_eq_false_iff_ne]; omega
  have e2 : ((b + 9223372036854775808) / 9223372036854775808 % 2 == 1) = true := by rw [beq_iff_eq]; omega
  rw [e1, e2]; rfl
theorem nan_rg (b : Nat) : nan b ↔ 9218868437227405312 < rg b := Iff.rfl
theorem sub_flip (a b : Nat) (h : b < 18446744073709551616) : double.sub a b = double.add a (flip b) := by
 obtain ⟨h1, h2⟩ := flip_parts b h
 have e : double.read (flip b) = (double.read b).opposite := by
  unfold rg at h1
  unfold sb at h2
  unfold Format.read
  simp only [sw, bn, ir, lp]
  rw [h1, h2]
  (repeat' split) <;> rfl
 unfold Format.sub Format.add
 rw [e]
theorem xv_flip (b : Nat) (h : b < 18446744073709551616) : xv (flip b) = -xv b := by
 obtain ⟨h1, h2⟩ := flip_parts b h
 unfold xv sg
 rw [h1, h2]
 cases sb b <;> simp
/-- Two infinities on the same side. -/
def clashS (a b : Nat) : Prop := rg a = 9218868437227405312 ∧ rg b = 9218868437227405312 ∧ sb a = sb b
theorem clash_flip (a b : Nat) (h : b < 18446744073709551616) : clash a (flip b) ↔ clashS a b := by
 obtain ⟨h1, h2⟩ := flip_parts b h
 unfold clash clashS
 rw [h1, h2]
 cases sb a <;> cases sb b <;> simp
theorem sub_some (a b : Nat) (h64 : b < 18446744073709551616) (ha : ¬ nan a) (hb : ¬ nan b) (hc : ¬ clashS a b) : ∃ p, double.sub a b = some p ∧ ¬ nan p ∧ p < 18446744073709551616 ∧ vf p = RI (xv a - xv b) := by
 obtain ⟨h1, _⟩ := flip_parts b h64
 have hb' : ¬ nan (flip b) := by rw [nan_rg, h1]; exact hb
 obtain ⟨p, e1, e2, e3, e4⟩ := add_some a (flip b) ha hb' (by rw [clash_flip a b h64]; exact hc)
 refine ⟨p, by rw [sub_flip a b h64]; exact e1, e2, e3, ?_⟩
 rw [e4, xv_flip b h64]
 rfl
theorem sub_none (a b : Nat) (h64 : b < 18446744073709551616) (h : nan a ∨ nan b ∨ clashS a b) : double.sub a b = none := by
 obtain ⟨h1, _⟩ := flip_parts b h64
 rw [sub_flip a b h64]
 refine add_none _ _ ?_
 rcases h with h | h | h
 ·exact .inl h
 ·exact .inr (.inl (by rw [nan_rg, h1]; exact h))
 ·exact .inr (.inr ((clash_flip a b h64).2 h))
end Go.Proofs.YtmecohdedghiaaaDoor
namespace Go.Proofs.YtmecohdedghiaaaDoor
open Go.RowKit
/-- Lists of floats. -/
noncomputable def KF : Lk Tryd.prog Nat where
 S := 22
 E := 50
 n := 1
 zero := .float .f64 0
 bytes := 8
 cells x := [.float .f64 x]
 dflt := 0
 ok x := x < 18446744073709551616
 und := Tryd.underlying22
 info := by kernel_rfl
 zs := rfl
 pos := by decide
 small := by decide
 len _ := rfl
 one x u hu := by rw [List.mem_singleton] at hu; subst hu; rfl
/-- A list of floats that is not empty, as cells. -/
theorem KF.cells {w : World} {B : Nat} {v : Value} {xs : List Nat} (h : KF.IsL w B v xs) (h0 : 0 < xs.length) : ∃ b off cap, v = .slice (some ⟨b, off, none⟩) xs.length cap ∧ xs.length ≤ cap ∧ b < B ∧ xs.length ≤ 9223372036854775807 ∧
  (∀ i, i < xs.length → w.cell? ⟨b, off + i, none⟩ = some (.float .f64 (xs.getD i 0))) ∧ (∀ i, i < xs.length → xs.getD i 0 < 18446744073709551616) := by
 obtain ⟨⟨A, cap, rfl, hc, hA⟩, hf, hl⟩ := h
 obtain ⟨b, off, rfl, hb, hcell⟩ := hA h0
 refine ⟨b, off, cap, rfl, hc, hb, hl, fun i hi => ?_, fun i hi => hf _ (getD_mem' xs i 0 hi)⟩
 have := hcell i hi 0 (.float .f64 (xs.getD i 0)) rfl
 simpa [KF] using this
theorem run_bits (b : Nat) (w : World) : (callFunc 52 #[.float .f64 b]).run Tryd.prog w = .ok (.value (.int .u64 b)) w := by
 rw [run_callFunc_extern Tryd.func52 (by kernel_rfl) (by kernel_rfl) (by kernel_rfl) (e := Extern.MathFloatBits.float64bits) (by kernel_rfl)]
 rfl
theorem bits_any (b : Nat) (w : World) : Calls Tryd.prog 95 #[.float .f64 b] w fun e w' => e = .returned (.int .u64 b) ∧ w = w' := by
 have hb := fun b => run_bits b
 go_enter Tryd.func95, Tryd.ntmps95
 go_wp2
 go_ret
 exact ⟨rfl, rfl⟩
/-- The class of a float's bits. -/
def cls (b : Nat) : Int :=
 if b / 4503599627370496 % 2048 = 2047 then (if b % 4503599627370496 = 0 then 2 else 1)
 else if b / 4503599627370496 % 2048 = 0 then (if b % 4503599627370496 = 0 then 3 else 4) else 5
theorem cls_nan (b : Nat) : (cls b = 1) ↔ nan b := by
 unfold cls nan
 (repeat' split) <;> omega
set_option maxHeartbeats 400000 in
theorem rclass_any (b : Nat) (w : World) : Calls Tryd.prog 38 #[.int .u64 b] w fun e w' => e = .returned (.int .i64 (cls b)) ∧ w = w' := by
 go_enter Tryd.func38, Tryd.ntmps38
 go_wp2
 all_goals
  go_ret
  refine ⟨ret_i ?_, rfl⟩
  simp only [beq_iff_eq, beq_eq_false_iff_ne, bne_iff_ne, bne_eq_false_iff_eq] at *
  unfold cls
  (repeat' split) <;> omega
set_option maxHeartbeats 400000 in
theorem rnone_any (b : Nat) (w : World) : Calls Tryd.prog 91 #[.float .f64 b] w fun e w' => e = .returned (.bool (nanb b)) ∧ w = w' := by
 go_enter Tryd.func91, Tryd.ntmps91
 go_wp2_with fail
 refine (bits_any _ _).mono ?_
 rintro e w' ⟨rfl, rfl⟩
 go_wp2_with fail
 refine (rclass_any _ _).mono ?_
 rintro e w' ⟨rfl, rfl⟩
 go_wp2_with fail
 go_ret
 refine ⟨ret_b ?_, rfl⟩
 rw [Bool.eq_iff_iff, beq_iff_eq]
 unfold nanb
 rw [decide_eq_true_eq]
 exact cls_nan b
set_option maxHeartbeats 400000 in
theorem isNone_any (b : Nat) (w : World) : Calls Tryd.prog 89 #[.float .f64 b] w fun e w' => e = .returned (.bool (nanb b)) ∧ w = w' := by
 have hs := self_eq b
 go_enter Tryd.func89, Tryd.ntmps89
 go_wp2
 go_ret
 exact ⟨rfl, rfl⟩
end Go.Proofs.YtmecohdedghiaaaDoor
namespace Go.Proofs.YtmecohdedghiaaaDoor
open Go.RowKit
theorem drewN_two (w : World) (a b : Nat) : ∃ d, (w.drewN a).drewN b = w.drewN d := ⟨a + b, by simp [World.drewN, Nat.add_assoc]⟩
/-- The first wrong border from one on. -/
def chkAt (l : List Nat) (i : Nat) : Int :=
 if i < l.length then
  (if nanb (l.getD i 0) = true then 20
  else if 0 < i ∧ leb (l.getD i 0) (l.getD (i - 1) 0) = true then 70
  else chkAt l (i + 1))
 else 0
termination_by l.length - i
def chkE (l : List Nat) : Int := if l.length < 2 then 1 else if 25 < l.length then 2 else chkAt l 0
theorem chk_end (l : List Nat) (i : Nat) (h : l.length ≤ i) : chkAt l i = 0 := by rw [chkAt, if_neg (by omega)]
theorem chk_nan (l : List Nat) (i : Nat) (h : i < l.length) (hn : nanb (l.getD i 0) = true) : chkAt l i = 20 := by rw [chkAt, if_pos h, if_pos hn]
theorem chk_bad (l : List Nat) (i : Nat) (h : i < l.length) (hn : nanb (l.getD i 0) = false) (h0 : 0 < i) (hb : leb (l.getD i 0) (l.getD (i - 1) 0) = true) : chkAt l i = 70 := by
 rw [chkAt, if_pos h, if_neg (by simp only [hn]; simp), if_pos ⟨h0, hb⟩]
theorem chk_next (l : List Nat) (i : Nat) (h : i < l.length) (hn : nanb (l.getD i 0) = false) (hb : i = 0 ∨ leb (l.getD i 0) (l.getD (i - 1) 0) = false) : chkAt l (i + 1) = chkAt l i := by
 rw [chkAt.eq_def l i, if_pos h, if_neg (by simp only [hn]; simp), if_neg]
 rintro ⟨h0, hb2⟩
 rcases hb with hb | hb
 ·omega
 ·rw [hb] at hb2; cases hb2
set_option maxHeartbeats 2000000 in
theorem check_any (v : Value) (xs : List Nat) (w : World) (h : KF.IsL w w.heap.size v xs) : Calls Tryd.prog 68 #[v] w fun e w' => e = .returned (.int .i64 (chkE xs)) ∧ w = w' := by
 by_cases h2 : xs.length < 2
 ·obtain ⟨⟨A, cap, rfl, hc, hA⟩, hf, hl⟩ := h
  go_enter Tryd.func68, Tryd.ntmps68
  go_wp2
  go_step3
  go_wp2
  rw [Exit.noGoto_ret]
  go_ret
  exact ⟨ret_i (by unfold chkE; rw [if_pos h2]), rfl⟩
 obtain ⟨b, off, cap, rfl, hc, hb, hl, hcell, hlt⟩ := KF.cells h (by omega)
 clear h
 by_cases h25 : 25 < xs.length
 ·go_enter Tryd.func68, Tryd.ntmps68
  go_wp2
  go_step3
  go_wp2
  rw [Exit.noGoto_ret]
  go_ret
  exact ⟨ret_i (by unfold chkE; rw [if_neg h2, if_pos h25]), rfl⟩
 have HE := Lib.hid (show chkE xs = chkAt xs 0 by unfold chkE; rw [if_neg h2, if_neg h25])
 have HC := Lib.hid hcell
 have HL := Lib.hid hlt
 have HX := Lib.hid (fun i => chk_next xs i)
 have HN := Lib.hid (fun i => chk_nan xs i)
 have HB := Lib.hid (fun i => chk_bad xs i)
 have HD := Lib.hid (fun i => chk_end xs i)
 have ole : ∀ a b, (FloatKind.f64.format.order a b == some .lt || FloatKind.f64.format.order a b == some .eq) = leb a b := fun _ _ => rfl
 clear hcell hlt
 go_enter Tryd.func68, Tryd.ntmps68
 go_wp2
 go_step3
 go_wp2
 go_step3
 go_wp2
 go_loop [3, 16] (fun e i => ∃ k : Nat, k ≤ xs.length ∧ e = .int .i64 0 ∧ i = .int .i64 k ∧ chkAt xs k = chkAt xs 0) (fun _ i => xs.length - (intOf i).toNat)
 case atStart => exact ⟨0, by omega, rfl, rfl, rfl⟩
 case round =>
  obtain ⟨k, hk, rfl, rfl, hgo⟩ := hrel
  have HG := Lib.hid hgo
  clear hgo
  by_cases hlt : k < xs.length
  ·have hcell := HC.out k hlt
   have HX' := Lib.hid (HX.out k hlt)
   have HN' := Lib.hid (HN.out k hlt)
   have HB' := Lib.hid (HB.out k hlt)
   by_cases h0 : 0 < k
   ·have hprev := HC.out (k - 1) (by omega)
    generalize xs.getD (k - 1) 0 = g at *
    generalize xs.getD k 0 = f at *
    rcases Bool.eq_false_or_eq_true (nanb f) with hn | hn
    ·have HR := Lib.hid (HN'.out hn)
     go_wp2_with (go_at_call 89; refine (isNone_any _ _).mono ?_; rintro e w' ⟨rfl, rfl⟩)
     rw [Exit.noGoto_ret]
     go_ret
     exact ⟨ret_i (by rw [HE.out, ← HG.out, HR.out]), rfl⟩
    ·rcases Bool.eq_false_or_eq_true (leb f g) with hb | hb
     ·have HR := Lib.hid (HB'.out hn h0 hb)
      go_wp2_with (go_at_call 89; refine (isNone_any _ _).mono ?_; rintro e w' ⟨rfl, rfl⟩)
      rw [Exit.noGoto_ret]
      go_ret
      exact ⟨ret_i (by rw [HE.out, ← HG.out, HR.out]), rfl⟩
     ·have HR := Lib.hid (HX'.out hn (.inr hb))
      go_wp2_with (go_at_call 89; refine (isNone_any _ _).mono ?_; rintro e w' ⟨rfl, rfl⟩)
      go_round
      case rel => exact ⟨k + 1, by omega, rfl, num_i (by omega), by rw [HR.out, HG.out]⟩
      case measure => simp [intOf]; omega
   ·generalize xs.getD k 0 = f at *
    rcases Bool.eq_false_or_eq_true (nanb f) with hn | hn
    ·have HR := Lib.hid (HN'.out hn)
     go_wp2_with (go_at_call 89; refine (isNone_any _ _).mono ?_; rintro e w' ⟨rfl, rfl⟩)
     rw [Exit.noGoto_ret]
     go_ret
     exact ⟨ret_i (by rw [HE.out, ← HG.out, HR.out]), rfl⟩
    ·have HR := Lib.hid (HX'.out hn (.inl (by omega)))
     go_wp2_with (go_at_call 89; refine (isNone_any _ _).mono ?_; rintro e w' ⟨rfl, rfl⟩)
     go_round
     case rel => exact ⟨k + 1, by omega, rfl, num_i (by omega), by rw [HR.out, HG.out]⟩
     case measure => simp [intOf]; omega
  ·go_wp2
   go_ret
   exact ⟨ret_i (by rw [HE.out, ← HG.out, HD.out k (by omega)]), rfl⟩
set_option maxHeartbeats 2000000 in
theorem rcheck_any (v : Value) (xs : List Nat) (w : World) (h : KF.IsL w w.heap.size v xs) : Calls Tryd.prog 78 #[v] w fun e w' => e = .returned (.int .i64 (chkE xs)) ∧ ∃ d, w' = w.drewN d := by
 by_cases h2 : xs.length < 2
 ·obtain ⟨⟨A, cap, rfl, hc, hA⟩, hf, hl⟩ := h
  go_enter Tryd.func78, Tryd.ntmps78
  go_wp2
  go_ret
  exact ⟨ret_i (by unfold chkE; rw [if_pos h2]), 0, rfl⟩
 obtain ⟨b, off, cap, rfl, hc, hb, hl, hcell, hlt⟩ := KF.cells h (by omega)
 clear h
 by_cases h25 : 25 < xs.length
 ·go_enter Tryd.func78, Tryd.ntmps78
  go_wp2
  go_ret
  exact ⟨ret_i (by unfold chkE; rw [if_neg h2, if_pos h25]), 0, rfl⟩
 have HE := Lib.hid (show chkE xs = chkAt xs 0 by unfold chkE; rw [if_neg h2, if_neg h25])
 have HC := Lib.hid hcell
 have HX := Lib.hid (fun i => chk_next xs i)
 have HN := Lib.hid (fun i => chk_nan xs i)
 have HB := Lib.hid (fun i => chk_bad xs i)
 have HD := Lib.hid (fun i => chk_end xs i)
 have ole : ∀ a b, (FloatKind.f64.format.order a b == some .lt || FloatKind.f64.format.order a b == some .eq) = leb a b := fun _ _ => rfl
 clear hcell hlt
 go_enter Tryd.func78, Tryd.ntmps78
 go_wp2
 go_loopw [3] (fun i wr => ∃ k d : Nat, k ≤ xs.length ∧ i = .int .i64 k ∧ chkAt xs k = chkAt xs 0 ∧ wr = w.drewN d) (fun i _ => xs.length - (intOf i).toNat)
 case atStart => exact ⟨0, 0, by omega, rfl, rfl, rfl⟩
 case round =>
  obtain ⟨k, d, hk, rfl, hgo, hw⟩ := hrel
  have HW := Lib.hid hw
  clear hw
  have HG := Lib.hid hgo
  clear hgo
  by_cases hlt : k < xs.length
  ·have hcell : wr.cell? ⟨b, off + k, none⟩ = some (.float .f64 (xs.getD k 0)) := by rw [HW.out]; exact HC.out k hlt
   have HX' := Lib.hid (HX.out k hlt)
   have HN' := Lib.hid (HN.out k hlt)
   have HB' := Lib.hid (HB.out k hlt)
   by_cases h0 : 0 < k
   ·have hd : decide (0 < (k : Int)) = true := decide_eq_true (by omega)
    have hprev : wr.cell? ⟨b, off + (k - 1), none⟩ = some (.float .f64 (xs.getD (k - 1) 0)) := by rw [HW.out]; exact HC.out (k - 1) (by omega)
    generalize xs.getD (k - 1) 0 = g at *
    generalize xs.getD k 0 = f at *
    rcases Bool.eq_false_or_eq_true (nanb f) with hn | hn
    ·have HR := Lib.hid (HN'.out hn)
     go_wp2_with (go_at_call 91; refine (rnone_any _ _).mono ?_; rintro e w' ⟨rfl, rfl⟩)
     go_ret
     exact ⟨ret_i (by rw [HE.out, ← HG.out, HR.out]), by rw [HW.out]; first | exact ⟨_, rfl⟩ | exact drewN_two _ _ _⟩
    ·rcases Bool.eq_false_or_eq_true (leb f g) with hb | hb
     ·have HR := Lib.hid (HB'.out hn h0 hb)
      go_wp2_with (go_at_call 91; refine (rnone_any _ _).mono ?_; rintro e w' ⟨rfl, rfl⟩)
      go_quiet (fail)
      go_wp2
      go_ret
      exact ⟨ret_i (by rw [HE.out, ← HG.out, HR.out]), by rw [HW.out]; first | exact ⟨_, rfl⟩ | exact drewN_two _ _ _⟩
     ·have HR := Lib.hid (HX'.out hn (.inr hb))
      go_wp2_with (go_at_call 91; refine (rnone_any _ _).mono ?_; rintro e w' ⟨rfl, rfl⟩)
      go_quiet (fail)
      go_wp2
      go_roundw
      case rel => obtain ⟨d2, hd2⟩ := drewN_two w d nq; exact ⟨k + 1, d2, by omega, num_i (by omega), by rw [HR.out, HG.out], by rw [HW.out]; exact hd2⟩
      case measure => simp [intOf]; omega
   ·have hd : decide (0 < (k : Int)) = false := decide_eq_false (by omega)
    generalize xs.getD k 0 = f at *
    rcases Bool.eq_false_or_eq_true (nanb f) with hn | hn
    ·have HR := Lib.hid (HN'.out hn)
     go_wp2_with (go_at_call 91; refine (rnone_any _ _).mono ?_; rintro e w' ⟨rfl, rfl⟩)
     go_ret
     exact ⟨ret_i (by rw [HE.out, ← HG.out, HR.out]), by rw [HW.out]; first | exact ⟨_, rfl⟩ | exact drewN_two _ _ _⟩
    ·have HR := Lib.hid (HX'.out hn (.inl (by omega)))
     go_wp2_with (go_at_call 91; refine (rnone_any _ _).mono ?_; rintro e w' ⟨rfl, rfl⟩)
     go_quiet (fail)
     go_wp2
     go_roundw
     case rel => obtain ⟨d2, hd2⟩ := drewN_two w d nq; exact ⟨k + 1, d2, by omega, num_i (by omega), by rw [HR.out, HG.out], by rw [HW.out]; exact hd2⟩
     case measure => simp [intOf]; omega
  ·go_wp2
   go_ret
   exact ⟨ret_i (by rw [HE.out, ← HG.out, HD.out k (by omega)]), _, HW.out⟩
end Go.Proofs.YtmecohdedghiaaaDoor
namespace Go.Proofs.YtmecohdedghiaaaDoor
/-- Borders that rise. -/
structure Rise (l : List Nat) : Prop where
 two : 2 ≤ l.length
 most : l.length ≤ 25
 num : ∀ i, i < l.length → ¬ nan (l.getD i 0)
 lt : ∀ i j, i < j → j < l.length → vf (l.getD i 0) < vf (l.getD j 0)
theorem Rise.le {l : List Nat} (h : Rise l) (i j : Nat) (hij : i ≤ j) (hj : j < l.length) : vf (l.getD i 0) ≤ vf (l.getD j 0) := by
 rcases Nat.lt_or_eq_of_le hij with h1 | h1
 ·exact Int.le_of_lt (h.lt i j h1 hj)
 ·rw [h1]; omega
theorem chk_all (l : List Nat) : ∀ n i, n = l.length - i → chkAt l i = 0 → ∀ j, i ≤ j → j < l.length → ¬ nan (l.getD j 0) ∧ (0 < j → leb (l.getD j 0) (l.getD (j - 1) 0) = false) := by
 intro n
 induction n with
 | zero => intro i hn _ j h1 h2; omega
 | succ n ih =>
  intro i hn hc j h1 h2
  rw [chkAt, if_pos (by omega)] at hc
  by_cases hnan : nanb (l.getD i 0) = true
  ·rw [if_pos hnan] at hc; omega
  rw [if_neg hnan] at hc
  by_cases hb : 0 < i ∧ leb (l.getD i 0) (l.getD (i - 1) 0) = true
  ·rw [if_pos hb] at hc; omega
  rw [if_neg hb] at hc
  by_cases hij : i = j
  ·subst hij
   refine ⟨by unfold nanb at hnan; simpa using hnan, fun h0 => ?_⟩
   rw [← Bool.not_eq_true]
   exact fun hh => hb ⟨h0, hh⟩
  ·exact ih (i + 1) (by omega) hc j (by omega) h2
theorem rise_of (l : List Nat) (h : chkE l = 0) : Rise l := by
 unfold chkE at h
 by_cases h1 : l.length < 2
 ·rw [if_pos h1] at h; omega
 rw [if_neg h1] at h
 by_cases h2 : 25 < l.length
 ·rw [if_pos h2] at h; omega
 rw [if_neg h2] at h
 have ha := chk_all l _ 0 rfl h
 have hnum : ∀ i, i < l.length → ¬ nan (l.getD i 0) := fun i hi => (ha i (Nat.zero_le _) hi).1
 have step : ∀ i, i + 1 < l.length → vf (l.getD i 0) < vf (l.getD (i + 1) 0) := fun i hi => by
  have h3 := (ha (i + 1) (Nat.zero_le _) hi).2 (by omega)
  rw [Nat.add_sub_cancel] at h3
  apply Int.lt_of_not_ge
  intro hh
  have := (leb_iff (l.getD (i + 1) 0) (l.getD i 0)).2 ⟨hnum _ hi, hnum _ (by omega), hh⟩
  rw [this] at h3
  cases h3
 refine ⟨by omega, by omega, hnum, fun i j hij => ?_⟩
 induction j with
 | zero => omega
 | succ j ih =>
  intro hj
  by_cases e : i = j
  ·subst e; exact step i hj
  ·exact Int.lt_trans (ih (by omega) (by omega)) (step j hj)
theorem ltb_num {a b : Nat} (ha : ¬ nan a) (hb : ¬ nan b) : ltb a b = decide (vf a < vf b) := by
 rw [Bool.eq_iff_iff, ltb_iff, decide_eq_true_eq]
 exact ⟨fun h => h.2.2, fun h => ⟨ha, hb, h⟩⟩
theorem leb_num {a b : Nat} (ha : ¬ nan a) (hb : ¬ nan b) : leb a b = decide (vf a ≤ vf b) := by
 rw [Bool.eq_iff_iff, leb_iff, decide_eq_true_eq]
 exact ⟨fun h => h.2.2, fun h => ⟨ha, hb, h⟩⟩
theorem gtb_num {a b : Nat} (ha : ¬ nan a) (hb : ¬ nan b) : gtb a b = decide (vf b < vf a) := by
 rw [Bool.eq_iff_iff, gtb_iff, decide_eq_true_eq]
 exact ⟨fun h => h.2.2, fun h => ⟨ha, hb, h⟩⟩
theorem geb_num {a b : Nat} (ha : ¬ nan a) (hb : ¬ nan b) : geb a b = decide (vf b ≤ vf a) := by
 rw [Bool.eq_iff_iff, geb_iff, decide_eq_true_eq]
 exact ⟨fun h => h.2.2, fun h => ⟨ha, hb, h⟩⟩
/-- The first lane that a lies below the upper border of; the last one that b is not below. -/
def loV (l : List Nat) (a : Nat) (k : Nat) : Nat := if k + 2 < l.length ∧ geb a (l.getD (k + 1) 0) = true then loV l a (k + 1) else k
termination_by l.length - k
def hiV (l : List Nat) (b : Nat) : Nat → Nat
 | 0 => 0
 | k + 1 => if ltb b (l.getD (k + 1) 0) = true then hiV l b k else k + 1
theorem lo_next (l : List Nat) (a k : Nat) (h : k + 2 < l.length) (hg : geb a (l.getD (k + 1) 0) = true) : loV l a (k + 1) = loV l a k := by
 rw [loV.eq_def l a k, if_pos ⟨h, hg⟩]
theorem lo_end (l : List Nat) (a k : Nat) (h : l.length ≤ k + 2 ∨ geb a (l.getD (k + 1) 0) = false) : loV l a k = k := by
 rw [loV, if_neg]
 rintro ⟨h1, h2⟩
 rcases h with h | h
 ·omega
 ·rw [h] at h2; cases h2
theorem hi_next (l : List Nat) (b k : Nat) (hg : ltb b (l.getD k 0) = true) (h0 : ltb b (l.getD 0 0) = false) : 0 < k ∧ hiV l b (k - 1) = hiV l b k := by
 cases k with
 | zero => rw [h0] at hg; cases hg
 | succ k =>
  refine ⟨by omega, ?_⟩
  rw [Nat.add_sub_cancel, hiV.eq_def l b (k + 1)]
  simp only [hg, if_true]
theorem hi_end (l : List Nat) (b k : Nat) (hg : ltb b (l.getD k 0) = false) : hiV l b k = k := by
 cases k with
 | zero => rfl
 | succ k =>
  rw [hiV, hg, if_neg (by simp)]
/-- Lies it off the rail? -/
def outB (l : List Nat) (a b : Nat) : Bool := gtb a (l.getD (l.length - 1) 0) || ltb b (l.getD 0 0)
theorem lo_spec (l : List Nat) (h : Rise l) (a : Nat) (ha : ¬ nan a) : ∀ n k, n = l.length - k → k + 2 ≤ l.length → (∀ j, j < k → vf (l.getD (j + 1) 0) ≤ vf a) →
  loV l a k + 2 ≤ l.length ∧ (∀ j, j < loV l a k → vf (l.getD (j + 1) 0) ≤ vf a) ∧ (loV l a k + 2 = l.length ∨ vf a < vf (l.getD (loV l a k + 1) 0)) := by
 intro n
 induction n with
 | zero => intro k h1 h2; omega
 | succ n ih =>
  intro k hn hk hj
  by_cases hc : k + 2 < l.length ∧ geb a (l.getD (k + 1) 0) = true
  ·rw [loV, if_pos hc]
   refine ih (k + 1) (by omega) (by omega) fun j hj2 => ?_
   by_cases e : j = k
   ·subst e
    exact ((geb_iff _ _).1 hc.2).2.2
   ·exact hj j (by omega)
  ·rw [loV, if_neg hc]
   refine ⟨hk, hj, ?_⟩
   by_cases e : k + 2 = l.length
   ·exact .inl e
   ·right
    have hg : ¬ geb a (l.getD (k + 1) 0) = true := fun hh => hc ⟨by omega, hh⟩
    rw [geb_num ha (h.num _ (by omega)), decide_eq_true_eq] at hg
    omega
theorem hi_spec (l : List Nat) (h : Rise l) (b : Nat) (hb : ¬ nan b) (h0 : vf (l.getD 0 0) ≤ vf b) : ∀ k, k < l.length →
  hiV l b k ≤ k ∧ vf (l.getD (hiV l b k) 0) ≤ vf b ∧ ∀ j, hiV l b k < j → j ≤ k → vf b < vf (l.getD j 0) := by
 intro k
 induction k with
 | zero => intro _; exact ⟨Nat.le_refl _, h0, fun j h1 h2 => by unfold hiV at h1; omega⟩
 | succ k ih =>
  intro hk
  obtain ⟨i1, i2, i3⟩ := ih (by omega)
  by_cases hc : ltb b (l.getD (k + 1) 0) = true
  ·rw [hiV, if_pos hc]
   refine ⟨by omega, i2, fun j h1 h2 => ?_⟩
   by_cases e : j = k + 1
   ·subst e
    exact ((ltb_iff _ _).1 hc).2.2
   ·exact i3 j h1 (by omega)
  ·rw [hiV, if_neg hc]
   rw [ltb_num hb (h.num _ hk), decide_eq_true_eq] at hc
   exact ⟨Nat.le_refl _, by omega, fun j h1 h2 => by omega⟩
/-- What is known of the touched lanes. -/
theorem lanes_spec (l : List Nat) (h : Rise l) (a b : Nat) (ha : ¬ nan a) (hb : ¬ nan b) (hab : vf a ≤ vf b) (ho : outB l a b = false) :
  loV l a 0 ≤ hiV l b (l.length - 2) ∧ hiV l b (l.length - 2) + 2 ≤ l.length ∧ (∀ j, j < loV l a 0 → vf (l.getD (j + 1) 0) ≤ vf a) ∧ (loV l a 0 + 2 = l.length ∨ vf a < vf (l.getD (loV l a 0 + 1) 0)) ∧
  vf (l.getD (hiV l b (l.length - 2)) 0) ≤ vf b ∧ (∀ j, hiV l b (l.length - 2) < j → j + 2 ≤ l.length → vf b < vf (l.getD j 0)) ∧ vf a ≤ vf (l.getD (l.length - 1) 0) ∧ vf (l.getD 0 0) ≤ vf b := by
 have h2 := h.two
 unfold outB at ho
 rw [Bool.or_eq_false_iff, gtb_num ha (h.num _ (by omega)), ltb_num hb (h.num _ (by omega)), decide_eq_false_iff_not, decide_eq_false_iff_not] at ho
 obtain ⟨o1, o2⟩ := ho
 obtain ⟨a1, a2, a3⟩ := lo_spec l h a ha _ 0 rfl (by omega) (fun j hj => by omega)
 obtain ⟨b1, b2, b3⟩ := hi_spec l h b hb (by omega) (l.length - 2) (by omega)
 refine ⟨?_, by omega, a2, a3, b2, fun j j1 j2 => b3 j j1 (by omega), by omega, by omega⟩
 apply Nat.le_of_not_lt
 intro hh
 have x := b3 (hiV l b (l.length - 2) + 1) (by omega) (by omega)
 have y := a2 (hiV l b (l.length - 2)) hh
 omega
/-- Is a lane touched? -/
def tchB (l : List Nat) (a b k : Nat) : Bool := (if k + 2 = l.length then leb a (l.getD (k + 1) 0) else ltb a (l.getD (k + 1) 0)) && geb b (l.getD k 0)
theorem tch_iff (l : List Nat) (h : Rise l) (a b : Nat) (ha : ¬ nan a) (hb : ¬ nan b) (hab : vf a ≤ vf b) (ho : outB l a b = false) (k : Nat) (hk : k + 2 ≤ l.length) :
  tchB l a b k = true ↔ loV l a 0 ≤ k ∧ k ≤ hiV l b (l.length - 2) := by
 obtain ⟨s1, s2, s3, s4, s5, s6, s7, s8⟩ := lanes_spec l h a b ha hb hab ho
 unfold tchB
 rw [Bool.and_eq_true, geb_num hb (h.num _ (by omega)), decide_eq_true_eq]
 constructor
 ·rintro ⟨t1, t2⟩
  constructor
  ·apply Nat.le_of_not_lt
   intro hh
   have x := s3 k hh
   rw [if_neg (by omega), ltb_num ha (h.num _ (by omega)), decide_eq_true_eq] at t1
   omega
  ·apply Nat.le_of_not_lt
   intro hh
   have x := s6 k hh hk
   omega
 ·rintro ⟨t1, t2⟩
  constructor
  ·by_cases e : k + 2 = l.length
   ·rw [if_pos e, leb_num ha (h.num _ (by omega)), decide_eq_true_eq]
    rw [show k + 1 = l.length - 1 by omega]
    exact s7
   ·rw [if_neg e, ltb_num ha (h.num _ (by omega)), decide_eq_true_eq]
    rcases s4 with s4 | s4
    ·omega
    ·have := h.le (loV l a 0 + 1) (k + 1) (by omega) (by omega)
     omega
  ·have := h.le k _ t2 (by omega)
   omega
theorem tch_out (l : List Nat) (h : Rise l) (a b : Nat) (ha : ¬ nan a) (hb : ¬ nan b) (ho : outB l a b = true) (k : Nat) (hk : k + 2 ≤ l.length) : tchB l a b k = false := by
 have h2 := h.two
 unfold outB at ho
 rw [Bool.or_eq_true, gtb_num ha (h.num _ (by omega)), ltb_num hb (h.num _ (by omega)), decide_eq_true_eq, decide_eq_true_eq] at ho
 rw [← Bool.not_eq_true]
 unfold tchB
 rw [Bool.and_eq_true, geb_num hb (h.num _ (by omega)), decide_eq_true_eq]
 rintro ⟨t1, t2⟩
 rcases ho with ho | ho
 ·have x := h.le (k + 1) (l.length - 1) (by omega) (by omega)
  by_cases e : k + 2 = l.length
  ·rw [if_pos e, leb_num ha (h.num _ (by omega)), decide_eq_true_eq] at t1
   omega
  ·rw [if_neg e, ltb_num ha (h.num _ (by omega)), decide_eq_true_eq] at t1
   omega
 ·have x := h.le 0 k (by omega) (by omega)
  omega
/-- All that are touched. -/
def tchs (l : List Nat) (a b : Nat) (k : Nat) : List Nat := (List.range k).filter (tchB l a b)
theorem tchs_out (l : List Nat) (h : Rise l) (a b : Nat) (ha : ¬ nan a) (hb : ¬ nan b) (ho : outB l a b = true) : tchs l a b (l.length - 1) = [] := by
 unfold tchs
 rw [List.filter_eq_nil_iff]
 intro k hk
 rw [List.mem_range] at hk
 rw [tch_out l h a b ha hb ho k (by omega)]
 simp
theorem tchs_in (l : List Nat) (h : Rise l) (a b : Nat) (ha : ¬ nan a) (hb : ¬ nan b) (hab : vf a ≤ vf b) (ho : outB l a b = false) :
  tchs l a b (l.length - 1) = List.range' (loV l a 0) (hiV l b (l.length - 2) - loV l a 0 + 1) := by
 obtain ⟨s1, s2, _⟩ := lanes_spec l h a b ha hb hab ho
 have hti := tch_iff l h a b ha hb hab ho
 generalize loV l a 0 = lo at *
 generalize hiV l b (l.length - 2) = hi at *
 unfold tchs
 have hs1 : ((List.range (l.length - 1)).filter (tchB l a b)).Pairwise (· < ·) := List.Pairwise.filter _ List.pairwise_lt_range
 have hs2 : (List.range' lo (hi - lo + 1)).Pairwise (· < ·) := List.pairwise_lt_range'
 refine List.Perm.eq_of_pairwise (le := (· < ·)) (fun x y _ _ h1 h2 => by omega) hs1 hs2 ?_
 refine (List.perm_ext_iff_of_nodup (hs1.imp (fun h => Nat.ne_of_lt h)) (hs2.imp (fun h => Nat.ne_of_lt h))).2 fun k => ?_
 rw [List.mem_filter, List.mem_range, List.mem_range'_1]
 constructor
 ·rintro ⟨h1, h2⟩
  have := (hti k (by omega)).1 h2
  omega
 ·rintro ⟨h1, h2⟩
  exact ⟨by omega, (hti k (by omega)).2 (by omega)⟩
/-- The reference's lane of a place. -/
def atV (l : List Nat) (x : Nat) : Nat → Nat
 | 0 => 0
 | k + 1 => if leb (l.getD k 0) x = true then k else atV l x k
end Go.Proofs.YtmecohdedghiaaaDoor
namespace Go.Proofs.YtmecohdedghiaaaDoor
open Go.RowKit
def tLo (l : List Nat) (a b : Nat) : Nat := if outB l a b = true then 0 else loV l a 0
def tHi (l : List Nat) (a b : Nat) : Nat := if outB l a b = true then 0 else hiV l b (l.length - 2)
def tEr (l : List Nat) (a b : Nat) : Int := if outB l a b = true then 71 else 0
set_option maxHeartbeats 4000000 in
theorem touched_any (b off cap n : Nat) (xs : List Nat) (hn : xs.length = n + 2) (hm : n ≤ 23) (w : World) (hb : b < w.heap.size) (hcell : ∀ i, i < xs.length → w.cell? ⟨b, off + i, none⟩ = some (.float .f64 (xs.getD i 0)))
  (p q : Nat) :
  Calls Tryd.prog 90 #[.slice (some ⟨b, off, none⟩) xs.length cap, .float .f64 p, .float .f64 q] w fun e w' => e = .returned (.tuple #[.agg #[.int .i64 (tLo xs p q), .int .i64 (tHi xs p q)], .int .i64 (tEr xs p q)]) ∧ Below w.heap.size w w' := by
 have olt : ∀ a b, (FloatKind.f64.format.order a b == some .lt) = ltb a b := fun _ _ => rfl
 have ogt : ∀ a b, (FloatKind.f64.format.order a b == some .gt) = gtb a b := fun _ _ => rfl
 have oge : ∀ a b, (gtb a b || FloatKind.f64.format.order a b == some .eq) = geb a b := fun _ _ => rfl
 have HC := Lib.hid hcell
 have c0 := hcell 0 (by omega)
 have c1 := hcell (n + 1) (by omega)
 rw [Nat.add_zero] at c0
 have HO := Lib.hid (show outB xs p q = (gtb p (xs.getD (n + 1) 0) || ltb q (xs.getD 0 0)) by unfold outB; rw [hn]; rfl)
 have HN := Lib.hid (hi_next xs q)
 have HE := Lib.hid (hi_end xs q)
 have HLN := Lib.hid (lo_next xs p)
 have HLE := Lib.hid (lo_end xs p)
 have HT2 := Lib.hid (show tHi xs p q = if outB xs p q = true then 0 else hiV xs q n by unfold tHi; rw [hn]; rfl)
 rw [hn] at *
 clear hn
 clear hcell
 rcases Bool.eq_false_or_eq_true (gtb p (xs.getD (n + 1) 0)) with g1 | g1
 ·have ho := HO.out
  rw [g1, Bool.true_or] at ho
  have T1 : tLo xs p q = 0 := by unfold tLo; rw [if_pos ho]
  have T2 : tHi xs p q = 0 := by unfold tHi; rw [if_pos ho]
  have T3 : tEr xs p q = 71 := by unfold tEr; rw [if_pos ho]
  rw [T1, T2, T3]
  clear ho T1 T2 T3
  generalize xs.getD (n + 1) 0 = f1 at *
  generalize xs.getD 0 0 = f0 at *
  go_enter Tryd.func90, Tryd.ntmps90
  go_wp2
  exact bodyPost_ret (v := .tuple #[.agg #[.int .i64 0, .int .i64 0], .int .i64 71]) (by simp [results, Tryd.results90, go_sem]) rfl ⟨rfl, Below.al (Below.refl _ _) _⟩
 ·rcases Bool.eq_false_or_eq_true (ltb q (xs.getD 0 0)) with g2 | g2
  ·have ho := HO.out
   rw [g1, g2, Bool.false_or] at ho
   have T1 : tLo xs p q = 0 := by unfold tLo; rw [if_pos ho]
   have T2 : tHi xs p q = 0 := by unfold tHi; rw [if_pos ho]
   have T3 : tEr xs p q = 71 := by unfold tEr; rw [if_pos ho]
   rw [T1, T2, T3]
   clear ho T1 T2 T3
   generalize xs.getD (n + 1) 0 = f1 at *
   generalize xs.getD 0 0 = f0 at *
   go_enter Tryd.func90, Tryd.ntmps90
   go_wp2
   exact bodyPost_ret (v := .tuple #[.agg #[.int .i64 0, .int .i64 0], .int .i64 71]) (by simp [results, Tryd.results90, go_sem]) rfl ⟨rfl, Below.al (Below.refl _ _) _⟩
  ·have ho := HO.out
   rw [g1, g2, Bool.false_or] at ho
   have T1 : tLo xs p q = loV xs p 0 := by unfold tLo; rw [if_neg (by rw [ho]; simp)]
   have T2 : tHi xs p q = hiV xs q n := by rw [HT2.out, if_neg (by rw [ho]; simp)]
   have T3 : tEr xs p q = 0 := by unfold tEr; rw [if_neg (by rw [ho]; simp)]
   rw [T1, T2, T3]
   have G2 := Lib.hid g2
   clear ho T1 T2 T3 HO
   generalize xs.getD (n + 1) 0 = f1 at c1 g1
   generalize xs.getD 0 0 = f0 at c0 g2
   go_enter Tryd.func90, Tryd.ntmps90
   go_wp2
   clear c0 c1 g1 g2
   go_loopg [46] n (fun gk _ wr => ∃ k : Nat, gk + k = n ∧ loV xs p k = loV xs p 0 ∧ Below w.heap.size w wr ∧
    wr.cell? ⟨w.heap.size, 0, none⟩ = some (.int .i64 0) ∧ wr.cell? ⟨w.heap.size, 1, none⟩ = some (.int .i64 0) ∧ wr.cell? ⟨w.heap.size + 1, 0, none⟩ = some (.int .i64 k) ∧ wr.cell? ⟨w.heap.size + 1, 1, none⟩ = some (.int .i64 n) ∧
    wr.frozen? ⟨w.heap.size, 0, none⟩ = false ∧ wr.frozen? ⟨w.heap.size, 1, none⟩ = false ∧ wr.frozen? ⟨w.heap.size + 1, 0, none⟩ = false ∧ wr.frozen? ⟨w.heap.size + 1, 1, none⟩ = false)
   case atStart =>
    refine ⟨0, rfl, rfl, ?_, by simp, by simp, by simp, by simp, by simp, by simp, by simp, by simp⟩
    (repeat (first | exact Below.refl _ _ | (with_reducible refine Below.st ?_ (by simp <;> omega)) | (with_reducible refine Below.al ?_ _)))
   case round =>
    obtain ⟨k, hk, hgo, hbl, r0, r1, s0, s1, z0, z1, z2, z3⟩ := hrel
    have HG := Lib.hid hgo
    have HB := Lib.hid hbl
    clear hgo
    obtain ⟨w1, hw1⟩ : ∃ w1, w1 = wr := ⟨_, rfl⟩
    subst hw1
    by_cases hkn : k < n
    ·have hcl := (hbl.cell (p := ⟨b, off + (k + 1), none⟩) hb).trans (HC.out (k + 1) (by omega))
     have HNX := Lib.hid (HLN.out k (by omega))
     have HEX := Lib.hid (fun h => HLE.out k (.inr h))
     clear hbl
     generalize xs.getD (k + 1) 0 = f at *
     rcases Bool.eq_false_or_eq_true (geb p f) with g | g
     ·have HR := Lib.hid (HNX.out g)
      go_wp2
      go_roundg (gk - 1)
      case measure => omega
      case rel =>
       refine ⟨k + 1, by omega, by rw [HR.out, HG.out], ?_, st_other r0 (by simp), st_other r1 (by simp), (st_same s0).trans (congrArg some (num_i (by omega))), st_other s1 (by simp), st_fz z0, st_fz z1, st_fz z2, st_fz z3⟩
       exact Below.st HB.out (by simp)
     ·have HR := Lib.hid (HEX.out g)
      go_wp2
      clear oge ogt
      go_loopg [58] n (fun gk _ wr => ∃ j : Nat, gk = j ∧ j ≤ n ∧ hiV xs q j = hiV xs q n ∧ Below w.heap.size w wr ∧
       wr.cell? ⟨w.heap.size, 0, none⟩ = some (.int .i64 0) ∧ wr.cell? ⟨w.heap.size, 1, none⟩ = some (.int .i64 0) ∧ wr.cell? ⟨w.heap.size + 1, 0, none⟩ = some (.int .i64 k) ∧ wr.cell? ⟨w.heap.size + 1, 1, none⟩ = some (.int .i64 j) ∧
       wr.frozen? ⟨w.heap.size, 0, none⟩ = false ∧ wr.frozen? ⟨w.heap.size, 1, none⟩ = false ∧ wr.frozen? ⟨w.heap.size + 1, 0, none⟩ = false ∧ wr.frozen? ⟨w.heap.size + 1, 1, none⟩ = false)
      case atStart => exact ⟨n, rfl, Nat.le_refl _, rfl, HB.out, r0, r1, s0, s1, z0, z1, z2, z3⟩
      case round =>
       clear r0 r1 s0 s1 z0 z1 z2 z3
       obtain ⟨j, rfl, hj, hgo2, hbl, r0, r1, s0, s1, z0, z1, z2, z3⟩ := hrel
       have HG2 := Lib.hid hgo2
       have hcl := (hbl.cell (p := ⟨b, off + gk, none⟩) hb).trans (HC.out gk (by omega))
       have HB2 := Lib.hid hbl
       have HNX2 := Lib.hid (fun h => HN.out gk h G2.out)
       have HEX2 := Lib.hid (HE.out gk)
       clear hbl hgo2
       generalize xs.getD gk 0 = f2 at *
       rcases Bool.eq_false_or_eq_true (ltb q f2) with g2 | g2
       ·obtain ⟨hp, hh⟩ := HNX2.out g2
        have HR2 := Lib.hid hh
        clear hh
        go_wp2
        go_roundg (gk - 1)
        case measure => omega
        case rel =>
         refine ⟨gk - 1, rfl, by omega, by rw [HR2.out, HG2.out], ?_, st_other r0 (by simp), st_other r1 (by simp), st_other s0 (by simp), (st_same s1).trans (congrArg some (num_i (by omega))), st_fz z0, st_fz z1, st_fz z2, st_fz z3⟩
         exact Below.st HB2.out (by simp)
       ·have HR2 := Lib.hid (HEX2.out g2)
        go_wp2
        have e1 : loV xs p 0 = k := by rw [← HG.out, HR.out]
        have e2 : hiV xs q n = gk := by rw [← HG2.out, HR2.out]
        rw [e1, e2]
        have q0 : ((wr.setCell ⟨w.heap.size, 0, none⟩ (.int .i64 k)).setCell ⟨w.heap.size, 1, none⟩ (.int .i64 gk)).cell? ⟨w.heap.size, 0, none⟩ = some (.int .i64 k) := st_other (st_same r0) (by simp)
        have q1 : ((wr.setCell ⟨w.heap.size, 0, none⟩ (.int .i64 k)).setCell ⟨w.heap.size, 1, none⟩ (.int .i64 gk)).cell? ⟨w.heap.size, 1, none⟩ = some (.int .i64 gk) := st_same (st_other r1 (by simp))
        exact bodyPost_ret (v := .tuple #[.agg #[.int .i64 k, .int .i64 gk], .int .i64 0]) (by simp [results, Tryd.results90, go_sem, q0, q1]) rfl ⟨rfl, Below.st (Below.st HB2.out (by simp)) (by simp)⟩
    ·obtain rfl : k = n := by omega
     clear hbl
     have HR := Lib.hid (HLE.out k (.inl (by omega)))
     go_wp2
     clear oge ogt
     go_loopg [58] k (fun gk _ wr => ∃ j : Nat, gk = j ∧ j ≤ k ∧ hiV xs q j = hiV xs q k ∧ Below w.heap.size w wr ∧
      wr.cell? ⟨w.heap.size, 0, none⟩ = some (.int .i64 0) ∧ wr.cell? ⟨w.heap.size, 1, none⟩ = some (.int .i64 0) ∧ wr.cell? ⟨w.heap.size + 1, 0, none⟩ = some (.int .i64 k) ∧ wr.cell? ⟨w.heap.size + 1, 1, none⟩ = some (.int .i64 j) ∧
      wr.frozen? ⟨w.heap.size, 0, none⟩ = false ∧ wr.frozen? ⟨w.heap.size, 1, none⟩ = false ∧ wr.frozen? ⟨w.heap.size + 1, 0, none⟩ = false ∧ wr.frozen? ⟨w.heap.size + 1, 1, none⟩ = false)
     case atStart => exact ⟨k, rfl, Nat.le_refl _, rfl, HB.out, r0, r1, s0, s1, z0, z1, z2, z3⟩
     case round =>
      clear r0 r1 s0 s1 z0 z1 z2 z3
      obtain ⟨j, rfl, hj, hgo2, hbl, r0, r1, s0, s1, z0, z1, z2, z3⟩ := hrel
      have HG2 := Lib.hid hgo2
      have hcl := (hbl.cell (p := ⟨b, off + gk, none⟩) hb).trans (HC.out gk (by omega))
      have HB2 := Lib.hid hbl
      have HNX2 := Lib.hid (fun h => HN.out gk h G2.out)
      have HEX2 := Lib.hid (HE.out gk)
      clear hbl hgo2
      generalize xs.getD gk 0 = f2 at *
      rcases Bool.eq_false_or_eq_true (ltb q f2) with g2 | g2
      ·obtain ⟨hp, hh⟩ := HNX2.out g2
       have HR2 := Lib.hid hh
       clear hh
       go_wp2
       go_roundg (gk - 1)
       case measure => omega
       case rel =>
        refine ⟨gk - 1, rfl, by omega, by rw [HR2.out, HG2.out], ?_, st_other r0 (by simp), st_other r1 (by simp), st_other s0 (by simp), (st_same s1).trans (congrArg some (num_i (by omega))), st_fz z0, st_fz z1, st_fz z2, st_fz z3⟩
        exact Below.st HB2.out (by simp)
      ·have HR2 := Lib.hid (HEX2.out g2)
       go_wp2
       have e1 : loV xs p 0 = k := by rw [← HG.out, HR.out]
       have e2 : hiV xs q k = gk := by rw [← HG2.out, HR2.out]
       rw [e1, e2]
       have q0 : ((wr.setCell ⟨w.heap.size, 0, none⟩ (.int .i64 k)).setCell ⟨w.heap.size, 1, none⟩ (.int .i64 gk)).cell? ⟨w.heap.size, 0, none⟩ = some (.int .i64 k) := st_other (st_same r0) (by simp)
       have q1 : ((wr.setCell ⟨w.heap.size, 0, none⟩ (.int .i64 k)).setCell ⟨w.heap.size, 1, none⟩ (.int .i64 gk)).cell? ⟨w.heap.size, 1, none⟩ = some (.int .i64 gk) := st_same (st_other r1 (by simp))
       exact bodyPost_ret (v := .tuple #[.agg #[.int .i64 k, .int .i64 gk], .int .i64 0]) (by simp [results, Tryd.results90, go_sem, q0, q1]) rfl ⟨rfl, Below.st (Below.st HB2.out (by simp)) (by simp)⟩
end Go.Proofs.YtmecohdedghiaaaDoor
namespace Go.Proofs.YtmecohdedghiaaaDoor
open Go.RowKit
def laneV (l : List Nat) (x : Nat) : Int := if chkE l = 0 then (if nanb x = true then 0 else if outB l x x = true then 0 else (loV l x 0 : Int)) else 0
def laneE (l : List Nat) (x : Nat) : Int := if chkE l = 0 then (if nanb x = true then 20 else if outB l x x = true then 71 else 0) else chkE l
/-- Right borders as cells. -/
theorem rise_cells {w : World} {B : Nat} {v : Value} {xs : List Nat} (h : KF.IsL w B v xs) (hz : chkE xs = 0) : Rise xs ∧ ∃ b off cap n, v = .slice (some ⟨b, off, none⟩) xs.length cap ∧ xs.length = n + 2 ∧ n ≤ 23 ∧ b < B ∧
  (∀ i, i < xs.length → w.cell? ⟨b, off + i, none⟩ = some (.float .f64 (xs.getD i 0))) ∧ (∀ i, i < xs.length → xs.getD i 0 < 18446744073709551616) := by
 have hr := rise_of xs hz
 have h2 := hr.two
 have h3 := hr.most
 obtain ⟨b, off, cap, rfl, hc, hb, hl, hcell, hlt⟩ := KF.cells h (by omega)
 exact ⟨hr, b, off, cap, xs.length - 2, rfl, by omega, by omega, hb, hcell, hlt⟩
theorem nanb_of {x : Nat} (h : nanb x = false) : ¬ nan x := by unfold nanb at h; simpa using h
end Go.Proofs.YtmecohdedghiaaaDoor
namespace Go.Proofs.YtmecohdedghiaaaDoor
open Go.RowKit
def widV (l : List Nat) (k : Int) : Nat := if chkE l = 0 ∧ 0 ≤ k ∧ k + 1 < l.length then (Ieee.double.sub (l.getD (k.toNat + 1) 0) (l.getD k.toNat 0)).getD 0 else 0
set_option maxHeartbeats 2000000 in
theorem touches_any (b off cap n : Nat) (xs : List Nat) (hn : xs.length = n + 2) (hm : n ≤ 23) (w : World) (hcell : ∀ i, i < xs.length → w.cell? ⟨b, off + i, none⟩ = some (.float .f64 (xs.getD i 0))) (k : Nat) (hk : k ≤ n) (p q : Nat) :
  Calls Tryd.prog 92 #[.slice (some ⟨b, off, none⟩) xs.length cap, .int .i64 k, .float .f64 p, .float .f64 q] w fun e w' => e = .returned (.bool (tchB xs p q k)) ∧ w = w' := by
 have olt : ∀ a b, (FloatKind.f64.format.order a b == some .lt) = ltb a b := fun _ _ => rfl
 have ogt : ∀ a b, (FloatKind.f64.format.order a b == some .gt) = gtb a b := fun _ _ => rfl
 have oge : ∀ a b, (gtb a b || FloatKind.f64.format.order a b == some .eq) = geb a b := fun _ _ => rfl
 have ole : ∀ a b, (ltb a b || FloatKind.f64.format.order a b == some .eq) = leb a b := fun _ _ => rfl
 have c0 := hcell k (by omega)
 have c1 := hcell (k + 1) (by omega)
 have HT := Lib.hid (show tchB xs p q k = ((if k + 2 = xs.length then leb p (xs.getD (k + 1) 0) else ltb p (xs.getD (k + 1) 0)) && geb q (xs.getD k 0)) from rfl)
 clear hcell
 by_cases he : k = n
 ·subst he
  rw [HT.out, if_pos hn.symm]
  clear HT
  rw [hn]
  clear hn
  generalize xs.getD (k + 1) 0 = f1 at *
  generalize xs.getD k 0 = f0 at *
  rcases Bool.eq_false_or_eq_true (leb p f1) with g | g
  all_goals
   rw [g]
   go_enter Tryd.func92, Tryd.ntmps92
   go_wp2
   go_ret
   exact ⟨ret_b (by simp), rfl⟩
 ·rw [HT.out, if_neg (by omega)]
  clear HT
  rw [hn]
  clear hn
  generalize xs.getD (k + 1) 0 = f1 at *
  generalize xs.getD k 0 = f0 at *
  rcases Bool.eq_false_or_eq_true (ltb p f1) with g | g
  all_goals
   rw [g]
   go_enter Tryd.func92, Tryd.ntmps92
   go_wp2
   go_ret
   exact ⟨ret_b (by simp), rfl⟩
end Go.Proofs.YtmecohdedghiaaaDoor

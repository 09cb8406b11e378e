/- What all proofs of this seat's statements share: the set-up, and how a list that came in is opened. -/
import Derived.Laws.BitsAllLaws
import Derived.Laws.Bits64
import Derived.IntWalk
import Derived.RowKit
import Derived.Test.YtacjonncakhhmaaChecked
import Derived.WalkKit
import Derived.WalkLawsBesides
import Derived.WalkSpells
import Derived.Outline
import Derived.KernelRfl
import Derived.Lib.Hide
import Derived.Maps.AppendAt
import Derived.Laws.OwnMore
import Derived.Laws.Cover2
import Derived.Laws.FloatArith
import Derived.Deep.AppendLies
import Derived.Deep.Onto
import Derived.OwnWalk
import Derived.LoopTactic
import Derived.Deep.QuietTactic
import Derived.BigQuiet
import Derived.Deep.RegionHeld3
import Derived.Deep.LoopGhost
import Derived.Test.YtacjonncakhhmaaRows
import Derived.ProofKit
import Derived.OpenShut
import Derived.ShutString
import Derived.ChangeMaps5
import Derived.Deep.Slices
import Derived.Lib.SmallJoins
import Derived.Carry
import Derived.ChangeSlices
namespace Go.Proofs.Ytacjonncakhhmaa
theorem ret_i {a b : Int} (h : a = b) : Ending.returned (.int .i64 a) = .returned (.int .i64 b) := by rw [h]
theorem ret_b {a b : Bool} (h : a = b) : Ending.returned (.bool a) = .returned (.bool b) := by rw [h]
theorem ret_ii {a b c d : Int} (h : a = c) (k : b = d) : Ending.returned (.tuple #[.int .i64 a, .int .i64 b]) = .returned (.tuple #[.int .i64 c, .int .i64 d]) := by rw [h, k]
theorem num_i {a b : Int} (h : a = b) : Value.int .i64 a = .int .i64 b := by rw [h]
/-- Goes a whole number into 64 bits with a sign? -/
def fits (x : Int) : Prop := -9223372036854775808 ≤ x ∧ x ≤ 9223372036854775807
instance (x : Int) : Decidable (fits x) := inferInstanceAs (Decidable (_ ∧ _))
/-- What is answered for it, and with which error. -/
def fitV (x : Int) : Int := if fits x then x else 0
def fitE (x : Int) : Int := if fits x then 0 else 4
theorem wrap_toNat (v : BitVec 64) : IntKind.i64.wrap (v.toNat : Int) = v.toInt := by
 rw [IntKind.wrap_i64, BitVec.toInt_eq_toNat_cond]
 have := v.isLt
 split <;> omega
theorem ofInt_neg (x : Int) (h : fits x) : (BitVec.ofInt 64 x).msb = decide (x < 0) := by
 obtain ⟨h0, h1⟩ := h
 have e : (BitVec.ofInt 64 x).toInt = x := by
  rw [BitVec.toInt_ofInt]
  exact Int.bmod_eq_of_le (by omega) (by omega)
 rw [BitVec.msb_eq_toInt, e]
theorem and_neg (x y : Int) (hx : fits x) (hy : fits y) : (bits .and .i64 x y < 0) ↔ (x < 0 ∧ y < 0) := by
 show IntKind.i64.wrap ((BitVec.ofInt 64 x &&& BitVec.ofInt 64 y).toNat : Int) < 0 ↔ _
 rw [wrap_toNat]
 have e := BitVec.msb_eq_toInt (x := BitVec.ofInt 64 x &&& BitVec.ofInt 64 y)
 rw [BitVec.msb_and, ofInt_neg x hx, ofInt_neg y hy] at e
 by_cases h : (BitVec.ofInt 64 x &&& BitVec.ofInt 64 y).toInt < 0
 ·rw [decide_eq_true h, Bool.and_eq_true, decide_eq_true_eq, decide_eq_true_eq] at e
  exact ⟨fun _ => e, fun _ => h⟩
 ·rw [decide_eq_false h] at e
  refine ⟨fun k => absurd k h, fun k => ?_⟩
  rw [decide_eq_true k.1, decide_eq_true k.2] at e
  cases e
theorem xor_neg (x y : Int) (hx : fits x) (hy : fits y) : (bits .xor .i64 x y < 0) ↔ ¬ (x < 0 ↔ y < 0) := by
 show IntKind.i64.wrap ((BitVec.ofInt 64 x ^^^ BitVec.ofInt 64 y).toNat : Int) < 0 ↔ _
 rw [wrap_toNat]
 have e := BitVec.msb_eq_toInt (x := BitVec.ofInt 64 x ^^^ BitVec.ofInt 64 y)
 rw [BitVec.msb_xor, ofInt_neg x hx, ofInt_neg y hy] at e
 generalize (BitVec.ofInt 64 x ^^^ BitVec.ofInt 64 y).toInt = t at *
 by_cases hx0 : x < 0 <;> by_cases hy0 : y < 0 <;> by_cases h : t < 0 <;> simp [hx0, hy0, h] at e ⊢ <;> omega
theorem xor_fits (x y : Int) : fits (bits .xor .i64 x y) := by
 show fits (IntKind.i64.wrap ((BitVec.ofInt 64 x ^^^ BitVec.ofInt 64 y).toNat : Int))
 rw [IntKind.wrap_i64]
 constructor <;> omega
/-- Have the signs gone astray in a sum? -/
theorem add_signs (a b : Int) (ha : fits a) (hb : fits b) : (bits .and .i64 (bits .xor .i64 a (IntKind.i64.wrap (a + b))) (bits .xor .i64 b (IntKind.i64.wrap (a + b))) < 0) ↔ ¬ fits (a + b) := by
 have hs : fits (IntKind.i64.wrap (a + b)) := by rw [IntKind.wrap_i64]; constructor <;> omega
 rw [and_neg _ _ (xor_fits _ _) (xor_fits _ _), xor_neg a _ ha hs, xor_neg b _ hb hs, IntKind.wrap_i64]
 unfold fits at *
 omega
theorem wrap_fits (x : Int) (h : fits x) : IntKind.i64.wrap x = x := by
 obtain ⟨h0, h1⟩ := h
 rw [IntKind.wrap_i64]
 omega
theorem w64 (x : Int) : IntKind.i64.wrap x = Go.RowKit.wrap64 x := by rw [IntKind.wrap_i64, Go.RowKit.wrap64]
theorem wrap64_fits (x : Int) (h : fits x) : Go.RowKit.wrap64 x = x := by rw [← w64, wrap_fits x h]
end Go.Proofs.Ytacjonncakhhmaa
namespace Go.Proofs.Ytacjonncakhhmaa
open Go.RowKit
theorem below_drewN {B : Nat} {a w : World} (h : Below B a w) (d : Nat) : Below B a (w.drewN d) := ⟨h.os, h.tape, h.output, h.size, h.block⟩
/-- Behind a call that makes memory all that was there is as it was. -/
theorem bcell {W w1 : World} (hb : Below W.heap.size W w1) : (∀ b o, b < W.heap.size → w1.cell? ⟨b, o, none⟩ = W.cell? ⟨b, o, none⟩) ∧ (∀ b o, b < W.heap.size → w1.frozen? ⟨b, o, none⟩ = W.frozen? ⟨b, o, none⟩) :=
 ⟨fun b o h => hb.cell (p := ⟨b, o, none⟩) h, fun b o h => hb.frozen (p := ⟨b, o, none⟩) h⟩
theorem Below.al {w w' : World} (h : Below w.heap.size w w') (o : Obj) : Below w.heap.size w (w'.alloc o) := h.alloc h.size o
theorem Below.call {w w' w'' : World} (h : Below w.heap.size w w') (k : Below w'.heap.size w' w'') : Below w.heap.size w w'' := h.trans (k.mono h.size)
theorem Below.st {w w' : World} {p : Addr} {v : Value} (h : Below w.heap.size w w') (hp : w.heap.size ≤ p.block) : Below w.heap.size w (w'.setCell p v) := h.setCell hp v
theorem keep_cell {w w1 : World} {a : Addr} {v : Value} (hb : Below w.heap.size w w1) (h : w.cell? a = some v) : w1.cell? a = some v := (hb.cell (World.block_lt_of_cell? w a h)).trans h
theorem take_snoc {α : Type} (l : List α) (k : Nat) (d : α) (h : k < l.length) : l.take (k + 1) = l.take k ++ [l.getD k d] := by
 rw [List.take_succ_eq_append_getElem h, List.getD_eq_getElem?_getD, List.getElem?_eq_getElem h]
 rfl
theorem getD_mem' {α : Type} (l : List α) (k : Nat) (d : α) (h : k < l.length) : l.getD k d ∈ l := by
 rw [List.getD_eq_getElem?_getD, List.getElem?_eq_getElem h]
 exact List.getElem_mem h
theorem drop_snoc {α : Type} (l : List α) (k : Nat) (d : α) (h : k < l.length) : l.drop k = l.getD k d :: l.drop (k + 1) := by
 rw [List.drop_eq_getElem_cons h, List.getD_eq_getElem?_getD, List.getElem?_eq_getElem h]
 rfl
theorem st_same {w : World} {a : Addr} {u v : Value} (h : w.cell? a = some u) : (w.setCell a v).cell? a = some v := by apply World.cell?_setCell_same; exact h
theorem st_other {w : World} {a b : Addr} {u v : Value} (h : w.cell? b = some u) (hne : a ≠ b) : (w.setCell a v).cell? b = some u := by rw [World.cell?_setCell_other (h := hne)]; exact h
theorem st_fz {w : World} {a b : Addr} {v : Value} (h : w.frozen? b = false) : (w.setCell a v).frozen? b = false := by rw [World.frozen?_setCell]; exact h
end Go.Proofs.Ytacjonncakhhmaa
namespace Go.Proofs.Ytacjonncakhhmaa
open Go.RowKit
/-- A kind of list: the slice's type, its element's, how many cells an element has, which ones. -/
structure Lk (P : Program) (α : Type) where
 S : TypeId
 E : TypeId
 n : Nat
 zero : Value
 bytes : Nat
 cells : α → List Value
 dflt : α
 ok : α → Prop
 und : P.underlying S = some (.slice E)
 info : (P.info? E).map (fun i => (i.zero, i.size, i.bytes)) = some (some zero, n, bytes)
 zs : zero.cells.size = n
 pos : 0 < n
 small : bytes ≤ 100000
 len : ∀ x, (cells x).length = n
 one : ∀ x, ∀ u ∈ cells x, u.oneCell' = true
namespace Lk
variable {P : Program} {α : Type} (K : Lk P α)
def flat (xs : List α) : List Value := xs.flatMap K.cells
theorem flat_len (xs : List α) : (K.flat xs).length = xs.length * K.n := by
 induction xs with
 | nil => simp [flat]
 | cons x r ih =>
  show (K.cells x ++ K.flat r).length = _
  rw [List.length_append, ih, K.len, List.length_cons, Nat.succ_mul, Nat.add_comm]
theorem flat_append (xs ys : List α) : K.flat (xs ++ ys) = K.flat xs ++ K.flat ys := List.flatMap_append
theorem flat_at (xs : List α) (i j : Nat) (h : i < xs.length) (hj : j < K.n) : (K.flat xs)[i * K.n + j]? = (K.cells (xs.getD i K.dflt))[j]? := by
 induction xs generalizing i with
 | nil => simp at h
 | cons x r ih =>
  show (K.cells x ++ K.flat r)[i * K.n + j]? = _
  cases i with
  | zero => rw [Nat.zero_mul, Nat.zero_add, List.getElem?_append_left (by rw [K.len]; exact hj)]; rfl
  | succ k =>
   rw [List.getElem?_append_right (by rw [K.len, Nat.succ_mul]; omega), K.len]
   rw [show (k + 1) * K.n + j - K.n = k * K.n + j by rw [Nat.succ_mul]; omega]
   exact ih k (by simpa using h)
theorem flat_one (xs : List α) : ∀ u ∈ K.flat xs, u.oneCell' = true := by
 intro u hu
 obtain ⟨x, _, hx⟩ := List.mem_flatMap.1 hu
 exact K.one x u hx
/-- A slice value whose elements are a list, in memory below a block. -/
def IsL (w : World) (B : Nat) (v : Value) (xs : List α) : Prop :=
 (∃ A cap, v = .slice A xs.length cap ∧ xs.length ≤ cap ∧ (0 < xs.length → ∃ b off, A = some ⟨b, off, none⟩ ∧ b < B ∧
   ∀ i, i < xs.length → ∀ j u, (K.cells (xs.getD i K.dflt))[j]? = some u → w.cell? ⟨b, off + (i * K.n + j), none⟩ = some u)) ∧
  (∀ x ∈ xs, K.ok x) ∧ xs.length ≤ 9223372036854775807
variable {K}
theorem IsL.below {w w' : World} {B : Nat} {v : Value} {xs : List α} (h : K.IsL w B v xs) (hb : Below B w w') : K.IsL w' B v xs := by
 obtain ⟨⟨A, cap, rfl, hc, hA⟩, hf, hl⟩ := h
 refine ⟨⟨A, cap, rfl, hc, fun h0 => ?_⟩, hf, hl⟩
 obtain ⟨b, off, rfl, hbB, hcell⟩ := hA h0
 exact ⟨b, off, rfl, hbB, fun i hi j u hu => (hb.cell (p := ⟨b, off + (i * K.n + j), none⟩) hbB).trans (hcell i hi j u hu)⟩
theorem IsL.more {w : World} {B B' : Nat} {v : Value} {xs : List α} (h : K.IsL w B v xs) (hB : B ≤ B') : K.IsL w B' v xs := by
 obtain ⟨⟨A, cap, rfl, hc, hA⟩, hf, hl⟩ := h
 refine ⟨⟨A, cap, rfl, hc, fun h0 => ?_⟩, hf, hl⟩
 obtain ⟨b, off, rfl, hbB, hcell⟩ := hA h0
 exact ⟨b, off, rfl, by omega, hcell⟩
theorem IsL.drewN {w : World} {B : Nat} {v : Value} {xs : List α} (h : K.IsL w B v xs) (d : Nat) : K.IsL (w.drewN d) B v xs := h
theorem IsL.nil (w : World) (B : Nat) (A : Option Addr) (cap : Nat) : K.IsL w B (.slice A 0 cap) [] :=
 ⟨⟨A, cap, rfl, Nat.zero_le _, fun h => absurd h (by simp)⟩, fun x hx => by simp at hx, by simp⟩
theorem IsL.then {w w' : World} {v : Value} {xs : List α} (h : K.IsL w w.heap.size v xs) (hb : Below w.heap.size w w') : K.IsL w' w'.heap.size v xs := (h.below hb).more hb.size
variable (K)
/-- A slice of the call's own that holds a list. -/
def Own (w : World) (base : Nat) (v : Value) (xs : List α) : Prop := w.ownsRow base K.E K.n v xs.length (K.flat xs) ∧ ∀ x ∈ xs, K.ok x
variable {K}
theorem Own.isL {w : World} {base : Nat} {v : Value} {xs : List α} (h : K.Own w base v xs) (hl : xs.length ≤ 9223372036854775807) : K.IsL w w.heap.size v xs := by
 obtain ⟨h, hf⟩ := h
 rcases h.2 with ⟨rfl, h0⟩ | ⟨g, cap, cur, rfl, hb, hg, hnc, _⟩
 ·obtain rfl : xs = [] := List.eq_nil_of_length_eq_zero h0
  exact IsL.nil _ _ _ _
 ·refine ⟨⟨_, cap, rfl, hnc, fun h0 => ⟨g, 0, rfl, (Array.getElem?_eq_some_iff.1 hg).1, fun i hi j u hu => ?_⟩⟩, hf, hl⟩
  have hj : j < K.n := by
   have := (List.getElem?_eq_some_iff.1 hu).1
   rw [K.len] at this
   exact this
  have hij : i * K.n + j < xs.length * K.n := by
   have : (i + 1) * K.n ≤ xs.length * K.n := Nat.mul_le_mul_right _ hi
   rw [Nat.succ_mul] at this
   omega
  rw [Nat.zero_add, h.cellAt (i * K.n + j) hij, K.flat_at xs i j hi hj, hu]
theorem Own.nil (w : World) (base : Nat) : K.Own w base (.slice none 0 0) [] := ⟨World.ownsRow_nil _ _ _ _, fun x hx => by simp at hx⟩
theorem Own.alloc {w : World} {base : Nat} {v : Value} {xs : List α} (h : K.Own w base v xs) (o : Obj) : K.Own (w.alloc o) base v xs := ⟨h.1.alloc o, h.2⟩
theorem Own.drewN {w : World} {base : Nat} {v : Value} {xs : List α} (h : K.Own w base v xs) (d : Nat) : K.Own (w.drewN d) base v xs := h
theorem Own.drew {w : World} {base : Nat} {v : Value} {xs : List α} (h : K.Own w base v xs) : K.Own w.drew base v xs := h
theorem Own.mono {w : World} {base base' : Nat} {v : Value} {xs : List α} (h : K.Own w base v xs) (hb : base' ≤ base) : K.Own w base' v xs := ⟨h.1.mono hb, h.2⟩
theorem Own.kept {w w' : World} {row : Option Nat} {base : Nat} {v : Value} {xs : List α} (h : K.Own w base v xs) (hg : w.grownBy w' row) (hne : v.ownBlock = none ∨ v.ownBlock ≠ row) : K.Own w' base v xs := ⟨h.1.kept hg hne, h.2⟩
theorem Own.lt {w : World} {base : Nat} {v : Value} {xs : List α} (h : K.Own w base v xs) : ∀ k, v.ownBlock = some k → base ≤ k ∧ k < w.heap.size := h.1.lt
theorem Own.below {w w' : World} {base : Nat} {v : Value} {xs : List α} (h : K.Own w base v xs) (hb : Below w.heap.size w w') : K.Own w' base v xs := by
 obtain ⟨⟨h1, h2⟩, hf⟩ := h
 refine ⟨⟨h1, ?_⟩, hf⟩
 rcases h2 with hn | ⟨g, cap, cur, rfl, hb2, hg, rest⟩
 ·exact .inl hn
 ·exact .inr ⟨g, cap, cur, rfl, hb2, (hb.block g (Array.getElem?_eq_some_iff.1 hg).1).trans hg, rest⟩
/-- A new slice with room. -/
theorem Own.made (w : World) (base cap : Nat) (cur : Array Value) (hb : base ≤ w.heap.size) (hm : cap ≤ maxLen) (hs : cur.size = cap * K.n) : K.Own (w.alloc (.cells cur K.E)) base (.slice (some ⟨w.heap.size, 0, none⟩) 0 cap) [] :=
 ⟨World.ownsRow_made w cur cap hb hm hs, fun x hx => by simp at hx⟩
/-- One element, laid as a slice. -/
theorem Own.lit (w : World) (base : Nat) (x : α) (cs : Array Value) (hx : K.ok x) (hcs : cs = (K.cells x).toArray) (hb : base ≤ w.heap.size) : K.Own (w.alloc (.cells cs K.E)) base (.slice (some ⟨w.heap.size, 0, none⟩) 1 1) [x] := by
 subst hcs
 refine ⟨?_, fun z hz => ?_⟩
 ·have q := World.ownsRow_lit (base := base) (e := K.E) (size := K.n) w (K.cells x).toArray 1 hb (by unfold maxLen; omega) (by simp [K.len])
  simpa [flat] using q
 ·rw [List.mem_singleton] at hz
  subst hz
  exact hx
theorem IsL.lit (w : World) (x : α) (cs : Array Value) (hx : K.ok x) (hcs : cs = (K.cells x).toArray) (H : Nat) (e : w.heap.size = H) : K.IsL (w.alloc (.cells cs K.E)) (H + 1) (.slice (some ⟨H, 0, none⟩) 1 1) [x] := by
 subst e
 have h := (Own.lit w w.heap.size x cs hx hcs (Nat.le_refl _)).isL (by simp)
 simpa using h
theorem run_append_nothing (w : World) (base : Nat) (ty : TypeId) (v : Value) (xs : List α) (h : K.Own w base v xs) (c : Nat) : (Builtin.append_ #[K.S, K.S] ty #[v, .slice none 0 c]).run P w = .ok v w := by
 obtain ⟨i0, hi, hz0, hz1, hz2⟩ := info_parts K.info
 rcases h.1.2 with ⟨rfl, _⟩ | ⟨g, cap, cur, rfl, _, _, hnc, _⟩
 ·simp [Builtin.append_, run_underlying K.und, sizeOf, typeInfo, hi, Builtin.lenOf, Builtin.firstCells]
 ·simp [Builtin.append_, run_underlying K.und, sizeOf, typeInfo, hi, Builtin.lenOf, Builtin.firstCells, hnc, storeCells]
theorem run_app (w : World) (base B : Nat) (ty : TypeId) (v src : Value) (xs ys : List α) (h : K.Own w base v xs) (hs : K.IsL w B src ys) (hl : xs.length + ys.length ≤ 1000000) (hb : base ≤ w.heap.size) :
  ∃ v' w', (Builtin.append_ #[K.S, K.S] ty #[v, src]).run P w = .ok v' w' ∧ K.Own w' base v' (xs ++ ys) ∧ w.grownBy w' v.ownBlock ∧ (v'.ownBlock = v.ownBlock ∨ v'.ownBlock = some w.heap.size) := by
 obtain ⟨i0, hi, hz0, hz1, hz2⟩ := info_parts K.info
 obtain ⟨⟨A, cap, rfl, hc, hA⟩, hf, hll⟩ := hs
 have hfa : ∀ x ∈ xs ++ ys, K.ok x := fun x hx => by
  rcases List.mem_append.1 hx with hx | hx
  ·exact h.2 x hx
  ·exact hf x hx
 have hby : (xs.length + ys.length) * K.bytes ≤ 140737488355328 := by
  have := Nat.mul_le_mul hl K.small
  omega
 by_cases h0 : ys = []
 ·subst h0
  match A with
  | none => exact ⟨v, w, run_append_nothing w base ty v xs h cap, by simpa using h, World.grownBy.refl w _, .inl rfl⟩
  | some ad =>
   obtain ⟨v', w', hrun, h2, h3, _, h5⟩ := run_append_own_at (P := P) w base K.S ty K.E i0 K.zero K.n K.bytes K.und hi hz0 hz1 hz2 K.zs K.pos v xs.length (K.flat xs) h.1 ad 0 cap [] (by simp)
    (fun j u hu => by simp at hu) (fun u hu => by simp at hu) (by unfold maxLen; simp at hl; omega) (by simpa using hby) hb
   exact ⟨v', w', hrun, ⟨by simpa using h2, hfa⟩, h3, h5⟩
 ·have hpos : 0 < ys.length := by
   rcases Nat.eq_zero_or_pos ys.length with h | h
   ·exact absurd (List.eq_nil_of_length_eq_zero h) h0
   ·exact h
  obtain ⟨b, off, rfl, hbB, hcell⟩ := hA hpos
  obtain ⟨v', w', hrun, h2, h3, _, h5⟩ := run_append_own_at (P := P) w base K.S ty K.E i0 K.zero K.n K.bytes K.und hi hz0 hz1 hz2 K.zs K.pos v xs.length (K.flat xs) h.1 ⟨b, off, none⟩ ys.length cap (K.flat ys) (K.flat_len ys)
   (fun j u hu => by
    have hj : j < ys.length * K.n := by
     have := (List.getElem?_eq_some_iff.1 hu).1
     rw [K.flat_len] at this
     exact this
    have hn := K.pos
    have e := Nat.div_add_mod j K.n
    have hm := Nat.mod_lt j hn
    have hi2 : j / K.n < ys.length := (Nat.div_lt_iff_lt_mul hn).2 hj
    rw [Nat.mul_comm] at e
    rw [← e, K.flat_at ys _ _ hi2 hm] at hu
    have q := hcell (j / K.n) hi2 (j % K.n) u hu
    rw [e] at q
    rw [Go.WideShapes.add_plain]
    exact q) (K.flat_one ys) (by unfold maxLen; omega) hby hb
  exact ⟨v', w', hrun, ⟨by rw [List.length_append, K.flat_append]; exact h2, hfa⟩, h3, h5⟩
theorem wp_app {o : Oper} {a : Act} {R : Act → World → Prop} {Q : Exit → Act → World → Prop} (w : World) (s x : Operand) {T : TypeId} (hT : T = K.S)
  (ho : o.op = .call { callee := .builtin .append, args := #[s, x], argTypes := #[T, T] }) (base B : Nat) (v src : Value) (xs ys : List α) (hs : a.eval s = v) (hx : a.eval x = src)
  (h : K.Own w base v xs) (hy : K.IsL w B src ys) (hl : xs.length + ys.length ≤ 1000000) (hb : base ≤ w.heap.size)
  (hk : ∀ v' w', K.Own w' base v' (xs ++ ys) → w.grownBy w' v.ownBlock → (v'.ownBlock = v.ownBlock ∨ v'.ownBlock = some w.heap.size) → R (a.put o.dst v') w') : o.wp P a w R Q := by
 subst hT
 obtain ⟨v', w', hrun, h2, h3, h4⟩ := run_app w base B o.type v src xs ys h hy hl hb
 unfold Oper.wp execOp
 simp only [ho, resolve, invoke, builtin, Sem.run_bind, Sem.run_pure, Result.andThen_ok, List.map_toArray, List.map_cons, List.map_nil, hs, hx, hrun]
 exact hk v' w' h2 h3 h4
theorem wpList_app {ops : Array Oper} {rest : List Oper} {o : Oper} {a : Act} {Q : Exit → Act → World → Prop} (w : World) (hgd : o.guard = none) (s x : Operand) {T : TypeId} (hT : T = K.S)
  (ho : o.op = .call { callee := .builtin .append, args := #[s, x], argTypes := #[T, T] }) (base B : Nat) (v src : Value) (xs ys : List α) (hs : a.eval s = v) (hx : a.eval x = src)
  (h : K.Own w base v xs) (hy : K.IsL w B src ys) (hl : xs.length + ys.length ≤ 1000000) (hb : base ≤ w.heap.size)
  (hk : ∀ v' w', K.Own w' base v' (xs ++ ys) → w.grownBy w' v.ownBlock → (v'.ownBlock = v.ownBlock ∨ v'.ownBlock = some w.heap.size) → wpList P ops Q rest (a.put o.dst v') w') : wpList P ops Q (o :: rest) a w :=
 wpList_plain hgd fun _ hK => wp_app w s x hT ho base B v src xs ys hs hx h hy hl hb fun v' w' h2 h3 h4 => hK _ _ (hk v' w' h2 h3 h4)
theorem Own.grow' {S : Nat} {X W W' : World} {v : Value} {xs : List α} (h : K.Own W S v xs) (hb : Below S X W) (hs : S ≤ W.heap.size) (hg : W.grownBy W' v.ownBlock) : Below S X W' := hb.grown hg hs fun k hk => (h.lt k hk).1
end Lk
end Go.Proofs.Ytacjonncakhhmaa
namespace Go.Proofs.Ytacjonncakhhmaa
open Go.RowKit
/-- Lists of whole numbers. -/
noncomputable def KI : Lk Try.prog Int where
 S := 56
 E := 3
 n := 1
 zero := .int .i64 0
 bytes := 8
 cells x := [.int .i64 x]
 dflt := 0
 ok x := fits x
 und := Try.underlying56
 info := by kernel_rfl
 zs := rfl
 pos := by decide
 small := by decide
 len _ := rfl
 one x u hu := by rw [List.mem_singleton] at hu; subst hu; rfl
theorem KI.cells {w : World} {B : Nat} {v : Value} {xs : List Int} (h : KI.IsL w B v xs) (h0 : 0 < xs.length) : ∃ b off cap, v = .slice (some ⟨b, off, none⟩) xs.length cap ∧ xs.length ≤ cap ∧ b < B ∧ xs.length ≤ 9223372036854775807 ∧
  (∀ i, i < xs.length → w.cell? ⟨b, off + i, none⟩ = some (.int .i64 (xs.getD i 0))) ∧ (∀ i, i < xs.length → fits (xs.getD i 0)) := by
 obtain ⟨⟨A, cap, rfl, hc, hA⟩, hf, hl⟩ := h
 obtain ⟨b, off, rfl, hb, hcell⟩ := hA h0
 refine ⟨b, off, cap, rfl, hc, hb, hl, fun i hi => ?_, fun i hi => hf _ (getD_mem' xs i 0 hi)⟩
 have := hcell i hi 0 (.int .i64 (xs.getD i 0)) rfl
 simpa [KI] using this
theorem alloc_at (w : World) (cs : Array Value) (t : TypeId) (o : Nat) : (w.alloc (.cells cs t)).cell? ⟨w.heap.size, o, none⟩ = cs[o]? := by
 unfold World.cell?
 rw [heap_alloc_new]
 rfl
/-- A literal list, laid in a new block. -/
theorem Lk.IsL.lits {P : Program} {α : Type} {K : Lk P α} (w : World) (xs : List α) (cs : Array Value) (hx : ∀ x ∈ xs, K.ok x) (hcs : cs = (K.flat xs).toArray) (hl : xs.length ≤ 9223372036854775807) (H : Nat) (e : w.heap.size = H) :
  K.IsL (w.alloc (.cells cs K.E)) (H + 1) (.slice (some ⟨H, 0, none⟩) xs.length xs.length) xs := by
 subst e
 subst hcs
 refine ⟨⟨_, _, rfl, Nat.le_refl _, fun _ => ⟨_, _, rfl, Nat.lt_succ_self _, fun i hi j u hu => ?_⟩⟩, hx, hl⟩
 have hj : j < K.n := by
  have := (List.getElem?_eq_some_iff.1 hu).1
  rw [K.len] at this
  exact this
 rw [Nat.zero_add, alloc_at, List.getElem?_toArray, K.flat_at xs i j hi hj, hu]
end Go.Proofs.Ytacjonncakhhmaa
namespace Go.Proofs.Ytacjonncakhhmaa
open Go.ChangeShapes Go.WideShapes Go.ChangeAt Go.RowKit Go.Deep
theorem own : ownKnob Try.prog.godebug = none := by kernel_rfl
theorem laidOut : laidOutB Try.prog = true := by kernel_rfl
theorem int_fits {n : Int} (h : (Lit.int .i64 n).wf = true) : fits n := by
 have : -9223372036854775808 ≤ n ∧ n ≤ 9223372036854775807 := by simpa [Lit.wf, IntKind.min, IntKind.max, IntKind.signed, IntKind.bits] using h
 exact this
theorem fl_fits {n : Nat} (h : (Lit.float .f64 n).wf = true) : n < 18446744073709551616 := by simpa [Lit.wf] using h
/-- A list that came in, whatever its elements are. -/
theorem Lk.opened {P : Program} {α : Type} {K : Lk P α} {H : Type} {enc : TypeId × Value → H} {w : World} (Q : α → Prop) (hcells : P.cellsOf K.E = K.n)
  (each : ∀ (fuel : Nat) (cs : List Value) (x : DataW H × List MemPlace), DataW.trod enc P w 0 (fun _ => true) true fuel K.E cs = some x → ∃ y : α, cs = K.cells y ∧ K.ok y ∧ Q y)
  {fuel : Nat} {cs : List Value} {x : DataW H × List MemPlace} (h : DataW.trod enc P w 0 (fun _ => true) true fuel K.S cs = some x) :
  ∃ v xs, cs = [v] ∧ K.IsL w w.heap.size v xs ∧ ∀ y ∈ xs, Q y := by
 rcases open_slice K.und h with ⟨rfl, _⟩ | ⟨a, len, cap, m, n, D, Pl, rfl, hb, hl, hm, hmm, rfl, hx⟩
 ·exact ⟨_, [], rfl, IsL.nil _ _ _ _, fun y hy => by simp at hy⟩
 ·rw [if_pos rfl] at hmm
  subst hmm
  have hm' : m ≤ 9223372036854775807 := by unfold maxLen at hm; omega
  rcases Nat.eq_zero_or_pos len with h0 | h0
  ·subst h0
   exact ⟨_, [], rfl, IsL.nil _ _ _ _, fun y hy => by simp at hy⟩
  have hi : Inhabited α := ⟨K.dflt⟩
  obtain ⟨Y, hY⟩ := choose_lt (α := α) (n := len) (p := fun i y => K.ok y ∧ Q y ∧ ∀ j, j < K.n → w.cell? ((a.add (i * K.n)).add j) = (K.cells y)[j]?) (fun i hi => by
   obtain ⟨cs', h1, h2⟩ := hx i (by omega)
   rw [hcells] at h1
   obtain ⟨y, rfl, hy, hq⟩ := each _ _ _ h2
   obtain ⟨_, _, hcell⟩ := World.cells?_some h1
   exact ⟨y, hy, hq, hcell⟩)
  have hpos := K.pos
  obtain ⟨b, off, spot⟩ := a
  have h00 := (hY 0 h0).2.2 0 hpos
  obtain ⟨u0, hu0⟩ : ∃ u, (K.cells (Y 0))[0]? = some u := ⟨_, List.getElem?_eq_getElem (by rw [K.len]; exact hpos)⟩
  rw [hu0] at h00
  have hspot : spot = none := by simpa [Addr.add] using World.cell?_spot h00
  subst hspot
  have hlen : ((List.range len).map Y).length = len := by simp
  refine ⟨_, (List.range len).map Y, rfl, ⟨⟨some ⟨b, off, none⟩, m, by rw [hlen], by rw [hlen]; exact hl, fun _ => ⟨b, off, rfl, ?_, fun i hi j u hu => ?_⟩⟩, fun y hy => ?_, by rw [hlen]; omega⟩, fun y hy => ?_⟩
  ·have e := World.block_lt_of_cell? w _ h00
   simpa [Addr.add] using e
  ·rw [hlen] at hi
   have hj : j < K.n := by
    have := (List.getElem?_eq_some_iff.1 hu).1
    rw [K.len] at this
    exact this
   have e := (hY i hi).2.2 j hj
   rw [add_plain, add_plain] at e
   have hget : ((List.range len).map Y).getD i K.dflt = Y i := by
    rw [List.getD_eq_getElem?_getD, List.getElem?_map, List.getElem?_range hi]
    rfl
   rw [hget] at hu
   rw [← Nat.add_assoc, e, hu]
  ·obtain ⟨i, hi, rfl⟩ := List.mem_map.1 hy
   exact (hY i (List.mem_range.1 hi)).1
  ·obtain ⟨i, hi, rfl⟩ := List.mem_map.1 hy
   exact (hY i (List.mem_range.1 hi)).2.1
theorem trod_float {H : Type} {enc : TypeId × Value → H} {P : Program} {w : World} {base : Nat} {spare : Nat → Bool} {held : Bool} {fuel : Nat} {t : TypeId} {cs : List Value} {x : DataW H × List MemPlace} {k : FloatKind} (ht : P.underlying t = some (.float k)) (h : DataW.trod enc P w base spare held fuel t cs = some x) : ∃ n, cs = [.float k n] ∧ (Lit.float k n).wf = true := by
 cases fuel with
 | zero => simp [DataW.trod] at h
 | succ n =>
  unfold DataW.trod at h
  rw [ht] at h
  split at h <;> simp_all
end Go.Proofs.Ytacjonncakhhmaa

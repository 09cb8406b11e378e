/- Sets made of any list; the first that stands twice. -/
import Derived.Test.YtmecohdedghiaaaDoorPc05
import Derived.Laws.StructEq
import Derived.Deep.RegionHeld3
import Derived.RegionTactic
import Derived.Test.YtmecohdedghiaaaDoorPc01
import Derived.Test.YtmecohdedghiaaaDoorPc02
import Derived.Test.YtmecohdedghiaaaDoorPc04
import Derived.Laws.BitsAllLaws
import Derived.Laws.Bits64
import Derived.Lib.TrailingZeros
import Derived.Lib.BitFns
import Ieee.Arith
import Derived.Below
import Derived.Lib.ItoaNum
import Derived.Test.YtmecohdedghiaaaDoorChecked
import Derived.WalkKit
import Derived.WalkLawsBesides
import Derived.WalkSpells
import Derived.Outline
import Derived.Laws.Cover2
import Derived.KernelRfl
import Derived.Lib.Hide
import Derived.Shelf.Spec.TrailingZeros
import Derived.LoopTactic
import Derived.Deep.QuietTactic
import Derived.BigQuiet
import Derived.Deep.Cut
import Derived.Laws.FloatArith
import Derived.Maps.OwnSet
import Derived.Maps.Own
namespace Go.Proofs.YtmecohdedghiaaaDoor.Two
open Go.RowKit
end Go.Proofs.YtmecohdedghiaaaDoor.Two
namespace Go.Proofs.YtmecohdedghiaaaDoor.Two
open Go.RowKit
def sumL (l : List Int) : Int := l.foldl (· + ·) 0
end Go.Proofs.YtmecohdedghiaaaDoor.Two
namespace Go.Proofs.YtmecohdedghiaaaDoor.Two
open Go.RowKit
/-- Two slices of the call's own do not share a block. -/
def Off2 (u v : Value) : Prop := ∀ k, u.ownBlock = some k → v.ownBlock ≠ some k
theorem Off2.symm {u v : Value} (h : Off2 u v) : Off2 v u := fun k h1 h2 => h k h2 h1
theorem Off2.grown {u v u' : Value} {w : World} {base : Nat} {ys : List Int} (h : Off2 u v) (hv : Own w base v ys) (hu : u'.ownBlock = u.ownBlock ∨ u'.ownBlock = some w.heap.size) : Off2 u' v := by
  intro k hk hk2
  rcases hu with hu | hu
  · exact h k (hu ▸ hk) hk2
  · rw [hu] at hk
    injection hk with hk
    have := (hv.lt k hk2).2
    omega
/-- A list parted by the signs. -/
structure Parts (l ups downs : List Int) : Prop where
  sum : sumL ups + sumL downs = sumL l
  len : ups.length + downs.length = l.length
  up : ∀ x ∈ ups, 0 ≤ x
  down : ∀ x ∈ downs, x < 0
theorem Parts.nil : Parts [] [] [] := ⟨rfl, rfl, fun x hx => by simp at hx, fun x hx => by simp at hx⟩
/-- What is still to be added. -/
structure Rest (S s : Int) (ups downs : List Int) : Prop where
  sum : s + (sumL ups + sumL downs) = S
  fit : fits s
  up : ∀ x ∈ ups, 0 ≤ x
  down : ∀ x ∈ downs, x < 0
  fup : ∀ x ∈ ups, fits x
  fdown : ∀ x ∈ downs, fits x
theorem Rest.done {S s : Int} (h : Rest S s [] []) : S = s ∧ fits s := by
  have := h.sum
  rw [show sumL [] = 0 from rfl] at this
  exact ⟨by omega, h.fit⟩
end Go.Proofs.YtmecohdedghiaaaDoor.Two
namespace Go.Proofs.YtmecohdedghiaaaDoor
open Go.RowKit
/-- What an own slice is, as it stands. -/
theorem Lk.Own.shape {P : Program} {α : Type} {K : Lk P α} {w : World} {base : Nat} {v : Value} {xs : List α} (h : K.Own w base v xs) (h0 : 0 < xs.length) : ∃ g cap, v = .slice (some ⟨g, 0, none⟩) xs.length cap ∧ base ≤ g ∧ g < w.heap.size ∧ xs.length ≤ cap := by
 obtain ⟨⟨h1, h2⟩, hf⟩ := h
 rcases h2 with ⟨_, hn⟩ | ⟨g, cap, cur, rfl, hb2, hg, hn, _⟩
 ·omega
 ·exact ⟨g, cap, rfl, hb2, (Array.getElem?_eq_some_iff.1 hg).1, hn⟩
theorem KI.flat_at (xs : List Int) : KI.flat xs = xs.map fun x => Value.int .i64 x := by
 induction xs with
 | nil => rfl
 | cons x r ih => show Value.int .i64 x :: KI.flat r = _; rw [ih]; rfl
/-- A number of an own list is written. -/
theorem KI.Own.put {w : World} {B g n c : Nat} {ys : List Int} (h : KI.Own w B (.slice (some ⟨g, 0, none⟩) n c) ys) (hn : ys.length = n) (k : Nat) (x : Int) (hx : fits x) :
  KI.Own (w.setCell ⟨g, k, none⟩ (.int .i64 x)) B (.slice (some ⟨g, 0, none⟩) n c) (ys.set k x) ∧ w.grownBy (w.setCell ⟨g, k, none⟩ (.int .i64 x)) (some g) := by
 obtain ⟨h1, h2⟩ := h
 have q := World.ownsRow.stored (n := n) (by rw [hn] at h1; exact h1) k (.int .i64 x)
 refine ⟨⟨?_, fun q hq => ?_⟩, q.2⟩
 ·rw [KI.flat_at] at q ⊢
  rw [List.length_set, hn, List.map_set]
  exact q.1
 ·rcases List.mem_or_eq_of_mem_set hq with hq | rfl
  ·exact h2 q hq
  ·exact hx
theorem KI.Own.at {w : World} {B g n c : Nat} {ys : List Int} (h : KI.Own w B (.slice (some ⟨g, 0, none⟩) n c) ys) (hn : ys.length = n) (k : Nat) (hk : k < n) : w.cell? ⟨g, k, none⟩ = some (.int .i64 (ys.getD k 0)) ∧ w.frozen? ⟨g, k, none⟩ = false := by
 obtain ⟨h1, h2⟩ := h
 rw [hn] at h1
 refine ⟨?_, h1.frozenAt k⟩
 have := h1.cellAt k (by show k < n * 1; omega)
 rw [this, KI.flat_at, List.getElem?_map, List.getD_eq_getElem?_getD, List.getElem?_eq_getElem (by omega)]
 rfl
/-- What an own slice's elements are in memory. -/
theorem Lk.Own.cellAt {P : Program} {α : Type} {K : Lk P α} {w : World} {B g n c : Nat} {ys : List α} (h : K.Own w B (.slice (some ⟨g, 0, none⟩) n c) ys) (hn : ys.length = n) (k j : Nat) (hk : k < n) (u : Value) (hu : (K.cells (ys.getD k K.dflt))[j]? = some u) : w.cell? ⟨g, k * K.n + j, none⟩ = some u ∧ w.frozen? ⟨g, k * K.n + j, none⟩ = false := by
 obtain ⟨h1, h2⟩ := h
 rw [hn] at h1
 have hj : j < K.n := by
  have := (List.getElem?_eq_some_iff.1 hu).1
  rw [K.len] at this
  exact this
 refine ⟨?_, h1.frozenAt _⟩
 have hm : k * K.n + j < n * K.n := by
  have : (k + 1) * K.n ≤ n * K.n := Nat.mul_le_mul_right _ hk
  rw [Nat.succ_mul] at this
  omega
 rw [h1.cellAt _ hm, K.flat_at ys k j (by omega) hj, hu]
end Go.Proofs.YtmecohdedghiaaaDoor
namespace Go.Proofs.YtmecohdedghiaaaDoor
open Go.RowKit
end Go.Proofs.YtmecohdedghiaaaDoor
namespace Go.Proofs.YtmecohdedghiaaaDoor
open Go.RowKit
def cellA (q : Pl) (i : Nat) : Cel.Ce := ⟨q.cap, q.st.getD i 0, 0⟩
def plN (q : Pl) : Nat := q.rows.toNat * q.cols.toNat
/-- The cells of a plate at first. -/
def plC (q : Pl) : List Cel.Ce := (List.range (plN q)).map (cellA q)
noncomputable def newCn (l : List Pl) (n : Nat) : List Cel.Ce := (List.range n).flatMap fun j => plC (l.getD j KP.dflt)
theorem newCn_snoc (l : List Pl) (n : Nat) : newCn l (n + 1) = newCn l n ++ plC (l.getD n KP.dflt) := by
 unfold newCn
 rw [List.range_succ, List.flatMap_append]
 simp
theorem plC_len (q : Pl) : (plC q).length = plN q := by unfold plC; simp
theorem plN_eq {q : Pl} (h : plateB q = true) : (plN q : Int) = q.rows * q.cols ∧ 1 ≤ plN q ∧ plN q ≤ 1536 ∧ q.st.length ≤ plN q := by
 have hs := plate_size h
 obtain ⟨h1, h2, h3, h4⟩ := size_of hs
 have hm := size_mul hs
 have e : (plN q : Int) = q.rows * q.cols := by
  unfold plN
  rw [Int.natCast_mul, show ((q.rows.toNat : Nat) : Int) = q.rows by omega, show ((q.cols.toNat : Nat) : Int) = q.cols by omega]
 have hl : (q.st.length : Int) ≤ q.rows * q.cols := by
  unfold plateB at h
  rw [Bool.and_eq_true, Bool.and_eq_true, decide_eq_true_eq] at h
  exact h.1.2.2.2
 exact ⟨e, by omega, by omega, by omega⟩
theorem newCn_len (l : List Pl) (h : ∀ i, i < l.length → plateB (l.getD i KP.dflt) = true) : ∀ n, n ≤ l.length → ((newCn l n).length : Int) = wellsV (l.take n) := by
 intro n
 induction n with
 | zero => intro _; rfl
 | succ n ih =>
  intro hn
  rw [newCn_snoc, List.length_append, Int.natCast_add, ih (by omega), wells_snoc l n (by omega), plC_len, (plN_eq (h n (by omega))).1]
noncomputable def wellN (d : Dk) : Nat := (wellsV d.pl).toNat
noncomputable def tipN (d : Dk) : Nat := (tipsV d.rl).toNat
theorem wellN_eq (d : Dk) (h : OkD d) : (wellN d : Int) = wellsV d.pl ∧ wellN d ≤ 384 ∧ (newCn d.pl d.pl.length).length = wellN d := by
 have hw := wells_bd d.pl (fun i hi => plate_size (h.pl i hi)) d.pl.length (Nat.le_refl _)
 have hl := newCn_len d.pl h.pl d.pl.length (Nat.le_refl _)
 rw [List.take_length] at hw hl
 have := h.wells
 unfold wellN
 omega
theorem tipN_eq (d : Dk) (h : OkD d) : (tipN d : Int) = tipsV d.rl ∧ tipN d ≤ 384 := by
 have hw := tips_bd d.rl (fun i hi => by have := h.rl i hi; unfold rackB at this; exact this) d.rl.length (Nat.le_refl _)
 rw [List.take_length] at hw
 have := h.tips
 unfold tipN
 omega
/-- What kind a part is, by its id. -/
noncomputable def isP (d : Dk) (k id : Int) : Bool := decide ((partV d id).2 = 0) && decide ((partV d id).1.a = k)
theorem parts_kinds (k : Int) (f : Nat → Q4) (hf : ∀ i, (f i).a = k) (n : Nat) : ∀ p ∈ partsU ((List.range n).map f), p.a = k := by
 intro p hp
 unfold partsU unitParts at hp
 obtain ⟨u, hu, hp⟩ := List.mem_flatMap.1 hp
 obtain ⟨i, _, rfl⟩ := List.mem_map.1 hu
 obtain ⟨j, _, rfl⟩ := List.mem_map.1 hp
 exact hf i
theorem kinds_len (k : Int) (l : List Q4) (h : ∀ p ∈ l, p.a = k) : cntK k l = l.length := by
 unfold cntK
 rw [List.filter_eq_self.2 (fun p hp => by rw [h p hp]; exact BEq.rfl)]
theorem parts_split (d : Dk) (h : OkD d) : ∃ A B C, partsL d = A ++ (B ++ C) ∧ A.length = wellN d ∧ B.length = tipN d ∧ (∀ p ∈ A, p.a = 1) ∧ (∀ p ∈ B, p.a = 2) ∧ (∀ p ∈ C, p.a = 3) := by
 have hA := parts_kinds 1 (plateU d.pl) (fun _ => rfl) d.pl.length
 have hB := parts_kinds 2 (rackU d.rl) (fun _ => rfl) d.rl.length
 have hC := parts_kinds 3 laneU (fun _ => rfl) (d.bl.length - 1)
 refine ⟨_, _, _, ?_, ?_, ?_, hA, hB, hC⟩
 ·unfold partsL partsU unitsL
  rw [List.flatMap_append, List.flatMap_append, List.append_assoc]
 ·have e := kinds_len 1 _ hA
  rw [cnt_U 1 (plateU d.pl) _ 1 (fun _ => rfl), if_pos rfl, sum_plates d.pl (fun i hi => plateU_ok d h i hi) _ (Nat.le_refl _), List.take_length] at e
  have := (wellN_eq d h).1
  omega
 ·have e := kinds_len 2 _ hB
  rw [cnt_U 2 (rackU d.rl) _ 2 (fun _ => rfl), if_pos rfl, sum_racks d.rl (fun i hi => rackU_ok d h i hi) _ (Nat.le_refl _), List.take_length] at e
  have := (tipN_eq d h).1
  omega
theorem getD_app {α : Type} (l m : List α) (i : Nat) (z : α) : (l ++ m).getD i z = if i < l.length then l.getD i z else m.getD (i - l.length) z := by
 rw [List.getD_eq_getElem?_getD]
 by_cases h : i < l.length
 ·rw [List.getElem?_append_left h, if_pos h, List.getD_eq_getElem?_getD]
 ·rw [List.getElem?_append_right (by omega), if_neg h, List.getD_eq_getElem?_getD]
theorem isP_eq (d : Dk) (hz : dchk d = 0) (id : Int) : isP d 1 id = decide (0 ≤ id ∧ id < wellN d) ∧ isP d 2 id = decide (wellN d ≤ id ∧ id < wellN d + tipN d) := by
 obtain ⟨A, B, C, e, hA, hB, kA, kB, kC⟩ := parts_split d (dchk_ok d hz)
 unfold isP partV
 rw [if_pos hz, e]
 unfold partR
 rw [List.length_append, List.length_append, hA, hB]
 by_cases h0 : id < 0 ∨ ((wellN d + (tipN d + C.length) : Nat) : Int) ≤ id
 ·rw [if_pos h0]
  constructor <;> rw [Bool.eq_iff_iff, Bool.and_eq_true, decide_eq_true_eq, decide_eq_true_eq, decide_eq_true_eq] <;> exact ⟨fun h => absurd h.1 (by show ¬ (3 : Int) = 0; decide), fun h => by omega⟩
 ·rw [if_neg h0]
  obtain ⟨j, rfl⟩ := Int.eq_ofNat_of_zero_le (show 0 ≤ id by omega)
  have hk : ((A ++ (B ++ C)).getD j ⟨0, 0, 0, 0⟩).a = if j < wellN d then 1 else if j < wellN d + tipN d then 2 else 3 := by
   rw [getD_app, hA]
   by_cases h1 : j < wellN d
   ·rw [if_pos h1, if_pos h1]
    exact kA _ (getD_mem' A j _ (by omega))
   ·rw [if_neg h1, if_neg h1, getD_app, hB]
    by_cases h2 : j < wellN d + tipN d
    ·rw [if_pos (by omega), if_pos h2]
     exact kB _ (getD_mem' B _ _ (by omega))
    ·rw [if_neg (by omega), if_neg h2]
     exact kC _ (getD_mem' C _ _ (by omega))
  dsimp only
  rw [show ((j : Int)).toNat = j from rfl, hk]
  by_cases h1 : j < wellN d
  ·rw [if_pos h1]
   constructor <;> rw [Bool.eq_iff_iff] <;> simp <;> omega
  ·rw [if_neg h1]
   by_cases h2 : j < wellN d + tipN d
   ·rw [if_pos h2]
    constructor <;> rw [Bool.eq_iff_iff] <;> simp <;> omega
   ·rw [if_neg h2]
    constructor <;> rw [Bool.eq_iff_iff] <;> simp <;> omega
end Go.Proofs.YtmecohdedghiaaaDoor
namespace Go.Proofs.YtmecohdedghiaaaDoor
open Go.RowKit
theorem rzcheck_any (d : Dk) (w : World) (hd : d.In w w.heap.size) : Calls Tryd.prog 24 #[d.v] w fun e w' => e = .returned (.int .i64 (zchk d)) ∧ Below w.heap.size w w' := by
 obtain ⟨w0, hw0⟩ : ∃ w0, w0 = w.alloc (.cells #[.slice d.bA d.bn d.bc, .slice d.pA d.pn d.pc, .slice d.rA d.rn d.rc, .int .i64 d.arms] 26) := ⟨_, rfl⟩
 have HB0 := Lib.hid (show Below w.heap.size w w0 by rw [hw0]; exact Below.al (Below.refl _ _) _)
 have HD0 := Lib.hid (hd.then HB0.out)
 have HT := Lib.hid (fun w h => rtable_any d w h)
 clear hd
 go_enter Tryd.func24, Tryd.ntmps24
 go_wp2_with fail
 rw [← hw0]
 clear hw0
 refine (HT.out _ HD0.out).mono ?_
 rintro e w1 ⟨v, rfl, _, hb1⟩
 go_wp2
 go_ret
 exact ⟨rfl, Below.call HB0.out hb1⟩
end Go.Proofs.YtmecohdedghiaaaDoor
namespace Go.Proofs.YtmecohdedghiaaaDoor
open Go.RowKit
end Go.Proofs.YtmecohdedghiaaaDoor
namespace Go.Proofs.YtmecohdedghiaaaDoor.Lg
open Go.RowKit
/-- A log. -/
abbrev lgV (r l : Int) (A : Option Addr) (n c : Nat) : Value := .agg #[.int .i64 r, .int .i64 l, .slice A n c]
/-- May an arm change a well by so much? -/
def mayB (b n : Int) : Bool := decide (1 ≤ b ∧ b ≤ 8 ∧ -1099511627776 ≤ n ∧ n ≤ 1099511627776 ∧ n ≠ 0)
def rgC (r l : Int) (n : Nat) : Prop := 1 ≤ r ∧ r ≤ 64 ∧ 0 ≤ l ∧ l ≤ 2147483647 ∧ (n : Int) ≤ r ∧ (n : Int) ≤ l
instance (r l : Int) (n : Nat) : Decidable (rgC r l n) := inferInstanceAs (Decidable (_ ∧ _))
end Go.Proofs.YtmecohdedghiaaaDoor.Lg
namespace Go.Proofs.YtmecohdedghiaaaDoor.Lg
open Go.RowKit
end Go.Proofs.YtmecohdedghiaaaDoor.Lg
namespace Go.Proofs.YtmecohdedghiaaaDoor.Lg
open Go.RowKit
end Go.Proofs.YtmecohdedghiaaaDoor.Lg
namespace Go.Proofs.YtmecohdedghiaaaDoor.Lg
open Go.RowKit
end Go.Proofs.YtmecohdedghiaaaDoor.Lg
namespace Go.Proofs.YtmecohdedghiaaaDoor.Lk
open Go.RowKit
variable {P : Program} {α : Type} {K : Lk P α}
end Go.Proofs.YtmecohdedghiaaaDoor.Lk
namespace Go.Proofs.YtmecohdedghiaaaDoor.Lg
open Go.RowKit
end Go.Proofs.YtmecohdedghiaaaDoor.Lg
namespace Go.Proofs.YtmecohdedghiaaaDoor.Lg
open Go.RowKit
end Go.Proofs.YtmecohdedghiaaaDoor.Lg
namespace Go.Proofs.YtmecohdedghiaaaDoor.Lg
open Go.RowKit
end Go.Proofs.YtmecohdedghiaaaDoor.Lg
namespace Go.Proofs.YtmecohdedghiaaaDoor.Lg
open Go.RowKit
end Go.Proofs.YtmecohdedghiaaaDoor.Lg
namespace Go.Proofs.YtmecohdedghiaaaDoor.Lg
open Go.RowKit
end Go.Proofs.YtmecohdedghiaaaDoor.Lg
namespace Go.Proofs.YtmecohdedghiaaaDoor.Lg
open Go.RowKit
end Go.Proofs.YtmecohdedghiaaaDoor.Lg
namespace Go.Proofs.YtmecohdedghiaaaDoor
open Go.RowKit
theorem Cells6.grown {V V' : World} {D : Nat} {row : Option Nat} {x0 x1 x2 x3 x4 x5 : Value} (h : Cells6 V D x0 x1 x2 x3 x4 x5) (hg : V.grownBy V' row) (hne : some D ≠ row) : Cells6 V' D x0 x1 x2 x3 x4 x5 := by
 obtain ⟨h0, h1, h2, h3, h4, h5, z0, z1, z2, z3, z4, z5, hs⟩ := h
 exact ⟨(hg.cell_far ⟨D, 0, none⟩ hs hne).trans h0, (hg.cell_far ⟨D, 1, none⟩ hs hne).trans h1, (hg.cell_far ⟨D, 2, none⟩ hs hne).trans h2, (hg.cell_far ⟨D, 3, none⟩ hs hne).trans h3, (hg.cell_far ⟨D, 4, none⟩ hs hne).trans h4, (hg.cell_far ⟨D, 5, none⟩ hs hne).trans h5,
  (hg.frozen_far ⟨D, 0, none⟩ hs hne).trans z0, (hg.frozen_far ⟨D, 1, none⟩ hs hne).trans z1, (hg.frozen_far ⟨D, 2, none⟩ hs hne).trans z2, (hg.frozen_far ⟨D, 3, none⟩ hs hne).trans z3, (hg.frozen_far ⟨D, 4, none⟩ hs hne).trans z4, (hg.frozen_far ⟨D, 5, none⟩ hs hne).trans z5, Nat.lt_of_lt_of_le hs hg.size⟩
end Go.Proofs.YtmecohdedghiaaaDoor
namespace Go.Proofs.YtmecohdedghiaaaDoor
open Go.RowKit
theorem Cells4.low {V V' : World} {B D : Nat} {x0 x1 x2 x3 : Value} (h : Cells4 V D x0 x1 x2 x3) (hb : Below B V V') (hD : D < B) : Cells4 V' D x0 x1 x2 x3 := by
 obtain ⟨h0, h1, h2, h3, z0, z1, z2, z3, hs⟩ := h
 exact ⟨(hb.cell (p := ⟨D, 0, none⟩) hD).trans h0, (hb.cell (p := ⟨D, 1, none⟩) hD).trans h1, (hb.cell (p := ⟨D, 2, none⟩) hD).trans h2, (hb.cell (p := ⟨D, 3, none⟩) hD).trans h3, (hb.frozen (p := ⟨D, 0, none⟩) hD).trans z0, (hb.frozen (p := ⟨D, 1, none⟩) hD).trans z1, (hb.frozen (p := ⟨D, 2, none⟩) hD).trans z2, (hb.frozen (p := ⟨D, 3, none⟩) hD).trans z3, Nat.lt_of_lt_of_le hs hb.size⟩
theorem Cells6.low {V V' : World} {B D : Nat} {x0 x1 x2 x3 x4 x5 : Value} (h : Cells6 V D x0 x1 x2 x3 x4 x5) (hb : Below B V V') (hD : D < B) : Cells6 V' D x0 x1 x2 x3 x4 x5 := by
 obtain ⟨h0, h1, h2, h3, h4, h5, z0, z1, z2, z3, z4, z5, hs⟩ := h
 exact ⟨(hb.cell (p := ⟨D, 0, none⟩) hD).trans h0, (hb.cell (p := ⟨D, 1, none⟩) hD).trans h1, (hb.cell (p := ⟨D, 2, none⟩) hD).trans h2, (hb.cell (p := ⟨D, 3, none⟩) hD).trans h3, (hb.cell (p := ⟨D, 4, none⟩) hD).trans h4, (hb.cell (p := ⟨D, 5, none⟩) hD).trans h5, (hb.frozen (p := ⟨D, 0, none⟩) hD).trans z0, (hb.frozen (p := ⟨D, 1, none⟩) hD).trans z1, (hb.frozen (p := ⟨D, 2, none⟩) hD).trans z2, (hb.frozen (p := ⟨D, 3, none⟩) hD).trans z3, (hb.frozen (p := ⟨D, 4, none⟩) hD).trans z4, (hb.frozen (p := ⟨D, 5, none⟩) hD).trans z5, Nat.lt_of_lt_of_le hs hb.size⟩
/-- A plate's box: what of it is read. -/
def PlAt (V : World) (P : Nat) (r c cap : Int) (sv : Value) : Prop := V.cell? ⟨P, 0, none⟩ = some (.int .i64 r) ∧ V.cell? ⟨P, 1, none⟩ = some (.int .i64 c) ∧ V.cell? ⟨P, 5, none⟩ = some (.int .i64 cap) ∧ V.cell? ⟨P, 6, none⟩ = some sv ∧ P < V.heap.size
theorem PlAt.below {V V' : World} {P : Nat} {r c cap : Int} {sv : Value} (h : PlAt V P r c cap sv) (hb : Below V.heap.size V V') : PlAt V' P r c cap sv := ⟨keep_cell hb h.1, keep_cell hb h.2.1, keep_cell hb h.2.2.1, keep_cell hb h.2.2.2.1, Nat.lt_of_lt_of_le h.2.2.2.2 hb.size⟩
theorem PlAt.grown {V V' : World} {P : Nat} {r c cap : Int} {sv : Value} {row : Option Nat} (h : PlAt V P r c cap sv) (hg : V.grownBy V' row) (hne : some P ≠ row) : PlAt V' P r c cap sv :=
 ⟨(hg.cell_far ⟨P, 0, none⟩ h.2.2.2.2 hne).trans h.1, (hg.cell_far ⟨P, 1, none⟩ h.2.2.2.2 hne).trans h.2.1, (hg.cell_far ⟨P, 5, none⟩ h.2.2.2.2 hne).trans h.2.2.1, (hg.cell_far ⟨P, 6, none⟩ h.2.2.2.2 hne).trans h.2.2.2.1, Nat.lt_of_lt_of_le h.2.2.2.2 hg.size⟩
theorem PlAt.off {V : World} {P D o : Nat} {r c cap : Int} {sv : Value} (h : PlAt V P r c cap sv) (hne : D ≠ P) (v : Value) : PlAt (V.setCell ⟨D, o, none⟩ v) P r c cap sv :=
 ⟨st_other h.1 (ad_ne (.inl hne)), st_other h.2.1 (ad_ne (.inl hne)), st_other h.2.2.1 (ad_ne (.inl hne)), st_other h.2.2.2.1 (ad_ne (.inl hne)), by simpa using h.2.2.2.2⟩
end Go.Proofs.YtmecohdedghiaaaDoor
namespace Go.Proofs.YtmecohdedghiaaaDoor
open Go.RowKit
def lwB : List Nat := [0, 4621256167635550208, 4625759767262920704]
def lwP (S : Option Addr) : Pl := ⟨1, 2, 4621256167635550208, 4620693217682128896, 4602678819172646912, 100, S, 1, 1, [40]⟩
def lwR : Rk := ⟨1, 1, 4611686018427387904, 0, 0⟩
/-- The little deck, wherever its lists lie. -/
def lwD (A P R S : Option Addr) : Dk := ⟨A, 3, 3, lwB, P, 1, 1, [lwP S], R, 1, 1, [lwR], 2⟩
theorem lw_b : chkE lwB = 0 := by decide +kernel
theorem lw_row1 : rowV lwB ⟨1, 2, 4621256167635550208, 4620693217682128896, 4602678819172646912⟩ = [(0, 1, 0), (1, 1, 0)] := by decide +kernel
theorem lw_row2 : rowV lwB ⟨1, 1, 4611686018427387904, 0, 0⟩ = [(0, 0, 0)] := by decide +kernel
theorem lw_chk (A P R S : Option Addr) : dchk (lwD A P R S) = 0 := by
  unfold dchk
  rw [show (lwD A P R S).bl = lwB from rfl, if_neg (by rw [lw_b]; simp)]
  kernel_rfl
theorem lw_racks (A P R S : Option Addr) : racksL (lwD A P R S) = [⟨1, 2, 4621256167635550208, 4620693217682128896, 4602678819172646912⟩, ⟨1, 1, 4611686018427387904, 0, 0⟩] := rfl
theorem lw_z (A P R S : Option Addr) : zchk (lwD A P R S) = 0 := by
  unfold zchk zE
  rw [if_pos (lw_chk A P R S), lw_racks, List.flatMap_cons, List.flatMap_cons, List.flatMap_nil, List.append_nil]
  show fstE (rowV lwB _ ++ rowV lwB _) = 0
  rw [lw_row1, lw_row2]
  rfl
theorem lw_tab (A P R S : Option Addr) : tabV (lwD A P R S) = [(0, 1), (1, 1), (0, 0), (0, 0), (1, 1)] := by
  unfold tabV
  rw [if_pos (lw_z A P R S), tab_eq, lw_racks, List.flatMap_cons, List.flatMap_cons, List.flatMap_nil, List.append_nil]
  show pairs ((blkV lwB _ ++ blkV lwB _) ++ _) = _
  unfold blkV
  rw [lw_row1, lw_row2]
  rfl
theorem lw_cnt (A P R S : Option Addr) : frst (lwD A P R S) = 3 := by
  unfold frst cntV
  rw [if_pos (lw_chk A P R S)]
  kernel_rfl
theorem lw_in (A P R S : Option Addr) (id : Int) : inR (lwD A P R S) id = decide (0 ≤ id ∧ id < 5) := by
  unfold inR
  rw [lw_tab]
  rfl
theorem lw_sp (A P R S : Option Addr) (id : Int) : spA (lwD A P R S) id = ([(0, 1), (1, 1), (0, 0), (0, 0), (1, 1)] : List (Int × Int)).getD id.toNat (0, 0) := by
  unfold spA
  rw [lw_tab]
theorem lw_e (A P R S : Option Addr) (ids : List Int) (h : ids.all (fun id => decide (0 ≤ id ∧ id < 5)) = true) : spsE (lwD A P R S) ids = 0 := by
  unfold spsE
  rw [if_pos (lw_z A P R S), if_pos]
  rw [← h]
  congr 1
  funext id
  exact lw_in A P R S id
theorem lw_set (A P R S : Option Addr) : setV (lwD A P R S) [0] = [3, 4] := by
  unfold setV spsL
  rw [if_pos (lw_e A P R S [0] (by decide))]
  show foldS (lwD A P R S) [spA (lwD A P R S) 0] = _
  rw [lw_sp]
  unfold foldS lanP
  rw [lw_cnt]
  rfl
theorem lw_well (A P R S : Option Addr) : wellN (lwD A P R S) = 2 := by kernel_rfl
set_option maxRecDepth 100000 in
set_option maxHeartbeats 4000000 in
theorem little_any (w : World) : Calls Tryd.prog 17 #[] w fun e w' => ∃ A P R S, e = .returned (lwD A P R S).v ∧ (lwD A P R S).In w' w'.heap.size ∧ Below w.heap.size w w' := by
  have hsf := fun (w : World) (a : Addr) (m : Mode) (b : Nat) => run_store_float (P := Tryd.prog) (w := w) (a := a) (m := m) .f64 b
  obtain ⟨w1, hw1⟩ : ∃ w1, w1 = w.alloc (.cells #[.slice (some ⟨w.heap.size + 1, 0, none⟩) 3 3, .slice (some ⟨w.heap.size + 1 + 1 + 1, 0, none⟩) 1 1, .slice (some ⟨w.heap.size + 1 + 1 + 1 + 1, 0, none⟩) 1 1, .int .i64 2] 26) := ⟨_, rfl⟩
  have hC1 : Cells4 w1 w.heap.size (.slice (some ⟨w.heap.size + 1, 0, none⟩) 3 3) (.slice (some ⟨w.heap.size + 1 + 1 + 1, 0, none⟩) 1 1) (.slice (some ⟨w.heap.size + 1 + 1 + 1 + 1, 0, none⟩) 1 1) (.int .i64 2) := by rw [hw1]; exact Cells4.new w _ _ _ _ _
  have hs1 : w1.heap.size = w.heap.size + 1 := by rw [hw1]; simp
  have hb1 : Below w.heap.size w w1 := by rw [hw1]; exact Below.al (Below.refl _ _) _
  obtain ⟨w2, hw2⟩ : ∃ w2, w2 = w1.alloc (.cells #[.float .f64 0, .float .f64 4621256167635550208, .float .f64 4625759767262920704] 50) := ⟨_, rfl⟩
  have hA := Lk.IsL.lits (K := KF) w1 lwB #[.float .f64 0, .float .f64 4621256167635550208, .float .f64 4625759767262920704] (show ∀ x ∈ lwB, x < 18446744073709551616 by decide) rfl (by decide) (w.heap.size + 1) hs1
  rw [show w1.alloc (.cells #[.float .f64 0, .float .f64 4621256167635550208, .float .f64 4625759767262920704] KF.E) = w2 from hw2.symm] at hA
  have hs2 : w2.heap.size = w.heap.size + 1 + 1 := by rw [hw2]; simp [hs1]
  have hb2 : Below w1.heap.size w1 w2 := by rw [hw2]; exact Below.al (Below.refl _ _) _
  obtain ⟨w3, hw3⟩ : ∃ w3, w3 = w2.alloc (.cells #[.int .i64 40] 3) := ⟨_, rfl⟩
  have hS := Lk.IsL.lits (K := KI) w2 [40] #[.int .i64 40] (by intro x hx; simp at hx; subst hx; show fits 40; decide) rfl (by decide) (w.heap.size + 1 + 1) hs2
  rw [show w2.alloc (.cells #[.int .i64 40] KI.E) = w3 from hw3.symm] at hS
  have hs3 : w3.heap.size = w.heap.size + 1 + 1 + 1 := by rw [hw3]; simp [hs2]
  have hb3 : Below w2.heap.size w2 w3 := by rw [hw3]; exact Below.al (Below.refl _ _) _
  obtain ⟨w4, hw4⟩ : ∃ w4, w4 = w3.alloc (.cells #[.int .i64 1, .int .i64 2, .float .f64 4621256167635550208, .float .f64 4620693217682128896, .float .f64 4602678819172646912, .int .i64 100, .slice (some ⟨w.heap.size + 1 + 1, 0, none⟩) 1 1] 67) := ⟨_, rfl⟩
  have hP := Lk.IsL.lits (K := KP) w3 [lwP (some ⟨w.heap.size + 1 + 1, 0, none⟩)] #[.int .i64 1, .int .i64 2, .float .f64 4621256167635550208, .float .f64 4620693217682128896, .float .f64 4602678819172646912, .int .i64 100, .slice (some ⟨w.heap.size + 1 + 1, 0, none⟩) 1 1] (by
    intro x hx
    simp at hx
    subst hx
    show fits 1 ∧ fits 2 ∧ (4621256167635550208 : Nat) < 18446744073709551616 ∧ (4620693217682128896 : Nat) < 18446744073709551616 ∧ (4602678819172646912 : Nat) < 18446744073709551616 ∧ fits 100
    decide) rfl (by simp) (w.heap.size + 1 + 1 + 1) hs3
  rw [show w3.alloc (.cells #[.int .i64 1, .int .i64 2, .float .f64 4621256167635550208, .float .f64 4620693217682128896, .float .f64 4602678819172646912, .int .i64 100, .slice (some ⟨w.heap.size + 1 + 1, 0, none⟩) 1 1] KP.E) = w4 from hw4.symm] at hP
  have hs4 : w4.heap.size = w.heap.size + 1 + 1 + 1 + 1 := by rw [hw4]; simp [hs3]
  have hb4 : Below w3.heap.size w3 w4 := by rw [hw4]; exact Below.al (Below.refl _ _) _
  obtain ⟨w5, hw5⟩ : ∃ w5, w5 = w4.alloc (.cells #[.int .i64 1, .int .i64 1, .float .f64 4611686018427387904, .float .f64 0, .float .f64 0] 69) := ⟨_, rfl⟩
  have hR := Lk.IsL.lits (K := KR) w4 [lwR] #[.int .i64 1, .int .i64 1, .float .f64 4611686018427387904, .float .f64 0, .float .f64 0] (by
    intro x hx
    simp at hx
    subst hx
    show fits 1 ∧ fits 1 ∧ (4611686018427387904 : Nat) < 18446744073709551616 ∧ (0 : Nat) < 18446744073709551616 ∧ (0 : Nat) < 18446744073709551616
    decide) rfl (by simp) (w.heap.size + 1 + 1 + 1 + 1) hs4
  rw [show w4.alloc (.cells #[.int .i64 1, .int .i64 1, .float .f64 4611686018427387904, .float .f64 0, .float .f64 0] KR.E) = w5 from hw5.symm] at hR
  have hb5 : Below w4.heap.size w4 w5 := by rw [hw5]; exact Below.al (Below.refl _ _) _
  have hs5 : w5.heap.size = w.heap.size + 1 + 1 + 1 + 1 + 1 := by rw [hw5]; simp [hs4]
  have HIN := Lib.hid (show (lwD (some ⟨w.heap.size + 1, 0, none⟩) (some ⟨w.heap.size + 1 + 1 + 1, 0, none⟩) (some ⟨w.heap.size + 1 + 1 + 1 + 1, 0, none⟩) (some ⟨w.heap.size + 1 + 1, 0, none⟩)).In w5 w5.heap.size by
    rw [hs2] at hb3
    rw [hs3] at hb4
    rw [hs4] at hb5
    refine ⟨(((hA.below hb3).below (hb4.mono (by omega))).below (hb5.mono (by omega))).more (by omega), ((hP.below hb5).more (by omega)), hR.more (by omega), fun q hq => ?_, (by show fits 2; decide)⟩
    have hq' : q = lwP (some ⟨w.heap.size + 1 + 1, 0, none⟩) := by simpa [lwD] using hq
    subst hq'
    exact ((hS.below hb4).below (hb5.mono (by omega))).more (by omega))
  have HBW := Lib.hid (show Below w.heap.size w w5 from Below.call (Below.call (Below.call (Below.call hb1 hb2) hb3) hb4) hb5)
  have HC5 := Lib.hid ((((hC1.below hb2).below hb3).below hb4).below hb5)
  have hw5' : w5 = ((((w.alloc (.cells #[.slice (some ⟨w.heap.size + 1, 0, none⟩) 3 3, .slice (some ⟨w.heap.size + 1 + 1 + 1, 0, none⟩) 1 1, .slice (some ⟨w.heap.size + 1 + 1 + 1 + 1, 0, none⟩) 1 1, .int .i64 2] 26)).alloc (.cells #[.float .f64 0, .float .f64 4621256167635550208, .float .f64 4625759767262920704] 50)).alloc (.cells #[.int .i64 40] 3)).alloc (.cells #[.int .i64 1, .int .i64 2, .float .f64 4621256167635550208, .float .f64 4620693217682128896, .float .f64 4602678819172646912, .int .i64 100, .slice (some ⟨w.heap.size + 1 + 1, 0, none⟩) 1 1] 67)).alloc (.cells #[.int .i64 1, .int .i64 1, .float .f64 4611686018427387904, .float .f64 0, .float .f64 0] 69) := by rw [hw5, hw4, hw3, hw2, hw1]
  clear hw1 hw2 hw3 hw4 hw5 hA hS hP hR hb1 hb2 hb3 hb4 hb5 hs1 hs2 hs3 hs4 hC1
  go_enter Tryd.func17, Tryd.ntmps17
  go_wp2
  rw [← hw5']
  obtain ⟨c0, c1, c2, c3, y0, y1, y2, y3, -⟩ := HC5.out
  refine bodyPost_ret (v := (lwD (some ⟨w.heap.size + 1, 0, none⟩) (some ⟨w.heap.size + 1 + 1 + 1, 0, none⟩) (some ⟨w.heap.size + 1 + 1 + 1 + 1, 0, none⟩) (some ⟨w.heap.size + 1 + 1, 0, none⟩)).v) ?_ rfl ⟨_, _, _, _, rfl, ?_, ?_⟩
  · simp [results, Tryd.results17, go_sem, c0, c1, c2, c3, lwD]
  · exact HIN.out
  · exact HBW.out
end Go.Proofs.YtmecohdedghiaaaDoor
namespace Go.Proofs.YtmecohdedghiaaaDoor.Nn
/-- The class of a float's bits. -/
def cls (b : Nat) : Int :=
 if b / 4503599627370496 % 2048 = 2047 then (if b % 4503599627370496 = 0 then 2 else 1)
 else if b / 4503599627370496 % 2048 = 0 then (if b % 4503599627370496 = 0 then 3 else 4) else 5
/-- Has it a minus? -/
def mns (b : Nat) : Bool := decide (9223372036854775808 ≤ b) && cls b != 1
/-- The place in the order. -/
def rnk (b : Nat) : Nat :=
 if cls b = 1 then 18446744073709551615 else if 9223372036854775808 ≤ b then 18446744073709551615 - b else b + 9223372036854775808
theorem andNot_sign (b : Nat) (h : b < 18446744073709551616) : bits .andNot .u64 (b : Int) 9223372036854775808 = ((b % 9223372036854775808 : Nat) : Int) := by
 have e := u64_andNot_nat b 9223372036854775808 h (by omega)
 have e2 : b &&& (18446744073709551615 - 9223372036854775808) = b % 9223372036854775808 := Nat.and_two_pow_sub_one_eq_mod b 63
 rw [e2] at e
 exact e
theorem and_frac (b : Nat) (h : b < 18446744073709551616) : bits .and .u64 (b : Int) 4503599627370495 = ((b % 4503599627370496 : Nat) : Int) := by
 have e := u64_and_nat b 4503599627370495 h (by omega)
 have e2 : b &&& 4503599627370495 = b % 4503599627370496 := Nat.and_two_pow_sub_one_eq_mod b 52
 rw [e2] at e
 exact e
theorem and_exp (b : Nat) (h : b < 18446744073709551616) : bits .and .u64 (b : Int) 2047 = ((b % 2048 : Nat) : Int) := by
 have e := u64_and_nat b 2047 h (by omega)
 have e2 : b &&& 2047 = b % 2048 := Nat.and_two_pow_sub_one_eq_mod b 11
 rw [e2] at e
 exact e
theorem or_hidden (b : Nat) (h : b < 4503599627370496) : bits .or .u64 (b : Int) 4503599627370496 = ((b + 4503599627370496 : Nat) : Int) := by
 have e := u64_or_nat b 4503599627370496 (by omega) (by omega)
 have e2 : 4503599627370496 ||| b = 4503599627370496 + b := nat_join 52 4503599627370496 b (by decide) h
 rw [Nat.or_comm, e2, Nat.add_comm] at e
 exact e
theorem cls_range (b : Nat) : 1 ≤ cls b ∧ cls b ≤ 5 := by unfold cls; (repeat' split) <;> omega
theorem cls_1 (b : Nat) : cls b = 1 ↔ 9218868437227405312 < b % 9223372036854775808 := by
 unfold cls; (repeat' split) <;> omega
theorem cls_2 (b : Nat) : cls b = 2 ↔ b % 9223372036854775808 = 9218868437227405312 := by
 unfold cls; (repeat' split) <;> omega
theorem cls_3 (b : Nat) : cls b = 3 ↔ b % 9223372036854775808 = 0 := by
 unfold cls; (repeat' split) <;> omega
theorem cls_4 (b : Nat) : cls b = 4 ↔ 0 < b % 9223372036854775808 ∧ b % 9223372036854775808 ≤ 4503599627370495 := by
 unfold cls; (repeat' split) <;> omega
theorem cls_5 (b : Nat) : cls b = 5 ↔ 4503599627370495 < b % 9223372036854775808 ∧ b % 9223372036854775808 < 9218868437227405312 := by
 unfold cls; (repeat' split) <;> omega
theorem ret_u {a b : Int} (h : a = b) : Ending.returned (.int .u64 a) = .returned (.int .u64 b) := by rw [h]
theorem ret_i {a b : Int} (h : a = b) : Ending.returned (.int .i64 a) = .returned (.int .i64 b) := by rw [h]
theorem ret_b {a b : Bool} (h : a = b) : Ending.returned (.bool a) = .returned (.bool b) := by rw [h]
end Go.Proofs.YtmecohdedghiaaaDoor.Nn
namespace Go.Proofs.YtmecohdedghiaaaDoor.Nn
theorem ctzFrom_mul : ∀ (f k m : Nat), m % 2 = 1 → k < f → Lib.ctzFrom f (m * 2 ^ k) = k
 | 0, k, m, _, h => by omega
 | f + 1, 0, m, hm, _ => by simp [Lib.ctzFrom, hm]
 | f + 1, k + 1, m, hm, h => by
  have e : m * 2 ^ (k + 1) = 2 * (m * 2 ^ k) := by rw [Nat.pow_succ, Nat.mul_comm (2 ^ k) 2, Nat.mul_left_comm]
  unfold Lib.ctzFrom
  rw [e, if_neg (by omega), Nat.mul_div_cancel_left _ (by decide), ctzFrom_mul f k m hm (by omega)]
  omega
theorem ctz_mul (k m : Nat) (hm : m % 2 = 1) (hk : k < 64) : Lib.ctz 64 (m * 2 ^ k) = k := by
 have h0 : m * 2 ^ k ≠ 0 := by
  have := Nat.two_pow_pos k
  have h1 : 0 < m * 2 ^ k := Nat.mul_pos (by omega) this
  omega
 unfold Lib.ctz
 rw [if_neg h0]
 exact ctzFrom_mul 64 k m hm hk
/-- The mantissa, the power of its last bit. -/
def man (b : Nat) : Nat := if cls b = 5 then b % 4503599627370496 + 4503599627370496 else b % 4503599627370496
def exq (b : Nat) : Int := if cls b = 5 then (b : Int) / 4503599627370496 % 2048 - 1075 else -1074
def tzs (b : Nat) : Nat := Lib.ctz 64 (man b)
def odd (b : Nat) : Nat := man b / 2 ^ tzs b
/-- The parts. -/
def pm (b : Nat) : Int := if cls b < 4 then 0 else if mns b then -(odd b : Int) else odd b
def pe (b : Nat) : Int := if cls b < 4 then 0 else exq b + tzs b
theorem man_bd (b : Nat) (h : 4 ≤ cls b) : 0 < man b ∧ man b < 9007199254740992 := by
 unfold man
 split
 ·omega
 ·have : cls b = 4 := by have := cls_range b; omega
  rw [cls_4] at this
  omega
theorem exq_bd (b : Nat) : -1074 ≤ exq b ∧ exq b ≤ 971 := by
 unfold exq
 split
 ·rename_i h
  rw [cls_5] at h
  omega
 ·omega
/-- The mantissa is its odd part with the power of 2 that is taken out. -/
theorem man_odd (b : Nat) (h : 4 ≤ cls b) : man b = odd b * 2 ^ tzs b ∧ odd b % 2 = 1 ∧ tzs b ≤ 52 ∧ 0 < odd b ∧ odd b < 9007199254740992 := by
 obtain ⟨h0, h1⟩ := man_bd b h
 obtain ⟨m, hm, _⟩ := Lib.ctzFrom_spec 64 (man b) h0 (by omega)
 have e : tzs b = Lib.ctzFrom 64 (man b) := by unfold tzs Lib.ctz; rw [if_neg (by omega)]
 rw [← e] at hm
 have e2 : odd b = 2 * m + 1 := by unfold odd; rw [hm, Nat.mul_comm, Nat.mul_div_cancel _ (Nat.two_pow_pos _)]
 have e3 : man b = odd b * 2 ^ tzs b := by rw [e2, hm, Nat.mul_comm]
 have hle : 2 ^ tzs b ≤ man b := by rw [e3]; exact Nat.le_mul_of_pos_left _ (by omega)
 have hlt : tzs b < 53 := by
  apply Nat.lt_of_not_le
  intro hh
  have : 2 ^ 53 ≤ 2 ^ tzs b := Nat.pow_le_pow_right (by decide) hh
  omega
 have h4 : odd b ≤ man b := by rw [e3]; exact Nat.le_mul_of_pos_right _ (Nat.two_pow_pos _)
 exact ⟨e3, by omega, by omega, by omega, by omega⟩
/-- What a loop that halves comes to. -/
theorem odd_of (b k m : Nat) (h : 4 ≤ cls b) (e : man b = m * 2 ^ k) (hm : m % 2 = 1) : tzs b = k ∧ odd b = m := by
 obtain ⟨_, h1⟩ := man_bd b h
 have hk : k < 64 := by
  apply Nat.lt_of_not_le
  intro hh
  have : 2 ^ 64 ≤ 2 ^ k := Nat.pow_le_pow_right (by decide) hh
  have h3 : 2 ^ k ≤ m * 2 ^ k := Nat.le_mul_of_pos_left _ (by omega)
  omega
 have e1 : tzs b = k := by unfold tzs; rw [e]; exact ctz_mul k m hm hk
 refine ⟨e1, ?_⟩
 unfold odd
 rw [e1, e, Nat.mul_div_cancel _ (Nat.two_pow_pos _)]
theorem half_step (M k m : Nat) (h0 : 0 < M) (hM : M < 9007199254740992) (e : M = m * 2 ^ k) (hm : m % 2 = 0) : M = m / 2 * 2 ^ (k + 1) ∧ k + 1 ≤ 52 ∧ m / 2 < m := by
 have hm0 : m ≠ 0 := by intro h; subst h; simp at e; omega
 have e2 : m = 2 * (m / 2) := by omega
 have e3 : M = m / 2 * 2 ^ (k + 1) := by rw [Nat.pow_succ, Nat.mul_comm (2 ^ k) 2, Nat.mul_left_comm, ← Nat.mul_assoc, ← e2]; exact e
 refine ⟨e3, ?_, by omega⟩
 apply Nat.le_of_not_lt
 intro hh
 have : 2 ^ 53 ≤ 2 ^ (k + 1) := Nat.pow_le_pow_right (by decide) (by omega)
 have h3 : 2 ^ (k + 1) ≤ m / 2 * 2 ^ (k + 1) := Nat.le_mul_of_pos_left _ (by omega)
 omega
end Go.Proofs.YtmecohdedghiaaaDoor.Nn
namespace Go.Proofs.YtmecohdedghiaaaDoor.Nn
/-- Rounded, out of a quotient, a rest and the half. -/
def rndq (q r hf : Nat) : Nat := if hf < r ∨ (r = hf ∧ q % 2 = 1) then q + 1 else q
/-- n / 2^k, rounded. -/
def rnd (n k : Nat) : Nat := rndq (n / 2 ^ k) (n % 2 ^ k) (2 ^ (k - 1))
theorem rndq_le (q r hf : Nat) : q ≤ rndq q r hf ∧ rndq q r hf ≤ q + 1 := by
 unfold rndq
 split <;> omega
/-- The power of the last bit. -/
def lastp (n : Nat) (e : Int) : Int := max (e + Lib.bitLen n - 53) (-1074)
/-- What is kept of the number. -/
def kept (n : Nat) (e : Int) : Nat := if lastp n e ≤ e then n * 2 ^ (e - lastp n e).toNat else rnd n (lastp n e - e).toNat
def infB : Nat := 9218868437227405312
/-- The bits of the float that is nearest to n * 2^e. -/
def mkBits (n : Nat) (e : Int) : Nat :=
 if n = 0 ∨ e < -1138 then 0 else if 1023 < e then infB else min ((lastp n e + 1074).toNat * 4503599627370496 + kept n e) infB
theorem pow_mono {a b : Nat} (h : a ≤ b) : 2 ^ a ≤ 2 ^ b := Nat.pow_le_pow_right (by decide) h
end Go.Proofs.YtmecohdedghiaaaDoor.Nn
namespace Go.Proofs.YtmecohdedghiaaaDoor.Nn
/-- Does one stand ahead of another? -/
def ahd (a b : Nat) : Bool := decide (rnk a < rnk b)
def sam (a b : Nat) : Bool := decide (rnk a = rnk b)
/-- The first, the last, how many: one float more. -/
def endStep (s : Nat × Nat × Nat) (f : Nat) : Nat × Nat × Nat :=
 if cls f = 1 then s else (if s.2.2 = 0 ∨ ahd f s.1 = true then f else s.1, if s.2.2 = 0 ∨ ahd s.2.1 f = true then f else s.2.1, s.2.2 + 1)
def ends (l : List Nat) : Nat × Nat × Nat := l.foldl endStep (0, 0, 0)
end Go.Proofs.YtmecohdedghiaaaDoor.Nn
namespace Go.Proofs.YtmecohdedghiaaaDoor.Nn
/-- The whole number next to p * 2^e; 2^40 + 1 for all that is above 2^40, where e is no minus. -/
def near (p : Nat) (e : Int) : Nat :=
 if e < -63 then 0 else if e < 0 then rnd p (-e).toNat else if 1099511627776 / 2 ^ e.toNat < p then 1099511627777 else p * 2 ^ e.toNat
def nanoOf (b : Nat) : Nat := near (odd b * 1000) (pe b)
/-- The error, the volume. -/
def ofE (b : Nat) : Int :=
 if cls b = 1 then 20 else if cls b = 2 then 21 else if cls b = 3 then 0 else if mns b = true then 22 else if 1099511627776 < nanoOf b then 4 else 0
def ofV (b : Nat) : Nat := if 4 ≤ cls b ∧ ofE b = 0 then nanoOf b else 0
theorem quo_lt (p k : Nat) : 1099511627776 / 2 ^ k < p ↔ 1099511627776 < p * 2 ^ k := by
 rw [Nat.div_lt_iff_lt_mul (Nat.two_pow_pos _)]
theorem near_neg (p : Nat) (e : Int) (h : e < 0) (hp : p < 9223372036854775808) : near p e ≤ 9223372036854775807 := by
 unfold near
 split
 ·omega
 ·have := (rndq_le (p / 2 ^ (-e).toNat) (p % 2 ^ (-e).toNat) (2 ^ ((-e).toNat - 1))).2
  have h6 : p / 2 ^ (-e).toNat ≤ p / 2 := by
   apply Nat.div_le_div_left _ (by decide)
   have := pow_mono (a := 1) (b := (-e).toNat) (by omega)
   omega
  unfold rnd
  omega
theorem near_far (p : Nat) (e : Int) (h : 0 ≤ e) : near p e ≤ 1099511627777 := by
 unfold near
 rw [if_neg (by omega), if_neg (by omega)]
 split
 ·omega
 ·rename_i hh
  rw [quo_lt] at hh
  omega
theorem near_lt (p : Nat) (e : Int) (hp : p < 9223372036854775808) : near p e ≤ 9223372036854775807 := by
 by_cases h : e < 0
 ·exact near_neg p e h hp
 ·have := near_far p e (by omega)
  omega
/-- At 2^-64 a number below 2^63 is less than a half. -/
theorem rnd_64 (p : Nat) (hp : p < 9223372036854775808) : rnd p 64 = 0 := by
 unfold rnd rndq
 have h1 : p / 2 ^ 64 = 0 := by omega
 have h2 : p % 2 ^ 64 = p := by omega
 have h3 : 2 ^ (64 - 1) = 9223372036854775808 := rfl
 rw [h1, h2, h3, if_neg (by omega)]
theorem near_rnd (p : Nat) (e : Int) (h : e < 0) (h1 : -64 ≤ e) (hp : p < 9223372036854775808) : rnd p (-e).toNat = near p e := by
 unfold near
 by_cases hh : e < -63
 ·obtain rfl : e = -64 := by omega
  rw [if_pos hh]
  exact rnd_64 p hp
 ·rw [if_neg hh, if_pos h]
/-- What the reference's doubling comes to. -/
theorem near_dbl (p i : Nat) (e : Int) (h : 0 ≤ e) (hi : (i : Int) ≤ e) (hd : (i : Int) = e ∨ 1099511627776 < p * 2 ^ i) : (1099511627776 < p * 2 ^ i ↔ 1099511627776 < near p e) ∧ (p * 2 ^ i ≤ 1099511627776 → near p e = p * 2 ^ i) := by
 have hk : ∃ k, e.toNat = i + k := ⟨e.toNat - i, by omega⟩
 obtain ⟨k, hk⟩ := hk
 have hm : p * 2 ^ i ≤ p * 2 ^ e.toNat := Nat.mul_le_mul_left _ (pow_mono (by omega))
 unfold near
 rw [if_neg (by omega), if_neg (by omega)]
 rcases hd with hd | hd
 ·have e1 : e.toNat = i := by omega
  rw [e1]
  split
  ·rename_i hh
   rw [quo_lt] at hh
   exact ⟨by omega, by omega⟩
  ·rename_i hh
   rw [quo_lt] at hh
   exact ⟨by omega, by omega⟩
 ·have hh : 1099511627776 / 2 ^ e.toNat < p := by rw [quo_lt]; omega
  rw [if_pos hh]
  exact ⟨by omega, by omega⟩
theorem dbl (p i : Nat) : p * 2 ^ (i + 1) = 2 * (p * 2 ^ i) := by rw [Nat.pow_succ, Nat.mul_comm (2 ^ i) 2, Nat.mul_left_comm]
end Go.Proofs.YtmecohdedghiaaaDoor.Nn
namespace Go.Proofs.YtmecohdedghiaaaDoor.Nn
open Go.RowKit
theorem run_bits (b : Nat) (w : World) : (callFunc 52 #[.float .f64 b]).run Tryd.prog w = .ok (.value (.int .u64 b)) w := by
 rw [run_callFunc_extern Tryd.func52 (by kernel_rfl) (by kernel_rfl) (by kernel_rfl) (e := Extern.MathFloatBits.float64bits) (by kernel_rfl)]
 rfl
theorem run_frombits (b : Int) (w : World) : (callFunc 20 #[.int .u64 b]).run Tryd.prog w = .ok (.value (.float .f64 b.toNat)) w := by
 rw [run_callFunc_extern Tryd.func20 (by kernel_rfl) (by kernel_rfl) (by kernel_rfl) (e := Extern.MathFloatBits.float64frombits) (by kernel_rfl)]
 rfl
theorem bits_any (b : Nat) (w : World) : Calls Tryd.prog 95 #[.float .f64 b] w fun e w' => e = .returned (.int .u64 b) ∧ w = w' := by
 have hb := fun b => run_bits b
 go_enter Tryd.func95, Tryd.ntmps95
 go_wp2
 go_ret
 exact ⟨rfl, rfl⟩
set_option maxRecDepth 100000 in
set_option maxHeartbeats 400000 in
theorem class_any (b : Nat) (h : b < 18446744073709551616) (w : World) : Calls Tryd.prog 34 #[.float .f64 b] w fun e w' => e = .returned (.int .i64 (cls b)) ∧ w = w' := by
 have hb := fun b => run_bits b
 go_enter Tryd.func34, Tryd.ntmps34
 go_wp2
 all_goals
  go_ret
  refine ⟨ret_i ?_, rfl⟩
  have e := andNot_sign b h
  simp only [e, beq_iff_eq, beq_eq_false_iff_ne] at *
  clear e hb
  first
   | exact ((cls_1 b).2 (by omega)).symm
   | exact ((cls_2 b).2 (by omega)).symm
   | exact ((cls_3 b).2 (by omega)).symm
   | exact ((cls_4 b).2 (by omega)).symm
   | exact ((cls_5 b).2 (by omega)).symm
set_option maxRecDepth 100000 in
set_option maxHeartbeats 400000 in
theorem rclass_any (b : Nat) (w : World) : Calls Tryd.prog 38 #[.int .u64 b] w fun e w' => e = .returned (.int .i64 (cls b)) ∧ w = w' := by
 go_enter Tryd.func38, Tryd.ntmps38
 go_wp2
 all_goals
  go_ret
  refine ⟨ret_i ?_, rfl⟩
  simp only [beq_iff_eq, beq_eq_false_iff_ne, bne_iff_ne, bne_eq_false_iff_eq] at *
  first
   | exact ((cls_1 b).2 (by omega)).symm
   | exact ((cls_2 b).2 (by omega)).symm
   | exact ((cls_3 b).2 (by omega)).symm
   | exact ((cls_4 b).2 (by omega)).symm
   | exact ((cls_5 b).2 (by omega)).symm
set_option maxRecDepth 100000 in
set_option maxHeartbeats 400000 in
theorem minus_any (b : Nat) (h : b < 18446744073709551616) (w : World) : Calls Tryd.prog 35 #[.float .f64 b] w fun e w' => e = .returned (.bool (mns b)) ∧ w = w' := by
 have hb := fun b => run_bits b
 go_enter Tryd.func35, Tryd.ntmps35
 go_wp2_with (go_at_call 34; refine (class_any _ h _).mono ?_; rintro e w' ⟨rfl, rfl⟩)
 all_goals
  go_ret
  refine ⟨ret_b ?_, rfl⟩
  unfold mns
 ·rw [decide_eq_true (by omega), Bool.true_and]
 ·rw [decide_eq_false (by omega), Bool.false_and]
end Go.Proofs.YtmecohdedghiaaaDoor.Nn
namespace Go.Proofs.YtmecohdedghiaaaDoor.Nn
open Go.RowKit
/-- The library's table, as its initialiser lays it. -/
def Tab (w : World) : Prop := ∀ j, j < 64 → w.cell? ⟨1, j, none⟩ = some (.int .u8 (Lib.deBruijn64tab.getD j 0))
set_option maxRecDepth 100000 in
set_option maxHeartbeats 1000000 in
theorem tz64_some (x k idx : Nat) (w : World) (hx0 : ((x : Int) == 0) = false)
  (key : IntKind.u64.wrap (bits BinOp.and IntKind.u64 (x : Int) (IntKind.u64.wrap (-(x : Int))) * 285870213051353865) / 288230376151711744 = (idx : Int))
  (hi : idx < 64) (hk : k < 64) (hcell : w.cell? ⟨1, idx, none⟩ = some (.int .u8 k)) :
  Calls Tryd.prog 53 #[.int .u64 x] w fun e w' => e = .returned (.int .i64 k) ∧ w = w' := by
 go_enter Tryd.func53, Tryd.ntmps53
 go_wp2_with (simp only [key])
 go_ret
 exact ⟨rfl, rfl⟩
theorem tz64_any (x : Nat) (hx : x < 18446744073709551616) (hx0 : x ≠ 0) (w : World) (hT : Tab w) :
  Calls Tryd.prog 53 #[.int .u64 x] w fun e w' => e = .returned (.int .i64 (Lib.ctz 64 x)) ∧ w = w' := by
 obtain ⟨hlow, hk⟩ := Lib.lowest_bit 64 x hx0 hx
 obtain ⟨hi, htab⟩ := Lib.deBruijn64_at _ hk
 have hcell := hT _ hi
 rw [htab] at hcell
 exact tz64_some x _ _ w (by simp; omega) (tz64_key x _ hx hx0 hlow) hi hk hcell
theorem ret_ii {a b c d : Int} (h : a = c) (k : b = d) : Ending.returned (.tuple #[.int .i64 a, .int .i64 b]) = .returned (.tuple #[.int .i64 c, .int .i64 d]) := by rw [h, k]
theorem num_i {a b : Int} (h : a = b) : Value.int .i64 a = .int .i64 b := by rw [h]
theorem man_5 (b : Nat) (h : (cls b == 5) = true) : (b : Int) % 4503599627370496 + 4503599627370496 = (man b : Nat) := by
 rw [beq_iff_eq] at h
 unfold man
 rw [if_pos h]
 omega
theorem man_4 (b : Nat) (h : (cls b == 5) = false) : (b : Int) % 4503599627370496 = (man b : Nat) := by
 rw [beq_eq_false_iff_ne] at h
 unfold man
 rw [if_neg h]
 omega
theorem exq_5 (b : Nat) (h : (cls b == 5) = true) : (b : Int) / 4503599627370496 % 2048 - 1075 = exq b := by
 rw [beq_iff_eq] at h
 unfold exq
 rw [if_pos h]
theorem exq_4 (b : Nat) (h : (cls b == 5) = false) : -1074 = exq b := by
 rw [beq_eq_false_iff_ne] at h
 unfold exq
 rw [if_neg h]
theorem mns_of (b : Nat) (h4 : 4 ≤ cls b) : mns b = decide (9223372036854775808 ≤ b) := by
 have e : (cls b != 1) = true := by rw [bne_iff_ne]; omega
 unfold mns
 rw [e, Bool.and_true]
/-- The parts' end, out of what the loop has come to. -/
theorem pm_of (b m k : Nat) (h4 : 4 ≤ cls b) (e : man b = m * 2 ^ k) (hm : m % 2 = 1) : pm b = (if 9223372036854775808 ≤ b then -(m : Int) else m) ∧ pe b = exq b + k := by
 obtain ⟨e1, e2⟩ := odd_of b k m h4 e hm
 have hn : ¬ cls b < 4 := by omega
 unfold pm pe
 simp only [if_neg hn, mns_of b h4, e1, e2, decide_eq_true_eq, and_self]
set_option maxRecDepth 100000 in
set_option maxHeartbeats 400000 in
theorem rparts_low (b : Nat) (hlow : cls b < 4) (w : World) : Calls Tryd.prog 39 #[.int .u64 b] w fun e w' => e = .returned (.tuple #[.int .i64 (pm b), .int .i64 (pe b)]) ∧ w = w' := by
 go_enter Tryd.func39, Tryd.ntmps39
 go_wp2_with (go_at_call 38; refine (rclass_any _ _).mono ?_; rintro e w' ⟨rfl, rfl⟩)
 go_ret2
 refine ⟨ret_ii ?_ ?_, rfl⟩
 ·unfold pm; rw [if_pos hlow]
 ·unfold pe; rw [if_pos hlow]
set_option maxRecDepth 100000 in
set_option maxHeartbeats 1000000 in
theorem rparts_high (b : Nat) (h : b < 18446744073709551616) (h4 : 4 ≤ cls b) (w : World) : Calls Tryd.prog 39 #[.int .u64 b] w fun e w' => e = .returned (.tuple #[.int .i64 (pm b), .int .i64 (pe b)]) ∧ w = w' := by
 have hm := man_bd b h4
 have hx := exq_bd b
 have m5 := man_5 b
 have m4 := man_4 b
 have x5 := exq_5 b
 have x4 := exq_4 b
 have M5 := Lib.hid m5
 have M4 := Lib.hid m4
 have X5 := Lib.hid x5
 have X4 := Lib.hid x4
 clear m5 m4 x5 x4
 by_cases h5 : (cls b == 5) = true
 ·go_enter Tryd.func39, Tryd.ntmps39
  go_wp2_with (go_at_call 38; refine (rclass_any _ _).mono ?_; rintro e w' ⟨rfl, rfl⟩)
  go_loop [5, 6] (fun m e => ∃ (m' k : Nat), man b = m' * 2 ^ k ∧ k ≤ 52 ∧ m' < 9007199254740992 ∧ m = .int .i64 m' ∧ e = .int .i64 (exq b + k)) (fun m _ => (intOf m).toNat)
  case atStart => exact ⟨man b, 0, by simp, by omega, by omega, num_i (M5.out h5), num_i (by rw [X5.out h5]; simp)⟩
  case round =>
   obtain ⟨m', k, he, hk, hm', rfl, rfl⟩ := hrel
   have HE := Lib.hid he
   clear he
   go_wp2
   ·go_round
    case rel =>
     obtain ⟨e1, e2, e3⟩ := half_step (man b) k m' (by omega) (by omega) HE.out (by simp only [beq_iff_eq] at *; omega)
     exact ⟨m' / 2, k + 1, e1, e2, by omega, num_i (by omega), num_i (by omega)⟩
    case measure =>
     obtain ⟨e1, e2, e3⟩ := half_step (man b) k m' (by omega) (by omega) HE.out (by simp only [beq_iff_eq] at *; omega)
     simp [intOf]; omega
   ·go_ret2
    simp only [beq_iff_eq, beq_eq_false_iff_ne] at *
    obtain ⟨e1, e2⟩ := pm_of b m' k h4 HE.out (by omega)
    exact ⟨ret_ii (by rw [e1, if_pos (by omega)]) e2.symm, by trivial⟩
   ·go_ret2
    simp only [beq_iff_eq, beq_eq_false_iff_ne] at *
    obtain ⟨e1, e2⟩ := pm_of b m' k h4 HE.out (by omega)
    exact ⟨ret_ii (by rw [e1, if_neg (by omega)]) e2.symm, by trivial⟩
 ·have h5' : (cls b == 5) = false := by simpa using h5
  clear h5
  go_enter Tryd.func39, Tryd.ntmps39
  go_wp2_with (go_at_call 38; refine (rclass_any _ _).mono ?_; rintro e w' ⟨rfl, rfl⟩)
  go_loop [5, 6] (fun m e => ∃ (m' k : Nat), man b = m' * 2 ^ k ∧ k ≤ 52 ∧ m' < 9007199254740992 ∧ m = .int .i64 m' ∧ e = .int .i64 (exq b + k)) (fun m _ => (intOf m).toNat)
  case atStart => exact ⟨man b, 0, by simp, by omega, by omega, num_i (M4.out h5'), num_i (by rw [X4.out h5']; simp)⟩
  case round =>
   obtain ⟨m', k, he, hk, hm', rfl, rfl⟩ := hrel
   have HE := Lib.hid he
   clear he
   go_wp2
   ·go_round
    case rel =>
     obtain ⟨e1, e2, e3⟩ := half_step (man b) k m' (by omega) (by omega) HE.out (by simp only [beq_iff_eq] at *; omega)
     exact ⟨m' / 2, k + 1, e1, e2, by omega, num_i (by omega), num_i (by omega)⟩
    case measure =>
     obtain ⟨e1, e2, e3⟩ := half_step (man b) k m' (by omega) (by omega) HE.out (by simp only [beq_iff_eq] at *; omega)
     simp [intOf]; omega
   ·go_ret2
    simp only [beq_iff_eq, beq_eq_false_iff_ne] at *
    obtain ⟨e1, e2⟩ := pm_of b m' k h4 HE.out (by omega)
    exact ⟨ret_ii (by rw [e1, if_pos (by omega)]) e2.symm, by trivial⟩
   ·go_ret2
    simp only [beq_iff_eq, beq_eq_false_iff_ne] at *
    obtain ⟨e1, e2⟩ := pm_of b m' k h4 HE.out (by omega)
    exact ⟨ret_ii (by rw [e1, if_neg (by omega)]) e2.symm, by trivial⟩
theorem rparts_any (b : Nat) (h : b < 18446744073709551616) (w : World) : Calls Tryd.prog 39 #[.int .u64 b] w fun e w' => e = .returned (.tuple #[.int .i64 (pm b), .int .i64 (pe b)]) ∧ w = w' := by
 by_cases h4 : 4 ≤ cls b
 ·exact rparts_high b h h4 w
 ·exact rparts_low b (by omega) w
set_option maxRecDepth 100000 in
set_option maxHeartbeats 400000 in
theorem parts_low (b : Nat) (h : b < 18446744073709551616) (hlow : cls b < 4) (w : World) : Calls Tryd.prog 36 #[.float .f64 b] w fun e w' => e = .returned (.tuple #[.int .i64 (pm b), .int .i64 (pe b)]) ∧ w = w' := by
 have hb := fun b => run_bits b
 go_enter Tryd.func36, Tryd.ntmps36
 go_wp2_with (go_at_call 34; refine (class_any _ h _).mono ?_; rintro e w' ⟨rfl, rfl⟩)
 go_ret2
 refine ⟨ret_ii ?_ ?_, rfl⟩
 ·unfold pm; rw [if_pos hlow]
 ·unfold pe; rw [if_pos hlow]
/-- The fraction's bits, the exponent's. -/
def frc (b : Nat) : Nat := b % 4503599627370496
def xpt (b : Nat) : Int := (b : Int) / 4503599627370496 % 2048
theorem tz_man (b : Nat) (h4 : 4 ≤ cls b) (w : World) (hT : Tab w) : Calls Tryd.prog 53 #[.int .u64 (man b)] w fun e w' => e = .returned (.int .i64 (tzs b)) ∧ w = w' := by
 have hm := man_bd b h4
 exact tz64_any (man b) (by omega) (by omega) w hT
theorem odd_quo (b : Nat) (h4 : 4 ≤ cls b) : wrap64 ((man b : Int) / 2 ^ tzs b) = (odd b : Int) := by
 obtain ⟨_, _, _, _, h5⟩ := man_odd b h4
 have e : ((man b : Int) / 2 ^ tzs b) = (odd b : Int) := by
  unfold odd
  rw [Int.natCast_ediv, Int.natCast_pow]
  rfl
 rw [e]
 exact IntWalk.wrap64_in _ ⟨by omega, by omega⟩
theorem pm_pos (b : Nat) (h4 : 4 ≤ cls b) (hm : mns b = false) : wrap64 ((man b : Int) / 2 ^ tzs b) = pm b := by
 rw [odd_quo b h4]
 unfold pm
 rw [if_neg (by omega), hm]
 rfl
theorem pm_neg (b : Nat) (h4 : 4 ≤ cls b) (hm : mns b = true) : wrap64 (-wrap64 ((man b : Int) / 2 ^ tzs b)) = pm b := by
 obtain ⟨_, _, _, _, h5⟩ := man_odd b h4
 rw [odd_quo b h4]
 unfold pm
 rw [if_neg (by omega), hm, if_pos rfl]
 exact IntWalk.wrap64_in _ ⟨by omega, by omega⟩
theorem pe_high (b : Nat) (h4 : 4 ≤ cls b) : pe b = exq b + tzs b := by
 unfold pe
 rw [if_neg (by omega)]
set_option maxRecDepth 100000 in
set_option maxHeartbeats 1000000 in
theorem parts_5 (b : Nat) (h : b < 18446744073709551616) (h5 : (cls b == 5) = true) (w : World) (hT : Tab w) : Calls Tryd.prog 36 #[.float .f64 b] w fun e w' => e = .returned (.tuple #[.int .i64 (pm b), .int .i64 (pe b)]) ∧ w = w' := by
 have hb := fun b => run_bits b
 have h4 : 4 ≤ cls b := by rw [beq_iff_eq] at h5; omega
 have f1 : bits .and .u64 (b : Int) 4503599627370495 = (frc b : Nat) := and_frac b h
 have f2 : bits .or .u64 (frc b : Int) 4503599627370496 = (man b : Nat) := by
  rw [or_hidden _ (by unfold frc; omega)]
  have := man_5 b h5
  unfold frc
  omega
 have f3 : bits .and .u64 ((b : Int) / 4503599627370496) 2047 = xpt b := by
  have := and_exp (b / 4503599627370496) (by omega)
  unfold xpt
  rw [show ((b : Int) / 4503599627370496) = ((b / 4503599627370496 : Nat) : Int) from by omega, this]
  omega
 have x0 : 0 ≤ xpt b := by unfold xpt; omega
 have x1 : xpt b ≤ 2047 := by unfold xpt; omega
 have hm := man_bd b h4
 have hz := (man_odd b h4).2.2.1
 go_enter Tryd.func36, Tryd.ntmps36
 go_wp2_with (first | (go_at_call 34; refine (class_any _ h _).mono ?_; rintro e w' ⟨rfl, rfl⟩) | (go_at_call 53; refine (tz_man b h4 _ hT).mono ?_; rintro e w' ⟨rfl, rfl⟩) | (go_at_call 35; refine (minus_any _ h _).mono ?_; rintro e w' ⟨rfl, rfl⟩))
 all_goals go_ret2
 ·exact ⟨ret_ii (pm_neg b h4 (by assumption)) (by rw [pe_high b h4, ← exq_5 b h5]; unfold xpt; omega), by trivial⟩
 ·exact ⟨ret_ii (pm_pos b h4 (by assumption)) (by rw [pe_high b h4, ← exq_5 b h5]; unfold xpt; omega), by trivial⟩
set_option maxRecDepth 100000 in
set_option maxHeartbeats 1000000 in
theorem parts_4 (b : Nat) (h : b < 18446744073709551616) (hc4 : (cls b == 4) = true) (w : World) (hT : Tab w) : Calls Tryd.prog 36 #[.float .f64 b] w fun e w' => e = .returned (.tuple #[.int .i64 (pm b), .int .i64 (pe b)]) ∧ w = w' := by
 have hb := fun b => run_bits b
 have h4 : 4 ≤ cls b := by rw [beq_iff_eq] at hc4; omega
 have h5 : (cls b == 5) = false := by rw [beq_iff_eq] at hc4; rw [beq_eq_false_iff_ne]; omega
 have f1 : bits .and .u64 (b : Int) 4503599627370495 = (man b : Nat) := by
  rw [and_frac b h]
  have := man_4 b h5
  omega
 have hm := man_bd b h4
 have hz := (man_odd b h4).2.2.1
 go_enter Tryd.func36, Tryd.ntmps36
 go_wp2_with (first | (go_at_call 34; refine (class_any _ h _).mono ?_; rintro e w' ⟨rfl, rfl⟩) | (go_at_call 53; refine (tz_man b h4 _ hT).mono ?_; rintro e w' ⟨rfl, rfl⟩) | (go_at_call 35; refine (minus_any _ h _).mono ?_; rintro e w' ⟨rfl, rfl⟩))
 all_goals go_ret2
 ·exact ⟨ret_ii (pm_neg b h4 (by assumption)) (by rw [pe_high b h4, ← exq_4 b h5]), by trivial⟩
 ·exact ⟨ret_ii (pm_pos b h4 (by assumption)) (by rw [pe_high b h4, ← exq_4 b h5]), by trivial⟩
theorem parts_any (b : Nat) (h : b < 18446744073709551616) (w : World) (hT : Tab w) : Calls Tryd.prog 36 #[.float .f64 b] w fun e w' => e = .returned (.tuple #[.int .i64 (pm b), .int .i64 (pe b)]) ∧ w = w' := by
 have hr := cls_range b
 by_cases h4 : cls b < 4
 ·exact parts_low b h h4 w
 ·by_cases h5 : cls b = 5
  ·exact parts_5 b h (by rw [h5]; rfl) w hT
  ·exact parts_4 b h (by rw [beq_iff_eq]; omega) w hT
end Go.Proofs.YtmecohdedghiaaaDoor.Nn
namespace Go.Proofs.YtmecohdedghiaaaDoor.Nn
open Go.RowKit
/-- A sign on bits. -/
def sgn (m : Int) (b : Nat) : Nat := if m < 0 then b + 9223372036854775808 else b
/-- What the shifts of a rounding come to. -/
theorem shift_facts (n k : Nat) (h : n < 18446744073709551616) (k1 : 1 ≤ k) (k2 : k ≤ 64) :
  (n : Int) / 2 ^ k = (n / 2 ^ k : Nat) ∧ IntKind.u64.wrap ((n : Int) - IntKind.u64.wrap (((n / 2 ^ k : Nat) : Int) * 2 ^ k)) = (n % 2 ^ k : Nat) ∧ IntKind.u64.wrap ((2 : Int) ^ (k - 1)) = (2 ^ (k - 1) : Nat) ∧ n / 2 ^ k ≤ 9223372036854775807 := by
 have e0 : (n : Int) / 2 ^ k = (n / 2 ^ k : Nat) := by rw [Int.natCast_ediv, Int.natCast_pow]; rfl
 have e1 : (((n / 2 ^ k : Nat) : Int) * 2 ^ k) = ((n / 2 ^ k * 2 ^ k : Nat) : Int) := by rw [Int.natCast_mul, Int.natCast_pow]; rfl
 have e2 := Nat.div_add_mod n (2 ^ k)
 rw [Nat.mul_comm] at e2
 have e3 : n / 2 ^ k * 2 ^ k ≤ n := by omega
 have e4 : ((2 : Int) ^ (k - 1)) = ((2 ^ (k - 1) : Nat) : Int) := by rw [Int.natCast_pow]; rfl
 have e5 : 2 ^ (k - 1) ≤ 2 ^ 63 := pow_mono (by omega)
 have e6 : n / 2 ^ k ≤ n / 2 := by
  apply Nat.div_le_div_left _ (by decide)
  have := pow_mono k1
  omega
 refine ⟨e0, ?_, ?_, by omega⟩
 ·rw [e1, IntKind.wrap_u64, IntKind.wrap_u64]
  generalize n / 2 ^ k * 2 ^ k = Q at *
  generalize n % 2 ^ k = R at *
  clear e0 e1 e4 e5 e6
  omega
 ·rw [e4, IntKind.wrap_u64]
  generalize 2 ^ (k - 1) = P at *
  clear e0 e1 e2 e3 e4 e6
  omega
set_option maxRecDepth 100000 in
set_option maxHeartbeats 1000000 in
theorem nshort_any (n k : Nat) (h : n < 9223372036854775808) (k1 : 1 ≤ k) (k2 : k ≤ 64) (w : World) : Calls Tryd.prog 54 #[.int .u64 n, .int .i64 k] w fun e w' => e = .returned (.int .i64 (rnd n k)) ∧ ∃ d, w' = w.drewN d := by
 obtain ⟨f1, f2, f3, f4⟩ := shift_facts n k (by omega) k1 k2
 have f5 : n / 2 ^ k ≤ 4611686018427387904 := by
  have e6 : n / 2 ^ k ≤ n / 2 := by
   apply Nat.div_le_div_left _ (by decide)
   have := pow_mono k1
   omega
  omega
 have hf : rnd n k = rndq (n / 2 ^ k) (n % 2 ^ k) (2 ^ (k - 1)) := rfl
 generalize n / 2 ^ k = q at *
 generalize n % 2 ^ k = r at *
 generalize 2 ^ (k - 1) = p at *
 have HF := Lib.hid hf
 clear hf
 go_enter Tryd.func54, Tryd.ntmps54
 go_wp2_with (fail)
 go_quiet (fail)
 go_wp2
 all_goals
  go_ret
  simp only [beq_iff_eq, beq_eq_false_iff_ne] at *
  refine ⟨ret_i ?_, _, rfl⟩
  rw [HF.out]
  unfold rndq
  split <;> omega
theorem quo_facts (n k : Nat) (k2 : k ≤ 63) : (n : Int) / 2 ^ k = (n / 2 ^ k : Nat) ∧ IntKind.u64.wrap ((2 : Int) ^ k) = (2 ^ k : Nat) ∧ 1 ≤ 2 ^ k := by
 have e4 : ((2 : Int) ^ k) = ((2 ^ k : Nat) : Int) := by rw [Int.natCast_pow]; rfl
 have e5 : 2 ^ k ≤ 2 ^ 63 := pow_mono k2
 refine ⟨by rw [Int.natCast_ediv, Int.natCast_pow]; rfl, ?_, Nat.two_pow_pos _⟩
 rw [e4, IntKind.wrap_u64]
 generalize 2 ^ k = P at *
 clear e4
 omega
set_option maxRecDepth 100000 in
set_option maxHeartbeats 1000000 in
theorem round_any (n k : Nat) (h : n < 18446744073709551616) (k1 : 1 ≤ k) (k2 : k ≤ 64) (w : World) : Calls Tryd.prog 40 #[.int .u64 n, .int .i64 k] w fun e w' => e = .returned (.int .u64 (rnd n k)) ∧ ∃ d, w' = w.drewN d := by
 obtain ⟨f1, f2, f3, f4⟩ := shift_facts n k h k1 k2
 have hf : rnd n k = rndq (n / 2 ^ k) (n % 2 ^ k) (2 ^ (k - 1)) := rfl
 by_cases hk : k = 64
 ·subst hk
  have e1 : n / 2 ^ 64 = 0 := by omega
  have e2 : n % 2 ^ 64 = n := by omega
  rw [e1, e2] at hf
  have f3' : IntKind.u64.wrap (9223372036854775808 : Int) = (2 ^ 63 : Nat) := by rw [IntKind.wrap_u64]; decide
  have HF := Lib.hid hf
  clear hf f1 f2 f3 f4 e1 e2
  go_enter Tryd.func40, Tryd.ntmps40
  go_wp2
  all_goals
   go_ret
   refine ⟨ret_u ?_, 0, rfl⟩
   rw [HF.out]
   unfold rndq
   split <;> omega
 ·have g2 := (quo_facts n k (by omega)).2.1
  have g3 := (quo_facts n k (by omega)).2.2
  have g4 : (n : Int) % ((2 ^ k : Nat) : Int) = ((n % 2 ^ k : Nat) : Int) := (Int.natCast_emod _ _).symm
  have hc : decide ((k : Int) < 64) = true := by simp; omega
  generalize n / 2 ^ k = q at *
  generalize n % 2 ^ k = r at *
  generalize 2 ^ (k - 1) = p at *
  generalize 2 ^ k = P at *
  have HF := Lib.hid hf
  clear hf
  go_enter Tryd.func40, Tryd.ntmps40
  go_wp2_with (fail)
  go_quiet (fail)
  go_wp2
  all_goals
   go_ret
   simp only [beq_iff_eq, beq_eq_false_iff_ne] at *
   refine ⟨ret_u ?_, _, rfl⟩
   rw [HF.out]
   unfold rndq
   split <;> omega
end Go.Proofs.YtmecohdedghiaaaDoor.Nn
namespace Go.Proofs.YtmecohdedghiaaaDoor.Nn
open Go.RowKit
/-- The bits that Make gives. -/
def mk (m e : Int) : Nat := sgn m (mkBits m.natAbs e)
end Go.Proofs.YtmecohdedghiaaaDoor.Nn
namespace Go.Proofs.YtmecohdedghiaaaDoor.Nn
open Go.RowKit
/-- A sign on bits, as the reference adds it. -/
def sgnI (m b : Int) : Int := if m < 0 then b + 9223372036854775808 else b
end Go.Proofs.YtmecohdedghiaaaDoor.Nn
namespace Go.Proofs.YtmecohdedghiaaaDoor.Nn
open Go.RowKit
set_option maxRecDepth 100000 in
set_option maxHeartbeats 400000 in
theorem nearest_neg (p : Nat) (e : Int) (hp : p < 9223372036854775808) (he : -63 ≤ e) (h1 : e < 0) (w : World) : Calls Tryd.prog 37 #[.int .i64 p, .int .i64 e] w fun e' w' => e' = .returned (.int .i64 (near p e)) ∧ ∃ d, w' = w.drewN d := by
 have hs : ∀ (w : World), Calls Tryd.prog 54 #[.int .u64 p, .int .i64 (-e)] w fun e' w' => e' = .returned (.int .i64 (near p e)) ∧ ∃ d, w' = w.drewN d := fun w => by
  have h := nshort_any p (-e).toNat hp (by omega) (by omega) w
  rw [near_rnd p e h1 (by omega) hp, show (((-e).toNat : Nat) : Int) = -e from by omega] at h
  exact h
 have HS := Lib.hid hs
 clear hs
 go_enter Tryd.func37, Tryd.ntmps37
 go_wp2_with (go_at_call 54; refine (HS.out _).mono ?_; rintro e' w' ⟨rfl, d, rfl⟩)
 go_ret
 exact ⟨rfl, _, rfl⟩
set_option maxRecDepth 100000 in
set_option maxHeartbeats 400000 in
theorem nearest_low (p : Nat) (e : Int) (he : e < -63) (w : World) : Calls Tryd.prog 37 #[.int .i64 p, .int .i64 e] w fun e' w' => e' = .returned (.int .i64 (near p e)) ∧ ∃ d, w' = w.drewN d := by
 have hn : near p e = 0 := by unfold near; rw [if_pos he]
 rw [hn]
 clear hn
 go_enter Tryd.func37, Tryd.ntmps37
 go_wp2
 go_ret
 exact ⟨rfl, 0, rfl⟩
theorem quo_40 (k : Nat) : (1099511627776 : Int) / 2 ^ min k 64 = (1099511627776 / 2 ^ k : Nat) := by
 have e : ((1099511627776 / 2 ^ min k 64 : Nat) : Int) = (1099511627776 : Int) / 2 ^ min k 64 := by
  rw [Int.natCast_ediv, Int.natCast_pow]
  rfl
 rw [← e]
 by_cases h : k ≤ 64
 ·rw [Nat.min_eq_left h]
 ·have h1 := pow_mono (a := 64) (b := k) (by omega)
  rw [Nat.min_eq_right (by omega), Nat.div_eq_of_lt (a := 1099511627776) (b := 2 ^ k) (by omega)]
set_option maxRecDepth 100000 in
set_option maxHeartbeats 400000 in
theorem nearest_up (p : Nat) (e : Int) (h0 : 0 < p) (hp : p < 9223372036854775808) (he : 0 ≤ e) (h2 : e ≤ 2000) (w : World) : Calls Tryd.prog 37 #[.int .i64 p, .int .i64 e] w fun e' w' => e' = .returned (.int .i64 (near p e)) ∧ ∃ d, w' = w.drewN d := by
 obtain ⟨k, rfl⟩ := Int.eq_ofNat_of_zero_le he
 have hn : near p (k : Int) = if 1099511627776 / 2 ^ k < p then 1099511627777 else p * 2 ^ k := by
  unfold near
  rw [if_neg (by omega), if_neg (by omega), Int.toNat_natCast]
 have hq := quo_40 k
 by_cases hlt : 1099511627776 / 2 ^ k < p
 ·rw [if_pos hlt] at hn
  rw [hn]
  clear hn
  generalize 1099511627776 / 2 ^ k = q at *
  go_enter Tryd.func37, Tryd.ntmps37
  go_wp2
  go_ret
  exact ⟨rfl, 0, rfl⟩
 ·have hk : k ≤ 40 := by
   apply Nat.le_of_not_lt
   intro hh
   have h1 := pow_mono (a := 41) (b := k) (by omega)
   rw [Nat.div_eq_of_lt (by omega)] at hlt
   omega
  have hle : p * 2 ^ k ≤ 1099511627776 := by
   rw [quo_lt] at hlt
   omega
  rw [if_neg hlt] at hn
  rw [hn]
  have hm : min k 64 = k := Nat.min_eq_left (by omega)
  rw [hm] at hq
  have hw : wrap64 ((p : Int) * 2 ^ k) = (p * 2 ^ k : Nat) := by
   have e : (p : Int) * 2 ^ k = ((p * 2 ^ k : Nat) : Int) := by rw [Int.natCast_mul, Int.natCast_pow]; rfl
   rw [e]
   exact IntWalk.wrap64_in _ ⟨by omega, by omega⟩
  clear hn hm
  generalize 1099511627776 / 2 ^ k = q at *
  generalize p * 2 ^ k = r at *
  go_enter Tryd.func37, Tryd.ntmps37
  go_wp2
  go_ret
  exact ⟨ret_i hw, 0, rfl⟩
theorem nearest_any (p : Nat) (e : Int) (h0 : 0 < p) (hp : p < 9223372036854775808) (h2 : e ≤ 2000) (w : World) : Calls Tryd.prog 37 #[.int .i64 p, .int .i64 e] w fun e' w' => e' = .returned (.int .i64 (near p e)) ∧ ∃ d, w' = w.drewN d := by
 by_cases h : e < -63
 ·exact nearest_low p e h w
 ·by_cases h1 : e < 0
  ·exact nearest_neg p e hp (by omega) h1 w
  ·exact nearest_up p e h0 hp (by omega) h2 w
theorem pm_plus (b : Nat) (h4 : 4 ≤ cls b) (hm : mns b = false) : pm b = odd b := by
 unfold pm
 rw [if_neg (by omega), hm]
 rfl
theorem pe_bd (b : Nat) : -1074 ≤ pe b ∧ pe b ≤ 1023 := by
 unfold pe
 have := exq_bd b
 split
 ·omega
 ·have := (man_odd b (by omega)).2.2.1
  omega
theorem ofE_1 (b : Nat) (h : cls b = 1) : ofE b = 20 := by unfold ofE; rw [if_pos h]
theorem ofE_2 (b : Nat) (h : cls b = 2) : ofE b = 21 := by unfold ofE; rw [if_neg (by omega), if_pos h]
theorem ofE_3 (b : Nat) (h : cls b = 3) : ofE b = 0 := by unfold ofE; rw [if_neg (by omega), if_neg (by omega), if_pos h]
theorem ofE_m (b : Nat) (h : 4 ≤ cls b) (hm : mns b = true) : ofE b = 22 := by unfold ofE; rw [if_neg (by omega), if_neg (by omega), if_neg (by omega), if_pos hm]
theorem ofE_p (b : Nat) (h : 4 ≤ cls b) (hm : mns b = false) : ofE b = if 1099511627776 < nanoOf b then 4 else 0 := by unfold ofE; rw [if_neg (by omega), if_neg (by omega), if_neg (by omega), if_neg (by simp [hm])]
theorem ofV_0 (b : Nat) (h : cls b < 4 ∨ ofE b ≠ 0) : ofV b = 0 := by unfold ofV; rw [if_neg (by omega)]
theorem ofV_n (b : Nat) (h : 4 ≤ cls b) (h0 : ofE b = 0) : ofV b = nanoOf b := by unfold ofV; rw [if_pos ⟨h, h0⟩]
set_option maxRecDepth 100000 in
set_option maxHeartbeats 1000000 in
theorem of_low (b : Nat) (h : b < 18446744073709551616) (hlow : cls b < 4) (w : World) : Calls Tryd.prog 19 #[.float .f64 b] w fun e w' => e = .returned (.tuple #[.int .i64 (ofV b), .int .i64 (ofE b)]) ∧ ∃ d, w' = w.drewN d := by
 have hr := cls_range b
 have hv := ofV_0 b (by omega)
 rw [hv]
 have hc : cls b = 1 ∨ cls b = 2 ∨ cls b = 3 := by omega
 clear hv hr
 rcases hc with hc | hc | hc
 ·rw [ofE_1 b hc]
  have H : ∀ w : World, Calls Tryd.prog 34 #[.float .f64 b] w fun e w' => e = .returned (.int .i64 1) ∧ w = w' := fun w => by
   have := class_any b h w
   rw [hc] at this
   exact this
  have H' := Lib.hid H
  clear H hc hlow
  go_enter Tryd.func19, Tryd.ntmps19
  go_wp2_with (go_at_call 34; refine (H'.out _).mono ?_; rintro e w' ⟨rfl, rfl⟩)
  go_ret2
  exact ⟨rfl, 0, rfl⟩
 ·rw [ofE_2 b hc]
  have H : ∀ w : World, Calls Tryd.prog 34 #[.float .f64 b] w fun e w' => e = .returned (.int .i64 2) ∧ w = w' := fun w => by
   have := class_any b h w
   rw [hc] at this
   exact this
  have H' := Lib.hid H
  clear H hc hlow
  go_enter Tryd.func19, Tryd.ntmps19
  go_wp2_with (go_at_call 34; refine (H'.out _).mono ?_; rintro e w' ⟨rfl, rfl⟩)
  go_ret2
  exact ⟨rfl, 0, rfl⟩
 ·rw [ofE_3 b hc]
  have H : ∀ w : World, Calls Tryd.prog 34 #[.float .f64 b] w fun e w' => e = .returned (.int .i64 3) ∧ w = w' := fun w => by
   have := class_any b h w
   rw [hc] at this
   exact this
  have H' := Lib.hid H
  clear H hc hlow
  go_enter Tryd.func19, Tryd.ntmps19
  go_wp2_with (go_at_call 34; refine (H'.out _).mono ?_; rintro e w' ⟨rfl, rfl⟩)
  go_ret2
  exact ⟨rfl, 0, rfl⟩
set_option maxRecDepth 100000 in
set_option maxHeartbeats 1000000 in
theorem of_minus (b : Nat) (h : b < 18446744073709551616) (h4 : 4 ≤ cls b) (hm : mns b = true) (w : World) : Calls Tryd.prog 19 #[.float .f64 b] w fun e w' => e = .returned (.tuple #[.int .i64 (ofV b), .int .i64 (ofE b)]) ∧ ∃ d, w' = w.drewN d := by
 have he := ofE_m b h4 hm
 have hv := ofV_0 b (by omega)
 rw [hv, he]
 have c1 : (cls b == 1) = false := by rw [beq_eq_false_iff_ne]; omega
 have c2 : (cls b == 2) = false := by rw [beq_eq_false_iff_ne]; omega
 have c3 : (cls b == 3) = false := by rw [beq_eq_false_iff_ne]; omega
 clear he hv
 go_enter Tryd.func19, Tryd.ntmps19
 go_wp2_with (first | (go_at_call 34; refine (class_any _ h _).mono ?_; rintro e w' ⟨rfl, rfl⟩) | (go_at_call 35; refine (minus_any _ h _).mono ?_; rintro e w' ⟨rfl, rfl⟩))
 go_ret2
 exact ⟨rfl, 0, rfl⟩
set_option maxRecDepth 100000 in
set_option maxHeartbeats 1000000 in
theorem of_plus (b : Nat) (h : b < 18446744073709551616) (h4 : 4 ≤ cls b) (hm : mns b = false) (w : World) (hT : Tab w) : Calls Tryd.prog 19 #[.float .f64 b] w fun e w' => e = .returned (.tuple #[.int .i64 (ofV b), .int .i64 (ofE b)]) ∧ ∃ d, w' = w.drewN d := by
 obtain ⟨_, _, _, o1, o2⟩ := man_odd b h4
 have hpe := pe_bd b
 have hn : ∀ w : World, Calls Tryd.prog 37 #[.int .i64 ((odd b : Int) * 1000), .int .i64 (pe b)] w fun e' w' => e' = .returned (.int .i64 (nanoOf b)) ∧ ∃ d, w' = w.drewN d := fun w =>
  nearest_any (odd b * 1000) (pe b) (by omega) (by omega) (by omega) w
 have hp : ∀ w : World, Tab w → Calls Tryd.prog 36 #[.float .f64 b] w fun e w' => e = .returned (.tuple #[.int .i64 (odd b), .int .i64 (pe b)]) ∧ w = w' := fun w hT => by
  have := parts_any b h w hT
  rw [pm_plus b h4 hm] at this
  exact this
 have he := ofE_p b h4 hm
 have hv1 := ofV_n b h4
 have hv0 := ofV_0 b
 have HN := Lib.hid hn
 have HP := Lib.hid hp
 have HE := Lib.hid he
 have HV1 := Lib.hid hv1
 have HV0 := Lib.hid hv0
 have c1 : (cls b == 1) = false := by rw [beq_eq_false_iff_ne]; omega
 have c2 : (cls b == 2) = false := by rw [beq_eq_false_iff_ne]; omega
 have c3 : (cls b == 3) = false := by rw [beq_eq_false_iff_ne]; omega
 clear hn hp he hv1 hv0
 go_enter Tryd.func19, Tryd.ntmps19
 go_wp2_with (first | (go_at_call 34; refine (class_any _ h _).mono ?_; rintro e w' ⟨rfl, rfl⟩) | (go_at_call 35; refine (minus_any _ h _).mono ?_; rintro e w' ⟨rfl, rfl⟩) | (go_at_call 36; refine (HP.out _ hT).mono ?_; rintro e w' ⟨rfl, rfl⟩) | (go_at_call 37; refine (HN.out _).mono ?_; rintro e' w' ⟨rfl, d, rfl⟩))
 all_goals go_ret2
 ·have e1 : ofE b = 4 := by rw [HE.out, if_pos (by omega)]
  exact ⟨ret_ii (by rw [HV0.out (by omega)]; rfl) e1.symm, _, rfl⟩
 ·have e1 : ofE b = 0 := by rw [HE.out, if_neg (by omega)]
  exact ⟨ret_ii (by rw [HV1.out e1]) e1.symm, _, rfl⟩
theorem of_any (b : Nat) (h : b < 18446744073709551616) (w : World) (hT : Tab w) : Calls Tryd.prog 19 #[.float .f64 b] w fun e w' => e = .returned (.tuple #[.int .i64 (ofV b), .int .i64 (ofE b)]) ∧ ∃ d, w' = w.drewN d := by
 by_cases h4 : 4 ≤ cls b
 ·cases hm : mns b
  ·exact of_plus b h h4 hm w hT
  ·exact of_minus b h h4 hm w
 ·exact of_low b h (by omega) w
end Go.Proofs.YtmecohdedghiaaaDoor.Nn
namespace Go.Proofs.YtmecohdedghiaaaDoor.Nn
open Go.RowKit
set_option maxRecDepth 100000 in
set_option maxHeartbeats 1000000 in
theorem rof_low (b : Nat) (hlow : cls b < 4) (w : World) : Calls Tryd.prog 21 #[.int .u64 b] w fun e w' => e = .returned (.tuple #[.int .i64 (ofV b), .int .i64 (ofE b)]) ∧ ∃ d, w' = w.drewN d := by
 have hr := cls_range b
 have hv := ofV_0 b (by omega)
 rw [hv]
 have hc : cls b = 1 ∨ cls b = 2 ∨ cls b = 3 := by omega
 clear hv hr
 rcases hc with hc | hc | hc
 all_goals first | rw [ofE_1 b hc] | rw [ofE_2 b hc] | rw [ofE_3 b hc]
 all_goals
  have H := fun w => rclass_any b w
  rw [hc] at H
  have H' := Lib.hid H
  clear H hc hlow
  go_enter Tryd.func21, Tryd.ntmps21
  go_wp2_with (go_at_call 38; refine (H'.out _).mono ?_; rintro e w' ⟨rfl, rfl⟩)
  go_ret2
  exact ⟨rfl, 0, rfl⟩
theorem pm_minus (b : Nat) (h4 : 4 ≤ cls b) (hm : mns b = true) : pm b = -(odd b : Int) := by
 unfold pm
 rw [if_neg (by omega), hm]
 rfl
set_option maxRecDepth 100000 in
set_option maxHeartbeats 1000000 in
theorem rof_minus (b : Nat) (h : b < 18446744073709551616) (h4 : 4 ≤ cls b) (hm : mns b = true) (w : World) : Calls Tryd.prog 21 #[.int .u64 b] w fun e w' => e = .returned (.tuple #[.int .i64 (ofV b), .int .i64 (ofE b)]) ∧ ∃ d, w' = w.drewN d := by
 have he := ofE_m b h4 hm
 have hv := ofV_0 b (by omega)
 rw [hv, he]
 obtain ⟨_, _, _, o1, o2⟩ := man_odd b h4
 have hp : ∀ w : World, Calls Tryd.prog 39 #[.int .u64 b] w fun e w' => e = .returned (.tuple #[.int .i64 (-(odd b : Int)), .int .i64 (pe b)]) ∧ w = w' := fun w => by
  have := rparts_any b h w
  rw [pm_minus b h4 hm] at this
  exact this
 have HP := Lib.hid hp
 have c1 : (cls b == 1) = false := by rw [beq_eq_false_iff_ne]; omega
 have c2 : (cls b == 2) = false := by rw [beq_eq_false_iff_ne]; omega
 have c3 : (cls b == 3) = false := by rw [beq_eq_false_iff_ne]; omega
 clear he hv hp
 go_enter Tryd.func21, Tryd.ntmps21
 go_wp2_with (first | (go_at_call 38; refine (rclass_any _ _).mono ?_; rintro e w' ⟨rfl, rfl⟩) | (go_at_call 39; refine (HP.out _).mono ?_; rintro e w' ⟨rfl, rfl⟩))
 go_ret2
 exact ⟨rfl, 0, rfl⟩
/-- The end: what a number of nanolitres comes to. -/
theorem of_end (b n : Nat) (h4 : 4 ≤ cls b) (hm : mns b = false) (e1 : (1099511627776 < n ↔ 1099511627776 < nanoOf b)) (e2 : n ≤ 1099511627776 → nanoOf b = n) : (1099511627776 < n → ofV b = 0 ∧ ofE b = 4) ∧ (n ≤ 1099511627776 → ofV b = n ∧ ofE b = 0) := by
 have he := ofE_p b h4 hm
 refine ⟨fun h => ?_, fun h => ?_⟩
 ·rw [if_pos (by omega)] at he
  exact ⟨ofV_0 b (by omega), he⟩
 ·rw [if_neg (by omega)] at he
  exact ⟨by rw [ofV_n b h4 he]; exact e2 h, he⟩
set_option maxRecDepth 100000 in
set_option maxHeartbeats 2000000 in
theorem rof_frac (b : Nat) (h : b < 18446744073709551616) (h4 : 4 ≤ cls b) (hm : mns b = false) (hneg : pe b < 0) (w : World) : Calls Tryd.prog 21 #[.int .u64 b] w fun e w' => e = .returned (.tuple #[.int .i64 (ofV b), .int .i64 (ofE b)]) ∧ ∃ d, w' = w.drewN d := by
 obtain ⟨_, _, _, o1, o2⟩ := man_odd b h4
 have hpe := pe_bd b
 have hp : ∀ w : World, Calls Tryd.prog 39 #[.int .u64 b] w fun e w' => e = .returned (.tuple #[.int .i64 (odd b), .int .i64 (pe b)]) ∧ w = w' := fun w => by
  have := rparts_any b h w
  rw [pm_plus b h4 hm] at this
  exact this
 have hn : -64 ≤ pe b → ∀ w : World, Calls Tryd.prog 40 #[.int .u64 ((odd b : Int) * 1000), .int .i64 (-pe b)] w fun e' w' => e' = .returned (.int .u64 (nanoOf b)) ∧ ∃ d, w' = w.drewN d := fun hh w => by
  have := round_any (odd b * 1000) (-pe b).toNat (by omega) (by omega) (by omega) w
  rw [near_rnd _ _ hneg hh (by omega), show (((-pe b).toNat : Nat) : Int) = -pe b from by omega] at this
  exact this
 have hlow : pe b < -64 → nanoOf b = 0 := fun hh => by unfold nanoOf near; rw [if_pos (by omega)]
 have hub : nanoOf b ≤ 9223372036854775807 := near_lt _ _ (by omega)
 have hend := of_end b (nanoOf b) h4 hm (by omega) (by omega)
 have HP := Lib.hid hp
 have HN := Lib.hid hn
 have HL := Lib.hid hlow
 have HE := Lib.hid hend
 have c1 : (cls b == 1) = false := by rw [beq_eq_false_iff_ne]; omega
 have c2 : (cls b == 2) = false := by rw [beq_eq_false_iff_ne]; omega
 have c3 : (cls b == 3) = false := by rw [beq_eq_false_iff_ne]; omega
 clear hp hn hlow hend
 by_cases hh : pe b < -64
 ·have e2 := HE.out.2 (by rw [HL.out hh]; omega)
  rw [HL.out hh] at e2
  rw [e2.1, e2.2]
  clear e2
  go_enter Tryd.func21, Tryd.ntmps21
  go_wp2_with (first | (go_at_call 38; refine (rclass_any _ _).mono ?_; rintro e w' ⟨rfl, rfl⟩) | (go_at_call 39; refine (HP.out _).mono ?_; rintro e w' ⟨rfl, rfl⟩))
  go_ret2
  exact ⟨rfl, 0, rfl⟩
 ·have hn' := HN.out (by omega)
  have HN' := Lib.hid hn'
  clear hn'
  go_enter Tryd.func21, Tryd.ntmps21
  go_wp2_with (first | (go_at_call 38; refine (rclass_any _ _).mono ?_; rintro e w' ⟨rfl, rfl⟩) | (go_at_call 39; refine (HP.out _).mono ?_; rintro e w' ⟨rfl, rfl⟩) | (go_at_call 40; refine (HN'.out _).mono ?_; rintro e' w' ⟨rfl, d, rfl⟩))
  generalize nanoOf b = V at *
  go_loop [6, 7] (fun n i => n = .int .u64 V ∧ i = .int .i64 0) (fun _ i => 0)
  case atStart => exact ⟨rfl, rfl⟩
  case round =>
   obtain ⟨rfl, rfl⟩ := hrel
   go_wp2
   all_goals go_ret2
   all_goals first
    | (have e := HE.out.1 (by omega); exact ⟨ret_ii (by rw [e.1]; rfl) (by rw [e.2]), _, by trivial⟩)
    | (have e := HE.out.2 (by omega); exact ⟨ret_ii (by rw [e.1]) (by rw [e.2]), _, by trivial⟩)
set_option maxRecDepth 100000 in
set_option maxHeartbeats 2000000 in
theorem rof_up (b : Nat) (h : b < 18446744073709551616) (h4 : 4 ≤ cls b) (hm : mns b = false) (hup : 0 ≤ pe b) (w : World) : Calls Tryd.prog 21 #[.int .u64 b] w fun e w' => e = .returned (.tuple #[.int .i64 (ofV b), .int .i64 (ofE b)]) ∧ ∃ d, w' = w.drewN d := by
 obtain ⟨_, _, _, o1, o2⟩ := man_odd b h4
 have hpe := pe_bd b
 have hp : ∀ w : World, Calls Tryd.prog 39 #[.int .u64 b] w fun e w' => e = .returned (.tuple #[.int .i64 (odd b), .int .i64 (pe b)]) ∧ w = w' := fun w => by
  have := rparts_any b h w
  rw [pm_plus b h4 hm] at this
  exact this
 have hend : ∀ n i : Nat, (n = odd b * 1000 * 2 ^ i) → (i : Int) ≤ pe b → ((i : Int) = pe b ∨ 1099511627776 < n) → (1099511627776 < n → ofV b = 0 ∧ ofE b = 4) ∧ (n ≤ 1099511627776 → ofV b = n ∧ ofE b = 0) := fun n i hn hi hd => by
  subst hn
  have hx := near_dbl (odd b * 1000) i (pe b) hup hi hd
  exact of_end b _ h4 hm hx.1 hx.2
 have HP := Lib.hid hp
 have HE := Lib.hid hend
 have c1 : (cls b == 1) = false := by rw [beq_eq_false_iff_ne]; omega
 have c2 : (cls b == 2) = false := by rw [beq_eq_false_iff_ne]; omega
 have c3 : (cls b == 3) = false := by rw [beq_eq_false_iff_ne]; omega
 clear hp hend
 generalize odd b = p at *
 generalize pe b = e at *
 go_enter Tryd.func21, Tryd.ntmps21
 go_wp2_with (first | (go_at_call 38; refine (rclass_any _ _).mono ?_; rintro e w' ⟨rfl, rfl⟩) | (go_at_call 39; refine (HP.out _).mono ?_; rintro e w' ⟨rfl, rfl⟩))
 go_loop [6, 7] (fun n j => ∃ n' i : Nat, n' = p * 1000 * 2 ^ i ∧ (i : Int) ≤ e ∧ n' < 18446744073709551616 ∧ n = .int .u64 n' ∧ j = .int .i64 i) (fun _ j => (e - intOf j).toNat)
 case atStart => exact ⟨p * 1000, 0, by simp, by omega, by omega, by rw [Int.natCast_mul]; rfl, rfl⟩
 case round =>
  obtain ⟨n', i, hn, hi, hb, rfl, rfl⟩ := hrel
  have HN := Lib.hid hn
  clear hn
  by_cases k1 : (i : Int) < e
  ·by_cases k2 : (n' : Int) ≤ 1099511627776
   ·go_wp2
    go_round
    case rel => exact ⟨2 * n', i + 1, by rw [dbl, ← HN.out], by omega, by omega, by rw [Int.natCast_mul]; rfl, num_i (by omega)⟩
    case measure => simp [intOf]; omega
   ·have e1 := HE.out n' i HN.out hi (by omega)
    have E1 := Lib.hid (e1.1 (by omega))
    clear e1
    go_wp2
    go_ret2
    exact ⟨ret_ii (by rw [E1.out.1]; rfl) (by rw [E1.out.2]), 0, by trivial⟩
  ·have e1 := HE.out n' i HN.out hi (by omega)
   have E1 := Lib.hid e1
   have k1' : decide ((i : Int) < e) = false := by simpa using k1
   clear e1
   go_wp2
   all_goals go_ret2
   all_goals first
    | (have e := E1.out.1 (by omega); exact ⟨ret_ii (by rw [e.1]; rfl) (by rw [e.2]), 0, by trivial⟩)
    | (have e := E1.out.2 (by omega); exact ⟨ret_ii (by rw [e.1]) (by rw [e.2]), 0, by trivial⟩)
theorem rof_any (b : Nat) (h : b < 18446744073709551616) (w : World) : Calls Tryd.prog 21 #[.int .u64 b] w fun e w' => e = .returned (.tuple #[.int .i64 (ofV b), .int .i64 (ofE b)]) ∧ ∃ d, w' = w.drewN d := by
 by_cases h4 : 4 ≤ cls b
 ·cases hm : mns b
  ·by_cases hn : pe b < 0
   ·exact rof_frac b h h4 hm hn w
   ·exact rof_up b h h4 hm (by omega) w
  ·exact rof_minus b h h4 hm w
 ·exact rof_low b (by omega) w
end Go.Proofs.YtmecohdedghiaaaDoor.Nn
namespace Go.Proofs.YtmecohdedghiaaaDoor.Nn
open Go.RowKit
theorem Tab.drewN {w : World} (h : Tab w) (d : Nat) : Tab (w.drewN d) := h
end Go.Proofs.YtmecohdedghiaaaDoor.Nn
namespace Go.Proofs.YtmecohdedghiaaaDoor.Two
open Go.RowKit Go.Maps
theorem law3 : Keyed Tryd.prog 3 := int_keyed Tryd.underlying3
theorem zero53 (w : World) : (zeroValue 137).run Tryd.prog w = .ok (.agg #[]) w := by kernel_rfl
/-- The numbers seen, as the map reads. -/
def sd (l : List Int) : DataW Unit := setOf (.agg []) (l.map (Lit.int .i64))
theorem sd_snoc (l : List Int) (x : Int) : sd (l ++ [x]) = (sd l).put (.int .i64 x) (.agg []) := by
  unfold sd
  rw [List.map_append, List.map_cons, List.map_nil, setOf_snoc]
theorem has_sd (l : List Int) (x : Int) : Maps.has (sd l) (.int .i64 x) = decide (x ∈ l) := by
  unfold sd
  rw [has_setOf _ _ _ (by intro y hy; obtain ⟨z, _, rfl⟩ := List.mem_map.1 hy; trivial)]
  rw [List.any_map, Bool.eq_iff_iff, List.any_eq_true, decide_eq_true_eq]
  simp [Lit.sameKey]
theorem fits_wf {n : Int} (h : fits n) : (Lit.int .i64 n).wf = true := by
  unfold fits at h
  simpa [Lit.wf, IntKind.min, IntKind.max, IntKind.signed, IntKind.bits] using h
set_option maxHeartbeats 2000000 in
set_option maxRecDepth 100000 in
theorem twice_any (v : Value) (xs : List Int) (w : World) (h : IsL w w.heap.size v xs) (hl : xs.length ≤ 1000000) : Calls Tryd.prog 75 #[v] w fun e w' => (∃ t, e = .returned (.int .i64 t) ∧ Tw xs t) ∧ Below w.heap.size w w' := by
  have hmm := @run_makeMap Tryd.prog
  obtain ⟨⟨A, cap, rfl, hcap, hA⟩, hfit, hlen⟩ := h
  have HA := Lib.hid hA
  have HF := Lib.hid hfit
  clear hA hfit
  go_enter Tryd.func75, Tryd.ntmps75
  go_wp2
  go_loopw [11] (fun i wr => ∃ k : Nat, k ≤ xs.length ∧ (∀ j, j < k → xs.getD j 0 ∉ xs.take j) ∧ i = .int .i64 (k : Int) ∧ wr.ownsMap Tryd.prog 3 unitElem w.heap.size k (sd (xs.take k)) ∧ Below w.heap.size w wr) (fun i _ => xs.length - (intOf i).toNat)
  case atStart => exact ⟨0, Nat.zero_le _, fun j hj => absurd hj (by omega), rfl, World.ownsMap_made _ _ _ _, (Below.refl _ _).alloc (Nat.le_refl _) _⟩
  case round =>
    obtain ⟨k, hk, hno, rfl, hown, hbel⟩ := hrel
    have HN := Lib.hid hno
    have HO := Lib.hid hown
    have HL := Lib.hid hbel
    clear hno
    by_cases hlt : k < xs.length
    · obtain ⟨b, off, rfl, hbB, hcell⟩ := HA.out (by omega)
      have hx : wr.cell? ⟨b, off + k, none⟩ = some (.int .i64 (xs.getD k 0)) := (hbel.cell (p := ⟨b, off + k, none⟩) hbB).trans (hcell k hlt)
      have hkey : keyOf Tryd.prog 3 (.int .i64 (xs.getD k 0)) = some (.int .i64 (xs.getD k 0)) := keyOf_int_mk Tryd.underlying3 (fits_wf (getD_fits HF.out k))
      have hhas := has_sd (xs.take k) (xs.getD k 0)
      have HTK := Lib.hid (show sd (xs.take (k + 1)) = (sd (xs.take k)).put (.int .i64 (xs.getD k 0)) (.agg []) by rw [take_getD xs k hlt, sd_snoc])
      have HK := Lib.hid hkey
      clear hcell hbel hown hkey
      by_cases hm : xs.getD k 0 ∈ xs.take k
      · rw [decide_eq_true hm] at hhas
        have HM := Lib.hid hm
        clear hm
        generalize hxx : xs.getD k 0 = x at *
        have HXX := Lib.hid hxx
        clear hxx
        go_wp2_with (at_lookup; refine wpList_lookup_own_unit _ rfl _ _ 136 rfl 3 137 law3 Tryd.underlying136 (zero53 _) w.heap.size k _ rfl HO.out _ _ rfl HK.out ?_)
        go_ret
        exact ⟨⟨_, rfl, Or.inr ⟨k, hlt, rfl, by rw [HXX.out]; exact HM.out, HN.out⟩⟩, HL.out.alloc HL.out.size _⟩
      · rw [decide_eq_false hm] at hhas
        have HM := Lib.hid hm
        clear hm
        generalize hxx : xs.getD k 0 = x at *
        have HXX := Lib.hid hxx
        clear hxx
        go_wp2_with (first
          | (at_lookup; refine wpList_lookup_own_unit _ rfl _ _ 136 rfl 3 137 law3 Tryd.underlying136 (zero53 _) w.heap.size k _ rfl HO.out _ _ rfl HK.out ?_)
          | (at_mapUpdate; refine wpList_mapUpdate_own _ rfl _ _ _ 136 rfl 3 137 law3 Tryd.underlying136 (unitElem (H := Unit)) w.heap.size k _ rfl (HO.out.alloc _) (by unfold maxLen; omega) _ _ _ rfl rfl HK.out _ [] unitElem_mk ?_; intro w1 hown1 hgrow1))
        have H1 := Lib.hid hown1
        have H2 := Lib.hid ((HL.out.alloc HL.out.size (.cells #[] 137)).grown hgrow1 (by have := HL.out.size; simp; omega) (fun j hj => by cases hj; exact Nat.le_refl _))
        clear hown1 hgrow1
        go_roundw
        case rel =>
          refine ⟨k + 1, by omega, fun j hj => ?_, num_i (by omega), by rw [HTK.out]; exact H1.out, H2.out⟩
          rcases Nat.lt_or_ge j k with h | h
          · exact HN.out j h
          · obtain rfl : j = k := by omega
            rw [HXX.out]
            exact HM.out
        case measure => simp [intOf]; omega
    · obtain rfl : k = xs.length := by omega
      clear hbel hown
      go_wp2
      go_ret
      exact ⟨⟨_, rfl, Or.inl ⟨rfl, HN.out⟩⟩, HL.out⟩
end Go.Proofs.YtmecohdedghiaaaDoor.Two
namespace Go.Proofs.YtmecohdedghiaaaDoor.Two
open Go.RowKit
theorem inc_short (l : List Int) (h : l.length ≤ 1) : Inc l := by
  match l, h with
  | [], _ => exact inc_nil
  | [x], _ => exact List.pairwise_singleton _ _
theorem mk_halves (l : List Int) (k : Nat) : mk (mk (l.take k) ++ mk (l.drop k)) = mk l := mk_of (inc_mk _) fun x => by
  rw [mem_mk, List.mem_append, mem_mk, mem_mk, ← List.mem_append, List.take_append_drop]
set_option maxRecDepth 100000 in
set_option maxHeartbeats 1000000 in
theorem from_all : ∀ (n : Nat) (v : Value) (xs : List Int), xs.length ≤ n → xs.length ≤ 1000 → ∀ w : World, IsL w w.heap.size v xs →
    Calls Tryd.prog 32 #[v] w fun e w' => ∃ v, e = .returned v ∧ IsL w' w'.heap.size v (mk xs) ∧ Below w.heap.size w w' := by
  intro n
  induction n with
  | zero =>
    intro v xs hn hl w h
    obtain rfl : xs = [] := List.eq_nil_of_length_eq_zero (by omega)
    have HR := Lib.hid (right_any v [] w h)
    have HV := Lib.hid h
    clear h
    go_enter Tryd.func32, Tryd.ntmps32
    go_wp2_with fail
    refine (HR.out).mono ?_
    rintro e w' ⟨rfl, d, rfl⟩
    rw [show decide (Inc []) = true from by decide]
    go_wp2_with (at_builtin; refine wpList_app _ rfl _ _ rfl w.heap.size w.heap.size _ _ [] [] rfl rfl (Own.nil _ _) HV.out (by simp) (Nat.le_refl _) ?_)
    intro v1 w1 hown hgrow _
    have hb1 := Own.grow' (Own.nil (w.drewN d) w.heap.size) (below_drewN (Below.refl _ _) d) (Nat.le_refl _) hgrow
    have H1 := Lib.hid (hown.isL (by simp))
    have H2 := Lib.hid hb1
    clear hown hgrow hb1
    go_wp2
    go_ret
    exact ⟨_, rfl, H1.out, H2.out⟩
  | succ n ih =>
    intro v xs hn hl w h
    have IH := Lib.hid ih
    have HR := Lib.hid (right_any v xs w h)
    have HV := Lib.hid h
    clear ih
    by_cases hi : Inc xs
    · have hd : decide (Inc xs) = true := decide_eq_true hi
      rw [hd] at HR
      have HM := Lib.hid (mk_inc hi)
      clear h hd hi
      go_enter Tryd.func32, Tryd.ntmps32
      go_wp2_with fail
      refine (HR.out).mono ?_
      rintro e w' ⟨rfl, d, rfl⟩
      go_wp2_with (at_builtin; refine wpList_app _ rfl _ _ rfl w.heap.size w.heap.size _ _ [] xs rfl rfl (Own.nil _ _) HV.out (by simp; omega) (Nat.le_refl _) ?_)
      intro v1 w1 hown hgrow _
      have hb1 := Own.grow' (Own.nil (w.drewN d) w.heap.size) (below_drewN (Below.refl _ _) d) (Nat.le_refl _) hgrow
      have H1 := Lib.hid (hown.isL (by omega))
      have H2 := Lib.hid hb1
      clear hown hgrow hb1
      go_wp2
      go_ret
      exact ⟨_, rfl, by rw [HM.out]; exact H1.out, H2.out⟩
    · have h2 : 2 ≤ xs.length := by
        rcases Nat.lt_or_ge xs.length 2 with h | h
        · exact absurd (inc_short xs (by omega)) hi
        · exact h
      have hd : decide (Inc xs) = false := decide_eq_false hi
      rw [hd] at HR
      clear hi hd
      obtain ⟨⟨A, cap, rfl, hcap, hA⟩, hfit, hlen⟩ := h
      obtain ⟨b, off, rfl, hb, hcell⟩ := hA (by omega)
      obtain ⟨hf, hhf, hf1, hf2⟩ : ∃ hf : Nat, (xs.length : Int) / 2 = (hf : Int) ∧ 1 ≤ hf ∧ hf < xs.length ∧ hf ≤ n ∧ xs.length - hf ≤ n := ⟨xs.length / 2, by omega, by omega, by omega, by omega, by omega⟩
      have HT := Lib.hid (IsL.takeLit (cap := cap) hb hcell hfit (hf) (by omega) (by omega) hlen)
      have HD := Lib.hid (IsL.dropIf (cap := cap) hb hcell hfit (hf) (by omega) hcap hlen)
      have HD2 := Lib.hid (IsL.dropLit (cap := cap) hb hcell hfit (hf) (by omega) hcap hlen).2
      have ht : (xs.take (hf)).length = hf := by rw [List.length_take]; omega
      have hdl : (xs.drop (hf)).length = xs.length - hf := List.length_drop
      have HF1 := Lib.hid (fun (W : World) (hW : Below w.heap.size w W) => IH.out _ (xs.take (hf)) (by omega) (by omega) W ((HT.out.below hW).more hW.size))
      have HF2 := Lib.hid (fun (W : World) (hW : Below w.heap.size w W) => IH.out _ (xs.drop (hf)) (by omega) (by omega) W ((HD.out.below hW).more hW.size))
      have HF3 := Lib.hid (fun (W : World) (hW : Below w.heap.size w W) => IH.out _ (xs.drop (hf)) (by omega) (by omega) W ((HD2.out.below hW).more hW.size))
      have hml1 := mk_len_le (xs.take (hf))
      have hml2 := mk_len_le (xs.drop (hf))
      have HEI := Lib.hid (fun (a c : Value) (W : World) (h1 : IsL W W.heap.size a (mk (xs.take (hf)))) (h2 : IsL W W.heap.size c (mk (xs.drop (hf)))) => either_any a c _ _ W h1 h2 (by omega) (inc_mk _) (inc_mk _))
      have HMK := Lib.hid (mk_halves xs (hf))
      have i1 : (0 : Int) ≤ (hf : Int) := by omega
      have i2 : (hf : Int) ≤ (xs.length : Int) := by omega
      have i3 : (hf : Int) ≤ (cap : Int) := by omega
      have i4 : ¬ cap = hf := by omega
      clear hA hfit hcell ht hdl hml1 hml2
      go_enter Tryd.func32, Tryd.ntmps32
      go_wp2_with fail
      refine (HR.out).mono ?_
      rintro e w' ⟨rfl, d, rfl⟩
      have HW0 := Lib.hid (below_drewN (Below.refl w.heap.size w) (d + 1))
      go_wp2
      go_region_with (first
        | (go_at_call 32; with_reducible refine (HF1.out _ HW0.out).mono ?_; rintro e w1 ⟨v1, rfl, hv1, hb1⟩
           have HV1 := Lib.hid hv1
           have HB1 := Lib.hid (HW0.out.trans (hb1.mono (Nat.le_refl _)))
           clear hv1 hb1)
        | (go_at_call 32; first | with_reducible refine (HF2.out _ HB1.out).mono ?_ | with_reducible refine (HF3.out _ HB1.out).mono ?_
           rintro e w2 ⟨v2, rfl, hv2, hb2⟩
           have HV2 := Lib.hid hv2
           have HV1' := Lib.hid ((HV1.out.below hb2).more hb2.size)
           have HB2 := Lib.hid (HB1.out.trans (hb2.mono HB1.out.size))
           clear hv2 hb2)
        | (go_at_call 50; with_reducible refine (HEI.out _ _ _ HV1'.out HV2.out).mono ?_; rintro e w3 ⟨v3, rfl, hv3, hb3⟩
           have HV3 := Lib.hid hv3
           have HB3 := Lib.hid (HB2.out.trans (hb3.mono HB2.out.size))
           clear hv3 hb3))
      all_goals
        go_wp2
        go_ret
        exact ⟨_, rfl, by rw [← HMK.out]; exact HV3.out, HB3.out⟩
theorem from_any (v : Value) (xs : List Int) (w : World) (h : IsL w w.heap.size v xs) (hl : xs.length ≤ 1000) :
    Calls Tryd.prog 32 #[v] w fun e w' => ∃ v, e = .returned v ∧ IsL w' w'.heap.size v (mk xs) ∧ Below w.heap.size w w' := from_all xs.length v xs (Nat.le_refl _) hl w h
end Go.Proofs.YtmecohdedghiaaaDoor.Two

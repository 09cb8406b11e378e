/- Plain mathematics of floats. -/
import Derived.Test.YtmecohdedghiaaaGreatDoorPl11
import Derived.Test.YtmecohdedghiaaaGreatDoorPl04
import Derived.Test.YtmecohdedghiaaaGreatDoorPl07
import Derived.Laws.BitsAllLaws
import Derived.Laws.Bits64
import Derived.Lib.TrailingZeros
import Derived.Lib.BitFns
import Ieee.Arith
import Derived.Below
import Derived.Lib.ItoaNum
namespace Go.Proofs.YtmecohdedghiaaaGreatDoor
open Go.RowKit
def cellA (q : Pl) (i : Nat) : Cel.Ce := ⟨q.cap, q.st.getD i 0, 0⟩
def plN (q : Pl) : Nat := q.rows.toNat * q.cols.toNat
/-- The cells of a plate at first. -/
def plC (q : Pl) : List Cel.Ce := (List.range (plN q)).map (cellA q)
noncomputable def newCn (l : List Pl) (n : Nat) : List Cel.Ce := (List.range n).flatMap fun j => plC (l.getD j KP.dflt)
theorem newCn_snoc (l : List Pl) (n : Nat) : newCn l (n + 1) = newCn l n ++ plC (l.getD n KP.dflt) := by
 unfold newCn
 rw [List.range_succ, List.flatMap_append]
 simp
theorem plC_len (q : Pl) : (plC q).length = plN q := by unfold plC; simp
theorem plN_eq {q : Pl} (h : plateB q = true) : (plN q : Int) = q.rows * q.cols ∧ 1 ≤ plN q ∧ plN q ≤ 1536 ∧ q.st.length ≤ plN q := by
 have hs := plate_size h
 obtain ⟨h1, h2, h3, h4⟩ := size_of hs
 have hm := size_mul hs
 have e : (plN q : Int) = q.rows * q.cols := by
  unfold plN
  rw [Int.natCast_mul, show ((q.rows.toNat : Nat) : Int) = q.rows by omega, show ((q.cols.toNat : Nat) : Int) = q.cols by omega]
 have hl : (q.st.length : Int) ≤ q.rows * q.cols := by
  unfold plateB at h
  rw [Bool.and_eq_true, Bool.and_eq_true, decide_eq_true_eq] at h
  exact h.1.2.2.2
 exact ⟨e, by omega, by omega, by omega⟩
theorem newCn_len (l : List Pl) (h : ∀ i, i < l.length → plateB (l.getD i KP.dflt) = true) : ∀ n, n ≤ l.length → ((newCn l n).length : Int) = wellsV (l.take n) := by
 intro n
 induction n with
 | zero => intro _; rfl
 | succ n ih =>
  intro hn
  rw [newCn_snoc, List.length_append, Int.natCast_add, ih (by omega), wells_snoc l n (by omega), plC_len, (plN_eq (h n (by omega))).1]
noncomputable def wellN (d : Dk) : Nat := (wellsV d.pl).toNat
noncomputable def tipN (d : Dk) : Nat := (tipsV d.rl).toNat
/-- A deck's stock at first. -/
noncomputable def newA (d : Dk) : Ab := ⟨newCn d.pl d.pl.length, List.replicate (wellN d) (8, 0, []), List.replicate (tipN d) (1, 0), Two.sumL (volS (newCn d.pl d.pl.length)), 0, 0⟩
theorem wellN_eq (d : Dk) (h : OkD d) : (wellN d : Int) = wellsV d.pl ∧ wellN d ≤ 384 ∧ (newCn d.pl d.pl.length).length = wellN d := by
 have hw := wells_bd d.pl (fun i hi => plate_size (h.pl i hi)) d.pl.length (Nat.le_refl _)
 have hl := newCn_len d.pl h.pl d.pl.length (Nat.le_refl _)
 rw [List.take_length] at hw hl
 have := h.wells
 unfold wellN
 omega
theorem tipN_eq (d : Dk) (h : OkD d) : (tipN d : Int) = tipsV d.rl ∧ tipN d ≤ 384 := by
 have hw := tips_bd d.rl (fun i hi => by have := h.rl i hi; unfold rackB at this; exact this) d.rl.length (Nat.le_refl _)
 rw [List.take_length] at hw
 have := h.tips
 unfold tipN
 omega
/-- What kind a part is, by its id. -/
noncomputable def isP (d : Dk) (k id : Int) : Bool := decide ((partV d id).2 = 0) && decide ((partV d id).1.a = k)
theorem parts_kinds (k : Int) (f : Nat → Q4) (hf : ∀ i, (f i).a = k) (n : Nat) : ∀ p ∈ partsU ((List.range n).map f), p.a = k := by
 intro p hp
 unfold partsU unitParts at hp
 obtain ⟨u, hu, hp⟩ := List.mem_flatMap.1 hp
 obtain ⟨i, _, rfl⟩ := List.mem_map.1 hu
 obtain ⟨j, _, rfl⟩ := List.mem_map.1 hp
 exact hf i
theorem kinds_len (k : Int) (l : List Q4) (h : ∀ p ∈ l, p.a = k) : cntK k l = l.length := by
 unfold cntK
 rw [List.filter_eq_self.2 (fun p hp => by rw [h p hp]; exact BEq.rfl)]
theorem parts_split (d : Dk) (h : OkD d) : ∃ A B C, partsL d = A ++ (B ++ C) ∧ A.length = wellN d ∧ B.length = tipN d ∧ (∀ p ∈ A, p.a = 1) ∧ (∀ p ∈ B, p.a = 2) ∧ (∀ p ∈ C, p.a = 3) := by
 have hA := parts_kinds 1 (plateU d.pl) (fun _ => rfl) d.pl.length
 have hB := parts_kinds 2 (rackU d.rl) (fun _ => rfl) d.rl.length
 have hC := parts_kinds 3 laneU (fun _ => rfl) (d.bl.length - 1)
 refine ⟨_, _, _, ?_, ?_, ?_, hA, hB, hC⟩
 ·unfold partsL partsU unitsL
  rw [List.flatMap_append, List.flatMap_append, List.append_assoc]
 ·have e := kinds_len 1 _ hA
  rw [cnt_U 1 (plateU d.pl) _ 1 (fun _ => rfl), if_pos rfl, sum_plates d.pl (fun i hi => plateU_ok d h i hi) _ (Nat.le_refl _), List.take_length] at e
  have := (wellN_eq d h).1
  omega
 ·have e := kinds_len 2 _ hB
  rw [cnt_U 2 (rackU d.rl) _ 2 (fun _ => rfl), if_pos rfl, sum_racks d.rl (fun i hi => rackU_ok d h i hi) _ (Nat.le_refl _), List.take_length] at e
  have := (tipN_eq d h).1
  omega
theorem getD_app {α : Type} (l m : List α) (i : Nat) (z : α) : (l ++ m).getD i z = if i < l.length then l.getD i z else m.getD (i - l.length) z := by
 rw [List.getD_eq_getElem?_getD]
 by_cases h : i < l.length
 ·rw [List.getElem?_append_left h, if_pos h, List.getD_eq_getElem?_getD]
 ·rw [List.getElem?_append_right (by omega), if_neg h, List.getD_eq_getElem?_getD]
theorem isP_eq (d : Dk) (hz : dchk d = 0) (id : Int) : isP d 1 id = decide (0 ≤ id ∧ id < wellN d) ∧ isP d 2 id = decide (wellN d ≤ id ∧ id < wellN d + tipN d) := by
 obtain ⟨A, B, C, e, hA, hB, kA, kB, kC⟩ := parts_split d (dchk_ok d hz)
 unfold isP partV
 rw [if_pos hz, e]
 unfold partR
 rw [List.length_append, List.length_append, hA, hB]
 by_cases h0 : id < 0 ∨ ((wellN d + (tipN d + C.length) : Nat) : Int) ≤ id
 ·rw [if_pos h0]
  constructor <;> rw [Bool.eq_iff_iff, Bool.and_eq_true, decide_eq_true_eq, decide_eq_true_eq, decide_eq_true_eq] <;> exact ⟨fun h => absurd h.1 (by show ¬ (3 : Int) = 0; decide), fun h => by omega⟩
 ·rw [if_neg h0]
  obtain ⟨j, rfl⟩ := Int.eq_ofNat_of_zero_le (show 0 ≤ id by omega)
  have hk : ((A ++ (B ++ C)).getD j ⟨0, 0, 0, 0⟩).a = if j < wellN d then 1 else if j < wellN d + tipN d then 2 else 3 := by
   rw [getD_app, hA]
   by_cases h1 : j < wellN d
   ·rw [if_pos h1, if_pos h1]
    exact kA _ (getD_mem' A j _ (by omega))
   ·rw [if_neg h1, if_neg h1, getD_app, hB]
    by_cases h2 : j < wellN d + tipN d
    ·rw [if_pos (by omega), if_pos h2]
     exact kB _ (getD_mem' B _ _ (by omega))
    ·rw [if_neg (by omega), if_neg h2]
     exact kC _ (getD_mem' C _ _ (by omega))
  dsimp only
  rw [show ((j : Int)).toNat = j from rfl, hk]
  by_cases h1 : j < wellN d
  ·rw [if_pos h1]
   constructor <;> rw [Bool.eq_iff_iff] <;> simp <;> omega
  ·rw [if_neg h1]
   by_cases h2 : j < wellN d + tipN d
   ·rw [if_pos h2]
    constructor <;> rw [Bool.eq_iff_iff] <;> simp <;> omega
   ·rw [if_neg h2]
    constructor <;> rw [Bool.eq_iff_iff] <;> simp <;> omega
end Go.Proofs.YtmecohdedghiaaaGreatDoor
namespace Go.Proofs.YtmecohdedghiaaaGreatDoor
open Go.RowKit
def flowB (n : Int) : Bool := decide (0 ≤ n) && decide (n ≤ 1152921504606846976)
theorem rzcheck_any (d : Dk) (w : World) (hd : d.In w w.heap.size) : Calls Tryz.prog 82 #[d.v] w fun e w' => e = .returned (.int .i64 (zchk d)) ∧ Below w.heap.size w w' := by
 obtain ⟨w0, hw0⟩ : ∃ w0, w0 = w.alloc (.cells #[.slice d.bA d.bn d.bc, .slice d.pA d.pn d.pc, .slice d.rA d.rn d.rc, .int .i64 d.arms] 26) := ⟨_, rfl⟩
 have HB0 := Lib.hid (show Below w.heap.size w w0 by rw [hw0]; exact Below.al (Below.refl _ _) _)
 have HD0 := Lib.hid (hd.then HB0.out)
 have HT := Lib.hid (fun w h => rtable_any d w h)
 clear hd
 go_enter Tryz.func82, Tryz.ntmps82
 go_wp2_with fail
 rw [← hw0]
 clear hw0
 refine (HT.out _ HD0.out).mono ?_
 rintro e w1 ⟨v, rfl, _, hb1⟩
 go_wp2
 go_ret
 exact ⟨rfl, Below.call HB0.out hb1⟩
end Go.Proofs.YtmecohdedghiaaaGreatDoor
namespace Go.Proofs.YtmecohdedghiaaaGreatDoor
open Go.RowKit
end Go.Proofs.YtmecohdedghiaaaGreatDoor
namespace Go.Proofs.YtmecohdedghiaaaGreatDoor.Lg
open Go.RowKit
/-- A log. -/
abbrev lgV (r l : Int) (A : Option Addr) (n c : Nat) : Value := .agg #[.int .i64 r, .int .i64 l, .slice A n c]
/-- May an arm change a well by so much? -/
def mayB (b n : Int) : Bool := decide (1 ≤ b ∧ b ≤ 8 ∧ -1099511627776 ≤ n ∧ n ≤ 1099511627776 ∧ n ≠ 0)
/-- Is a list's change as it must be? -/
def okC (xs : List Ch) (l : Int) (i : Nat) : Bool := decide ((xs.getD i ch0).a = l - xs.length + 1 + i) && mayB (xs.getD i ch0).b (xs.getD i ch0).c
def rlB (xs : List Ch) (l : Int) : Bool := (List.range xs.length).all (okC xs l)
def rgC (r l : Int) (n : Nat) : Prop := 1 ≤ r ∧ r ≤ 64 ∧ 0 ≤ l ∧ l ≤ 2147483647 ∧ (n : Int) ≤ r ∧ (n : Int) ≤ l
instance (r l : Int) (n : Nat) : Decidable (rgC r l n) := inferInstanceAs (Decidable (_ ∧ _))
/-- Is a log right? -/
def rgB (r l : Int) (xs : List Ch) : Bool := decide (rgC r l xs.length) && rlB xs l
theorem may_any (b n : Int) (w : World) : Calls Tryz.prog 249 #[.int .i64 b, .int .i64 n] w fun e w' => e = .returned (.bool (mayB b n)) ∧ w = w' := by
 by_cases h0 : 1 ≤ b
 ·skip
  by_cases h1 : b ≤ 8
  ·skip
   by_cases h2 : -1099511627776 ≤ n
   ·skip
    by_cases h3 : n ≤ 1099511627776
    ·skip
     by_cases h4 : n ≠ 0
     ·rw [show mayB b n = true from decide_eq_true (by omega)]
      go_enter Tryz.func249, Tryz.ntmps249
      go_wp2
      go_ret
      exact ⟨by first | rfl | exact ret_b (bne_iff_ne.2 (by assumption)) | exact ret_b (by rw [bne_eq_false_iff_eq]; omega), rfl⟩
     ·rw [show mayB b n = false from decide_eq_false (by omega)]
      go_enter Tryz.func249, Tryz.ntmps249
      go_wp2
      go_ret
      exact ⟨by first | rfl | exact ret_b (bne_iff_ne.2 (by assumption)) | exact ret_b (by rw [bne_eq_false_iff_eq]; omega), rfl⟩
    ·rw [show mayB b n = false from decide_eq_false (by omega)]
     go_enter Tryz.func249, Tryz.ntmps249
     go_wp2
     go_ret
     exact ⟨by first | rfl | exact ret_b (bne_iff_ne.2 (by assumption)) | exact ret_b (by rw [bne_eq_false_iff_eq]; omega), rfl⟩
   ·rw [show mayB b n = false from decide_eq_false (by omega)]
    go_enter Tryz.func249, Tryz.ntmps249
    go_wp2
    go_ret
    exact ⟨by first | rfl | exact ret_b (bne_iff_ne.2 (by assumption)) | exact ret_b (by rw [bne_eq_false_iff_eq]; omega), rfl⟩
  ·rw [show mayB b n = false from decide_eq_false (by omega)]
   go_enter Tryz.func249, Tryz.ntmps249
   go_wp2
   go_ret
   exact ⟨by first | rfl | exact ret_b (bne_iff_ne.2 (by assumption)) | exact ret_b (by rw [bne_eq_false_iff_eq]; omega), rfl⟩
 ·rw [show mayB b n = false from decide_eq_false (by omega)]
  go_enter Tryz.func249, Tryz.ntmps249
  go_wp2
  go_ret
  exact ⟨by first | rfl | exact ret_b (bne_iff_ne.2 (by assumption)) | exact ret_b (by rw [bne_eq_false_iff_eq]; omega), rfl⟩
end Go.Proofs.YtmecohdedghiaaaGreatDoor.Lg
namespace Go.Proofs.YtmecohdedghiaaaGreatDoor.Lg
open Go.RowKit
end Go.Proofs.YtmecohdedghiaaaGreatDoor.Lg
namespace Go.Proofs.YtmecohdedghiaaaGreatDoor.Lg
open Go.RowKit
end Go.Proofs.YtmecohdedghiaaaGreatDoor.Lg
namespace Go.Proofs.YtmecohdedghiaaaGreatDoor.Lg
open Go.RowKit
end Go.Proofs.YtmecohdedghiaaaGreatDoor.Lg
namespace Go.Proofs.YtmecohdedghiaaaGreatDoor.Lk
open Go.RowKit
variable {P : Program} {α : Type} {K : Lk P α}
end Go.Proofs.YtmecohdedghiaaaGreatDoor.Lk
namespace Go.Proofs.YtmecohdedghiaaaGreatDoor.Lg
open Go.RowKit
end Go.Proofs.YtmecohdedghiaaaGreatDoor.Lg
namespace Go.Proofs.YtmecohdedghiaaaGreatDoor.Lg
open Go.RowKit
theorem _root_.Go.Proofs.YtmecohdedghiaaaGreatDoor.Cells3.s0 {V : World} {D : Nat} {x0 x1 x2 : Value} (h : Cells3 V D x0 x1 x2) (p : Value) : Cells3 (V.setCell ⟨D, 0, none⟩ p) D p x1 x2 := by
 obtain ⟨h0, h1, h2, z0, z1, z2, hs⟩ := h
 exact ⟨st_same h0, st_other h1 (ad_ne (.inr (by decide))), st_other h2 (ad_ne (.inr (by decide))), st_fz z0, st_fz z1, st_fz z2, by simpa using hs⟩
theorem _root_.Go.Proofs.YtmecohdedghiaaaGreatDoor.Cells3.s1 {V : World} {D : Nat} {x0 x1 x2 : Value} (h : Cells3 V D x0 x1 x2) (p : Value) : Cells3 (V.setCell ⟨D, 1, none⟩ p) D x0 p x2 := by
 obtain ⟨h0, h1, h2, z0, z1, z2, hs⟩ := h
 exact ⟨st_other h0 (ad_ne (.inr (by decide))), st_same h1, st_other h2 (ad_ne (.inr (by decide))), st_fz z0, st_fz z1, st_fz z2, by simpa using hs⟩
theorem _root_.Go.Proofs.YtmecohdedghiaaaGreatDoor.Cells3.s2 {V : World} {D : Nat} {x0 x1 x2 : Value} (h : Cells3 V D x0 x1 x2) (p : Value) : Cells3 (V.setCell ⟨D, 2, none⟩ p) D x0 x1 p := by
 obtain ⟨h0, h1, h2, z0, z1, z2, hs⟩ := h
 exact ⟨st_other h0 (ad_ne (.inr (by decide))), st_other h1 (ad_ne (.inr (by decide))), st_same h2, st_fz z0, st_fz z1, st_fz z2, by simpa using hs⟩
theorem _root_.Go.Proofs.YtmecohdedghiaaaGreatDoor.Cells3.off {V : World} {D G o : Nat} {x0 x1 x2 : Value} (h : Cells3 V G x0 x1 x2) (hne : D ≠ G) (p : Value) : Cells3 (V.setCell ⟨D, o, none⟩ p) G x0 x1 x2 := by
 obtain ⟨h0, h1, h2, z0, z1, z2, hs⟩ := h
 exact ⟨st_other h0 (ad_ne (.inl hne)), st_other h1 (ad_ne (.inl hne)), st_other h2 (ad_ne (.inl hne)), st_fz z0, st_fz z1, st_fz z2, by simpa using hs⟩
/-- A new log. -/
def newE (r : Int) : Int := if 1 ≤ r ∧ r ≤ 64 then 0 else 110
def newR (r : Int) : Int := if 1 ≤ r ∧ r ≤ 64 then r else 0
end Go.Proofs.YtmecohdedghiaaaGreatDoor.Lg
namespace Go.Proofs.YtmecohdedghiaaaGreatDoor.Lg
open Go.RowKit
theorem _root_.Go.Proofs.YtmecohdedghiaaaGreatDoor.Lk.Own.set {P : Program} {α : Type} {K : Lk P α} {w : World} {base : Nat} {v : Value} {xs : List α} (h : K.Own w base v xs) {a : Addr} (ha : a.block < base) (u : Value) : K.Own (w.setCell a u) base v xs := ⟨ownsRow_setCell_below h.1 ha u, h.2⟩
/-- A log with a further change: the error, the list. -/
def ntE (r l : Int) (xs : List Ch) (b n : Int) : Int := if rgB r l xs = false then 110 else if mayB b n = false then 1 else if l = 2147483647 then 101 else 0
def ntL (r l : Int) (xs : List Ch) (b n : Int) : List Ch := xs.drop (xs.length - min xs.length (r - 1).toNat) ++ [⟨l + 1, b, n⟩]
end Go.Proofs.YtmecohdedghiaaaGreatDoor.Lg
namespace Go.Proofs.YtmecohdedghiaaaGreatDoor.Lg
open Go.RowKit
end Go.Proofs.YtmecohdedghiaaaGreatDoor.Lg
namespace Go.Proofs.YtmecohdedghiaaaGreatDoor.Lg
open Go.RowKit
set_option maxRecDepth 100000 in
set_option maxHeartbeats 1000000 in
theorem sameList_any (A A2 : Option Addr) (c c2 : Nat) (xs : List Ch) (w : World) (hv : KC.IsL w w.heap.size (.slice A xs.length c) xs) (hu : KC.IsL w w.heap.size (.slice A2 xs.length c2) xs) : Calls Tryz.prog 75 #[.slice A xs.length c, .slice A2 xs.length c2] w fun e w' => e = .returned (.bool true) ∧ Below w.heap.size w w' := by
 have HV := Lib.hid hv
 have HU := Lib.hid hu
 have hl := hv.2.2
 clear hv hu
 go_enter Tryz.func75, Tryz.ntmps75
 go_wp2
 go_loopw [5] (fun i wr => ∃ k : Nat, i = .int .i64 k ∧ k ≤ xs.length ∧ Below w.heap.size w wr) (fun i _ => xs.length - (intOf i).toNat)
 case atStart => exact ⟨0, rfl, Nat.zero_le _, Below.refl _ _⟩
 case round =>
  obtain ⟨k, rfl, hk, hbl⟩ := hrel
  have HB := Lib.hid hbl
  clear hbl
  by_cases hlt : k < xs.length
  ·obtain ⟨b1, o1, rfl, hb1, hc1, hcell1⟩ := ch_cells (HV.out.below HB.out) (by omega)
   obtain ⟨b2, o2, rfl, hb2, hc2, hcell2⟩ := ch_cells (HU.out.below HB.out) (by omega)
   obtain ⟨e1, e2, e3⟩ := hcell1 k hlt
   obtain ⟨f1, f2, f3⟩ := hcell2 k hlt
   clear hcell1 hcell2
   generalize xs.getD k ch0 = q at *
   obtain ⟨a, b, n⟩ := q
   dsimp only at *
   go_wp2_with fail
   go_quiet (fail)
   go_wp2
   go_roundw
   case rel => exact ⟨k + 1, num_i (by omega), by omega, below_drewN HB.out _⟩
   case measure => simp [intOf]; omega
  ·obtain rfl : k = xs.length := by omega
   go_wp2
   go_ret
   exact ⟨rfl, HB.out⟩
set_option maxRecDepth 100000 in
set_option maxHeartbeats 1000000 in
theorem same_any (r l : Int) (A A2 : Option Addr) (c c2 : Nat) (xs : List Ch) (w : World) (hv : KC.IsL w w.heap.size (.slice A xs.length c) xs) (hu : KC.IsL w w.heap.size (.slice A2 xs.length c2) xs) : Calls Tryz.prog 105 #[lgV r l A xs.length c, lgV r l A2 xs.length c2] w fun e w' => e = .returned (.bool true) ∧ Below w.heap.size w w' := by
 have HL := Lib.hid (fun w h1 h2 => sameList_any A A2 c c2 xs w h1 h2)
 have HB := Lib.hid (show Below w.heap.size w ((w.alloc (.cells #[.int .i64 r, .int .i64 l, .slice A xs.length c] 115)).alloc (.cells #[.int .i64 r, .int .i64 l, .slice A2 xs.length c2] 115)) from Below.al (Below.al (Below.refl _ _) _) _)
 have HV := Lib.hid (hv.then HB.out)
 have HU := Lib.hid (hu.then HB.out)
 clear hv hu
 go_enter Tryz.func105, Tryz.ntmps105
 go_wp2_with fail
 refine (HL.out _ HV.out HU.out).mono ?_
 rintro e w2 ⟨rfl, hb2⟩
 have HB2 := Lib.hid (Below.call HB.out hb2)
 clear hb2
 go_wp2
 go_ret
 exact ⟨rfl, HB2.out⟩
end Go.Proofs.YtmecohdedghiaaaGreatDoor.Lg
namespace Go.Proofs.YtmecohdedghiaaaGreatDoor.Lg
open Go.RowKit
theorem _root_.Go.Proofs.YtmecohdedghiaaaGreatDoor.Cells3.grown {V V' : World} {D : Nat} {row : Option Nat} {x0 x1 x2 : Value} (h : Cells3 V D x0 x1 x2) (hg : V.grownBy V' row) (hne : some D ≠ row) : Cells3 V' D x0 x1 x2 := by
 obtain ⟨h0, h1, h2, z0, z1, z2, hs⟩ := h
 exact ⟨(hg.cell_far ⟨D, 0, none⟩ hs hne).trans h0, (hg.cell_far ⟨D, 1, none⟩ hs hne).trans h1, (hg.cell_far ⟨D, 2, none⟩ hs hne).trans h2, (hg.frozen_far ⟨D, 0, none⟩ hs hne).trans z0, (hg.frozen_far ⟨D, 1, none⟩ hs hne).trans z1, (hg.frozen_far ⟨D, 2, none⟩ hs hne).trans z2, Nat.lt_of_lt_of_le hs hg.size⟩
/-- A log with a further change, whether refused or not. -/
def ntR (r l : Int) (xs : List Ch) (b n : Int) : Int := if ntE r l xs b n = 0 then r else 0
def ntM (r l : Int) (xs : List Ch) (b n : Int) : Int := if ntE r l xs b n = 0 then l + 1 else 0
def ntZ (r l : Int) (xs : List Ch) (b n : Int) : List Ch := if ntE r l xs b n = 0 then ntL r l xs b n else []
end Go.Proofs.YtmecohdedghiaaaGreatDoor.Lg
namespace Go.Proofs.YtmecohdedghiaaaGreatDoor
open Go.RowKit
theorem Cells6.grown {V V' : World} {D : Nat} {row : Option Nat} {x0 x1 x2 x3 x4 x5 : Value} (h : Cells6 V D x0 x1 x2 x3 x4 x5) (hg : V.grownBy V' row) (hne : some D ≠ row) : Cells6 V' D x0 x1 x2 x3 x4 x5 := by
 obtain ⟨h0, h1, h2, h3, h4, h5, z0, z1, z2, z3, z4, z5, hs⟩ := h
 exact ⟨(hg.cell_far ⟨D, 0, none⟩ hs hne).trans h0, (hg.cell_far ⟨D, 1, none⟩ hs hne).trans h1, (hg.cell_far ⟨D, 2, none⟩ hs hne).trans h2, (hg.cell_far ⟨D, 3, none⟩ hs hne).trans h3, (hg.cell_far ⟨D, 4, none⟩ hs hne).trans h4, (hg.cell_far ⟨D, 5, none⟩ hs hne).trans h5,
  (hg.frozen_far ⟨D, 0, none⟩ hs hne).trans z0, (hg.frozen_far ⟨D, 1, none⟩ hs hne).trans z1, (hg.frozen_far ⟨D, 2, none⟩ hs hne).trans z2, (hg.frozen_far ⟨D, 3, none⟩ hs hne).trans z3, (hg.frozen_far ⟨D, 4, none⟩ hs hne).trans z4, (hg.frozen_far ⟨D, 5, none⟩ hs hne).trans z5, Nat.lt_of_lt_of_le hs hg.size⟩
end Go.Proofs.YtmecohdedghiaaaGreatDoor
namespace Go.Proofs.YtmecohdedghiaaaGreatDoor
open Go.RowKit
theorem Cells4.low {V V' : World} {B D : Nat} {x0 x1 x2 x3 : Value} (h : Cells4 V D x0 x1 x2 x3) (hb : Below B V V') (hD : D < B) : Cells4 V' D x0 x1 x2 x3 := by
 obtain ⟨h0, h1, h2, h3, z0, z1, z2, z3, hs⟩ := h
 exact ⟨(hb.cell (p := ⟨D, 0, none⟩) hD).trans h0, (hb.cell (p := ⟨D, 1, none⟩) hD).trans h1, (hb.cell (p := ⟨D, 2, none⟩) hD).trans h2, (hb.cell (p := ⟨D, 3, none⟩) hD).trans h3, (hb.frozen (p := ⟨D, 0, none⟩) hD).trans z0, (hb.frozen (p := ⟨D, 1, none⟩) hD).trans z1, (hb.frozen (p := ⟨D, 2, none⟩) hD).trans z2, (hb.frozen (p := ⟨D, 3, none⟩) hD).trans z3, Nat.lt_of_lt_of_le hs hb.size⟩
theorem Cells6.low {V V' : World} {B D : Nat} {x0 x1 x2 x3 x4 x5 : Value} (h : Cells6 V D x0 x1 x2 x3 x4 x5) (hb : Below B V V') (hD : D < B) : Cells6 V' D x0 x1 x2 x3 x4 x5 := by
 obtain ⟨h0, h1, h2, h3, h4, h5, z0, z1, z2, z3, z4, z5, hs⟩ := h
 exact ⟨(hb.cell (p := ⟨D, 0, none⟩) hD).trans h0, (hb.cell (p := ⟨D, 1, none⟩) hD).trans h1, (hb.cell (p := ⟨D, 2, none⟩) hD).trans h2, (hb.cell (p := ⟨D, 3, none⟩) hD).trans h3, (hb.cell (p := ⟨D, 4, none⟩) hD).trans h4, (hb.cell (p := ⟨D, 5, none⟩) hD).trans h5, (hb.frozen (p := ⟨D, 0, none⟩) hD).trans z0, (hb.frozen (p := ⟨D, 1, none⟩) hD).trans z1, (hb.frozen (p := ⟨D, 2, none⟩) hD).trans z2, (hb.frozen (p := ⟨D, 3, none⟩) hD).trans z3, (hb.frozen (p := ⟨D, 4, none⟩) hD).trans z4, (hb.frozen (p := ⟨D, 5, none⟩) hD).trans z5, Nat.lt_of_lt_of_le hs hb.size⟩
/-- A plate's box: what of it is read. -/
def PlAt (V : World) (P : Nat) (r c cap : Int) (sv : Value) : Prop := V.cell? ⟨P, 0, none⟩ = some (.int .i64 r) ∧ V.cell? ⟨P, 1, none⟩ = some (.int .i64 c) ∧ V.cell? ⟨P, 5, none⟩ = some (.int .i64 cap) ∧ V.cell? ⟨P, 6, none⟩ = some sv ∧ P < V.heap.size
theorem PlAt.below {V V' : World} {P : Nat} {r c cap : Int} {sv : Value} (h : PlAt V P r c cap sv) (hb : Below V.heap.size V V') : PlAt V' P r c cap sv := ⟨keep_cell hb h.1, keep_cell hb h.2.1, keep_cell hb h.2.2.1, keep_cell hb h.2.2.2.1, Nat.lt_of_lt_of_le h.2.2.2.2 hb.size⟩
theorem PlAt.grown {V V' : World} {P : Nat} {r c cap : Int} {sv : Value} {row : Option Nat} (h : PlAt V P r c cap sv) (hg : V.grownBy V' row) (hne : some P ≠ row) : PlAt V' P r c cap sv :=
 ⟨(hg.cell_far ⟨P, 0, none⟩ h.2.2.2.2 hne).trans h.1, (hg.cell_far ⟨P, 1, none⟩ h.2.2.2.2 hne).trans h.2.1, (hg.cell_far ⟨P, 5, none⟩ h.2.2.2.2 hne).trans h.2.2.1, (hg.cell_far ⟨P, 6, none⟩ h.2.2.2.2 hne).trans h.2.2.2.1, Nat.lt_of_lt_of_le h.2.2.2.2 hg.size⟩
theorem PlAt.off {V : World} {P D o : Nat} {r c cap : Int} {sv : Value} (h : PlAt V P r c cap sv) (hne : D ≠ P) (v : Value) : PlAt (V.setCell ⟨D, o, none⟩ v) P r c cap sv :=
 ⟨st_other h.1 (ad_ne (.inl hne)), st_other h.2.1 (ad_ne (.inl hne)), st_other h.2.2.1 (ad_ne (.inl hne)), st_other h.2.2.2.1 (ad_ne (.inl hne)), by simpa using h.2.2.2.2⟩
end Go.Proofs.YtmecohdedghiaaaGreatDoor
namespace Go.Proofs.YtmecohdedghiaaaGreatDoor
open Go.RowKit
def lwB : List Nat := [0, 4621256167635550208, 4625759767262920704]
def lwP (S : Option Addr) : Pl := ⟨1, 2, 4621256167635550208, 4620693217682128896, 4602678819172646912, 100, S, 1, 1, [40]⟩
def lwR : Rk := ⟨1, 1, 4611686018427387904, 0, 0⟩
/-- The little deck, wherever its lists lie. -/
def lwD (A P R S : Option Addr) : Dk := ⟨A, 3, 3, lwB, P, 1, 1, [lwP S], R, 1, 1, [lwR], 2⟩
theorem lw_b : chkE lwB = 0 := by decide +kernel
theorem lw_row1 : rowV lwB ⟨1, 2, 4621256167635550208, 4620693217682128896, 4602678819172646912⟩ = [(0, 1, 0), (1, 1, 0)] := by decide +kernel
theorem lw_row2 : rowV lwB ⟨1, 1, 4611686018427387904, 0, 0⟩ = [(0, 0, 0)] := by decide +kernel
theorem lw_chk (A P R S : Option Addr) : dchk (lwD A P R S) = 0 := by
  unfold dchk
  rw [show (lwD A P R S).bl = lwB from rfl, if_neg (by rw [lw_b]; simp)]
  kernel_rfl
theorem lw_racks (A P R S : Option Addr) : racksL (lwD A P R S) = [⟨1, 2, 4621256167635550208, 4620693217682128896, 4602678819172646912⟩, ⟨1, 1, 4611686018427387904, 0, 0⟩] := rfl
theorem lw_z (A P R S : Option Addr) : zchk (lwD A P R S) = 0 := by
  unfold zchk zE
  rw [if_pos (lw_chk A P R S), lw_racks, List.flatMap_cons, List.flatMap_cons, List.flatMap_nil, List.append_nil]
  show fstE (rowV lwB _ ++ rowV lwB _) = 0
  rw [lw_row1, lw_row2]
  rfl
theorem lw_tab (A P R S : Option Addr) : tabV (lwD A P R S) = [(0, 1), (1, 1), (0, 0), (0, 0), (1, 1)] := by
  unfold tabV
  rw [if_pos (lw_z A P R S), tab_eq, lw_racks, List.flatMap_cons, List.flatMap_cons, List.flatMap_nil, List.append_nil]
  show pairs ((blkV lwB _ ++ blkV lwB _) ++ _) = _
  unfold blkV
  rw [lw_row1, lw_row2]
  rfl
theorem lw_cnt (A P R S : Option Addr) : frst (lwD A P R S) = 3 := by
  unfold frst cntV
  rw [if_pos (lw_chk A P R S)]
  kernel_rfl
theorem lw_in (A P R S : Option Addr) (id : Int) : inR (lwD A P R S) id = decide (0 ≤ id ∧ id < 5) := by
  unfold inR
  rw [lw_tab]
  rfl
theorem lw_sp (A P R S : Option Addr) (id : Int) : spA (lwD A P R S) id = ([(0, 1), (1, 1), (0, 0), (0, 0), (1, 1)] : List (Int × Int)).getD id.toNat (0, 0) := by
  unfold spA
  rw [lw_tab]
theorem lw_e (A P R S : Option Addr) (ids : List Int) (h : ids.all (fun id => decide (0 ≤ id ∧ id < 5)) = true) : spsE (lwD A P R S) ids = 0 := by
  unfold spsE
  rw [if_pos (lw_z A P R S), if_pos]
  rw [← h]
  congr 1
  funext id
  exact lw_in A P R S id
theorem lw_set (A P R S : Option Addr) : setV (lwD A P R S) [0] = [3, 4] := by
  unfold setV spsL
  rw [if_pos (lw_e A P R S [0] (by decide))]
  show foldS (lwD A P R S) [spA (lwD A P R S) 0] = _
  rw [lw_sp]
  unfold foldS lanP
  rw [lw_cnt]
  rfl
theorem lw_well (A P R S : Option Addr) : wellN (lwD A P R S) = 2 := by kernel_rfl
set_option maxRecDepth 100000 in
set_option maxHeartbeats 4000000 in
theorem little_any (w : World) : Calls Tryz.prog 37 #[] w fun e w' => ∃ A P R S, e = .returned (lwD A P R S).v ∧ (lwD A P R S).In w' w'.heap.size ∧ Below w.heap.size w w' := by
  have hsf := fun (w : World) (a : Addr) (m : Mode) (b : Nat) => run_store_float (P := Tryz.prog) (w := w) (a := a) (m := m) .f64 b
  obtain ⟨w1, hw1⟩ : ∃ w1, w1 = w.alloc (.cells #[.slice (some ⟨w.heap.size + 1, 0, none⟩) 3 3, .slice (some ⟨w.heap.size + 1 + 1 + 1, 0, none⟩) 1 1, .slice (some ⟨w.heap.size + 1 + 1 + 1 + 1, 0, none⟩) 1 1, .int .i64 2] 26) := ⟨_, rfl⟩
  have hC1 : Cells4 w1 w.heap.size (.slice (some ⟨w.heap.size + 1, 0, none⟩) 3 3) (.slice (some ⟨w.heap.size + 1 + 1 + 1, 0, none⟩) 1 1) (.slice (some ⟨w.heap.size + 1 + 1 + 1 + 1, 0, none⟩) 1 1) (.int .i64 2) := by rw [hw1]; exact Cells4.new w _ _ _ _ _
  have hs1 : w1.heap.size = w.heap.size + 1 := by rw [hw1]; simp
  have hb1 : Below w.heap.size w w1 := by rw [hw1]; exact Below.al (Below.refl _ _) _
  obtain ⟨w2, hw2⟩ : ∃ w2, w2 = w1.alloc (.cells #[.float .f64 0, .float .f64 4621256167635550208, .float .f64 4625759767262920704] 84) := ⟨_, rfl⟩
  have hA := Lk.IsL.lits (K := KF) w1 lwB #[.float .f64 0, .float .f64 4621256167635550208, .float .f64 4625759767262920704] (show ∀ x ∈ lwB, x < 18446744073709551616 by decide) rfl (by decide) (w.heap.size + 1) hs1
  rw [show w1.alloc (.cells #[.float .f64 0, .float .f64 4621256167635550208, .float .f64 4625759767262920704] KF.E) = w2 from hw2.symm] at hA
  have hs2 : w2.heap.size = w.heap.size + 1 + 1 := by rw [hw2]; simp [hs1]
  have hb2 : Below w1.heap.size w1 w2 := by rw [hw2]; exact Below.al (Below.refl _ _) _
  obtain ⟨w3, hw3⟩ : ∃ w3, w3 = w2.alloc (.cells #[.int .i64 40] 3) := ⟨_, rfl⟩
  have hS := Lk.IsL.lits (K := KI) w2 [40] #[.int .i64 40] (by intro x hx; simp at hx; subst hx; show fits 40; decide) rfl (by decide) (w.heap.size + 1 + 1) hs2
  rw [show w2.alloc (.cells #[.int .i64 40] KI.E) = w3 from hw3.symm] at hS
  have hs3 : w3.heap.size = w.heap.size + 1 + 1 + 1 := by rw [hw3]; simp [hs2]
  have hb3 : Below w2.heap.size w2 w3 := by rw [hw3]; exact Below.al (Below.refl _ _) _
  obtain ⟨w4, hw4⟩ : ∃ w4, w4 = w3.alloc (.cells #[.int .i64 1, .int .i64 2, .float .f64 4621256167635550208, .float .f64 4620693217682128896, .float .f64 4602678819172646912, .int .i64 100, .slice (some ⟨w.heap.size + 1 + 1, 0, none⟩) 1 1] 86) := ⟨_, rfl⟩
  have hP := Lk.IsL.lits (K := KP) w3 [lwP (some ⟨w.heap.size + 1 + 1, 0, none⟩)] #[.int .i64 1, .int .i64 2, .float .f64 4621256167635550208, .float .f64 4620693217682128896, .float .f64 4602678819172646912, .int .i64 100, .slice (some ⟨w.heap.size + 1 + 1, 0, none⟩) 1 1] (by
    intro x hx
    simp at hx
    subst hx
    show fits 1 ∧ fits 2 ∧ (4621256167635550208 : Nat) < 18446744073709551616 ∧ (4620693217682128896 : Nat) < 18446744073709551616 ∧ (4602678819172646912 : Nat) < 18446744073709551616 ∧ fits 100
    decide) rfl (by simp) (w.heap.size + 1 + 1 + 1) hs3
  rw [show w3.alloc (.cells #[.int .i64 1, .int .i64 2, .float .f64 4621256167635550208, .float .f64 4620693217682128896, .float .f64 4602678819172646912, .int .i64 100, .slice (some ⟨w.heap.size + 1 + 1, 0, none⟩) 1 1] KP.E) = w4 from hw4.symm] at hP
  have hs4 : w4.heap.size = w.heap.size + 1 + 1 + 1 + 1 := by rw [hw4]; simp [hs3]
  have hb4 : Below w3.heap.size w3 w4 := by rw [hw4]; exact Below.al (Below.refl _ _) _
  obtain ⟨w5, hw5⟩ : ∃ w5, w5 = w4.alloc (.cells #[.int .i64 1, .int .i64 1, .float .f64 4611686018427387904, .float .f64 0, .float .f64 0] 118) := ⟨_, rfl⟩
  have hR := Lk.IsL.lits (K := KR) w4 [lwR] #[.int .i64 1, .int .i64 1, .float .f64 4611686018427387904, .float .f64 0, .float .f64 0] (by
    intro x hx
    simp at hx
    subst hx
    show fits 1 ∧ fits 1 ∧ (4611686018427387904 : Nat) < 18446744073709551616 ∧ (0 : Nat) < 18446744073709551616 ∧ (0 : Nat) < 18446744073709551616
    decide) rfl (by simp) (w.heap.size + 1 + 1 + 1 + 1) hs4
  rw [show w4.alloc (.cells #[.int .i64 1, .int .i64 1, .float .f64 4611686018427387904, .float .f64 0, .float .f64 0] KR.E) = w5 from hw5.symm] at hR
  have hb5 : Below w4.heap.size w4 w5 := by rw [hw5]; exact Below.al (Below.refl _ _) _
  have hs5 : w5.heap.size = w.heap.size + 1 + 1 + 1 + 1 + 1 := by rw [hw5]; simp [hs4]
  have HIN := Lib.hid (show (lwD (some ⟨w.heap.size + 1, 0, none⟩) (some ⟨w.heap.size + 1 + 1 + 1, 0, none⟩) (some ⟨w.heap.size + 1 + 1 + 1 + 1, 0, none⟩) (some ⟨w.heap.size + 1 + 1, 0, none⟩)).In w5 w5.heap.size by
    rw [hs2] at hb3
    rw [hs3] at hb4
    rw [hs4] at hb5
    refine ⟨(((hA.below hb3).below (hb4.mono (by omega))).below (hb5.mono (by omega))).more (by omega), ((hP.below hb5).more (by omega)), hR.more (by omega), fun q hq => ?_, (by show fits 2; decide)⟩
    have hq' : q = lwP (some ⟨w.heap.size + 1 + 1, 0, none⟩) := by simpa [lwD] using hq
    subst hq'
    exact ((hS.below hb4).below (hb5.mono (by omega))).more (by omega))
  have HBW := Lib.hid (show Below w.heap.size w w5 from Below.call (Below.call (Below.call (Below.call hb1 hb2) hb3) hb4) hb5)
  have HC5 := Lib.hid ((((hC1.below hb2).below hb3).below hb4).below hb5)
  have hw5' : w5 = ((((w.alloc (.cells #[.slice (some ⟨w.heap.size + 1, 0, none⟩) 3 3, .slice (some ⟨w.heap.size + 1 + 1 + 1, 0, none⟩) 1 1, .slice (some ⟨w.heap.size + 1 + 1 + 1 + 1, 0, none⟩) 1 1, .int .i64 2] 26)).alloc (.cells #[.float .f64 0, .float .f64 4621256167635550208, .float .f64 4625759767262920704] 84)).alloc (.cells #[.int .i64 40] 3)).alloc (.cells #[.int .i64 1, .int .i64 2, .float .f64 4621256167635550208, .float .f64 4620693217682128896, .float .f64 4602678819172646912, .int .i64 100, .slice (some ⟨w.heap.size + 1 + 1, 0, none⟩) 1 1] 86)).alloc (.cells #[.int .i64 1, .int .i64 1, .float .f64 4611686018427387904, .float .f64 0, .float .f64 0] 118) := by rw [hw5, hw4, hw3, hw2, hw1]
  clear hw1 hw2 hw3 hw4 hw5 hA hS hP hR hb1 hb2 hb3 hb4 hb5 hs1 hs2 hs3 hs4 hC1
  go_enter Tryz.func37, Tryz.ntmps37
  go_wp2
  rw [← hw5']
  obtain ⟨c0, c1, c2, c3, y0, y1, y2, y3, -⟩ := HC5.out
  refine bodyPost_ret (v := (lwD (some ⟨w.heap.size + 1, 0, none⟩) (some ⟨w.heap.size + 1 + 1 + 1, 0, none⟩) (some ⟨w.heap.size + 1 + 1 + 1 + 1, 0, none⟩) (some ⟨w.heap.size + 1 + 1, 0, none⟩)).v) ?_ rfl ⟨_, _, _, _, rfl, ?_, ?_⟩
  · simp [results, Tryz.results37, go_sem, c0, c1, c2, c3, lwD]
  · exact HIN.out
  · exact HBW.out
end Go.Proofs.YtmecohdedghiaaaGreatDoor
namespace Go.Proofs.YtmecohdedghiaaaGreatDoor.Nn
/-- The class of a float's bits. -/
def cls (b : Nat) : Int :=
 if b / 4503599627370496 % 2048 = 2047 then (if b % 4503599627370496 = 0 then 2 else 1)
 else if b / 4503599627370496 % 2048 = 0 then (if b % 4503599627370496 = 0 then 3 else 4) else 5
/-- Has it a minus? -/
def mns (b : Nat) : Bool := decide (9223372036854775808 ≤ b) && cls b != 1
/-- The place in the order. -/
def rnk (b : Nat) : Nat :=
 if cls b = 1 then 18446744073709551615 else if 9223372036854775808 ≤ b then 18446744073709551615 - b else b + 9223372036854775808
theorem andNot_sign (b : Nat) (h : b < 18446744073709551616) : bits .andNot .u64 (b : Int) 9223372036854775808 = ((b % 9223372036854775808 : Nat) : Int) := by
 have e := u64_andNot_nat b 9223372036854775808 h (by omega)
 have e2 : b &&& (18446744073709551615 - 9223372036854775808) = b % 9223372036854775808 := Nat.and_two_pow_sub_one_eq_mod b 63
 rw [e2] at e
 exact e
theorem and_frac (b : Nat) (h : b < 18446744073709551616) : bits .and .u64 (b : Int) 4503599627370495 = ((b % 4503599627370496 : Nat) : Int) := by
 have e := u64_and_nat b 4503599627370495 h (by omega)
 have e2 : b &&& 4503599627370495 = b % 4503599627370496 := Nat.and_two_pow_sub_one_eq_mod b 52
 rw [e2] at e
 exact e
theorem and_exp (b : Nat) (h : b < 18446744073709551616) : bits .and .u64 (b : Int) 2047 = ((b % 2048 : Nat) : Int) := by
 have e := u64_and_nat b 2047 h (by omega)
 have e2 : b &&& 2047 = b % 2048 := Nat.and_two_pow_sub_one_eq_mod b 11
 rw [e2] at e
 exact e
theorem or_hidden (b : Nat) (h : b < 4503599627370496) : bits .or .u64 (b : Int) 4503599627370496 = ((b + 4503599627370496 : Nat) : Int) := by
 have e := u64_or_nat b 4503599627370496 (by omega) (by omega)
 have e2 : 4503599627370496 ||| b = 4503599627370496 + b := nat_join 52 4503599627370496 b (by decide) h
 rw [Nat.or_comm, e2, Nat.add_comm] at e
 exact e
theorem cls_range (b : Nat) : 1 ≤ cls b ∧ cls b ≤ 5 := by unfold cls; (repeat' split) <;> omega
theorem cls_1 (b : Nat) : cls b = 1 ↔ 9218868437227405312 < b % 9223372036854775808 := by
 unfold cls; (repeat' split) <;> omega
theorem cls_2 (b : Nat) : cls b = 2 ↔ b % 9223372036854775808 = 9218868437227405312 := by
 unfold cls; (repeat' split) <;> omega
theorem cls_3 (b : Nat) : cls b = 3 ↔ b % 9223372036854775808 = 0 := by
 unfold cls; (repeat' split) <;> omega
theorem cls_4 (b : Nat) : cls b = 4 ↔ 0 < b % 9223372036854775808 ∧ b % 9223372036854775808 ≤ 4503599627370495 := by
 unfold cls; (repeat' split) <;> omega
theorem cls_5 (b : Nat) : cls b = 5 ↔ 4503599627370495 < b % 9223372036854775808 ∧ b % 9223372036854775808 < 9218868437227405312 := by
 unfold cls; (repeat' split) <;> omega
theorem ret_u {a b : Int} (h : a = b) : Ending.returned (.int .u64 a) = .returned (.int .u64 b) := by rw [h]
theorem ret_i {a b : Int} (h : a = b) : Ending.returned (.int .i64 a) = .returned (.int .i64 b) := by rw [h]
theorem ret_b {a b : Bool} (h : a = b) : Ending.returned (.bool a) = .returned (.bool b) := by rw [h]
end Go.Proofs.YtmecohdedghiaaaGreatDoor.Nn
namespace Go.Proofs.YtmecohdedghiaaaGreatDoor.Nn
theorem ctzFrom_mul : ∀ (f k m : Nat), m % 2 = 1 → k < f → Lib.ctzFrom f (m * 2 ^ k) = k
 | 0, k, m, _, h => by omega
 | f + 1, 0, m, hm, _ => by simp [Lib.ctzFrom, hm]
 | f + 1, k + 1, m, hm, h => by
  have e : m * 2 ^ (k + 1) = 2 * (m * 2 ^ k) := by rw [Nat.pow_succ, Nat.mul_comm (2 ^ k) 2, Nat.mul_left_comm]
  unfold Lib.ctzFrom
  rw [e, if_neg (by omega), Nat.mul_div_cancel_left _ (by decide), ctzFrom_mul f k m hm (by omega)]
  omega
theorem ctz_mul (k m : Nat) (hm : m % 2 = 1) (hk : k < 64) : Lib.ctz 64 (m * 2 ^ k) = k := by
 have h0 : m * 2 ^ k ≠ 0 := by
  have := Nat.two_pow_pos k
  have h1 : 0 < m * 2 ^ k := Nat.mul_pos (by omega) this
  omega
 unfold Lib.ctz
 rw [if_neg h0]
 exact ctzFrom_mul 64 k m hm hk
/-- The mantissa, the power of its last bit. -/
def man (b : Nat) : Nat := if cls b = 5 then b % 4503599627370496 + 4503599627370496 else b % 4503599627370496
def exq (b : Nat) : Int := if cls b = 5 then (b : Int) / 4503599627370496 % 2048 - 1075 else -1074
def tzs (b : Nat) : Nat := Lib.ctz 64 (man b)
def odd (b : Nat) : Nat := man b / 2 ^ tzs b
/-- The parts. -/
def pm (b : Nat) : Int := if cls b < 4 then 0 else if mns b then -(odd b : Int) else odd b
def pe (b : Nat) : Int := if cls b < 4 then 0 else exq b + tzs b
theorem man_bd (b : Nat) (h : 4 ≤ cls b) : 0 < man b ∧ man b < 9007199254740992 := by
 unfold man
 split
 ·omega
 ·have : cls b = 4 := by have := cls_range b; omega
  rw [cls_4] at this
  omega
theorem exq_bd (b : Nat) : -1074 ≤ exq b ∧ exq b ≤ 971 := by
 unfold exq
 split
 ·rename_i h
  rw [cls_5] at h
  omega
 ·omega
/-- The mantissa is its odd part with the power of 2 that is taken out. -/
theorem man_odd (b : Nat) (h : 4 ≤ cls b) : man b = odd b * 2 ^ tzs b ∧ odd b % 2 = 1 ∧ tzs b ≤ 52 ∧ 0 < odd b ∧ odd b < 9007199254740992 := by
 obtain ⟨h0, h1⟩ := man_bd b h
 obtain ⟨m, hm, _⟩ := Lib.ctzFrom_spec 64 (man b) h0 (by omega)
 have e : tzs b = Lib.ctzFrom 64 (man b) := by unfold tzs Lib.ctz; rw [if_neg (by omega)]
 rw [← e] at hm
 have e2 : odd b = 2 * m + 1 := by unfold odd; rw [hm, Nat.mul_comm, Nat.mul_div_cancel _ (Nat.two_pow_pos _)]
 have e3 : man b = odd b * 2 ^ tzs b := by rw [e2, hm, Nat.mul_comm]
 have hle : 2 ^ tzs b ≤ man b := by rw [e3]; exact Nat.le_mul_of_pos_left _ (by omega)
 have hlt : tzs b < 53 := by
  apply Nat.lt_of_not_le
  intro hh
  have : 2 ^ 53 ≤ 2 ^ tzs b := Nat.pow_le_pow_right (by decide) hh
  omega
 have h4 : odd b ≤ man b := by rw [e3]; exact Nat.le_mul_of_pos_right _ (Nat.two_pow_pos _)
 exact ⟨e3, by omega, by omega, by omega, by omega⟩
/-- What a loop that halves comes to. -/
theorem odd_of (b k m : Nat) (h : 4 ≤ cls b) (e : man b = m * 2 ^ k) (hm : m % 2 = 1) : tzs b = k ∧ odd b = m := by
 obtain ⟨_, h1⟩ := man_bd b h
 have hk : k < 64 := by
  apply Nat.lt_of_not_le
  intro hh
  have : 2 ^ 64 ≤ 2 ^ k := Nat.pow_le_pow_right (by decide) hh
  have h3 : 2 ^ k ≤ m * 2 ^ k := Nat.le_mul_of_pos_left _ (by omega)
  omega
 have e1 : tzs b = k := by unfold tzs; rw [e]; exact ctz_mul k m hm hk
 refine ⟨e1, ?_⟩
 unfold odd
 rw [e1, e, Nat.mul_div_cancel _ (Nat.two_pow_pos _)]
theorem half_step (M k m : Nat) (h0 : 0 < M) (hM : M < 9007199254740992) (e : M = m * 2 ^ k) (hm : m % 2 = 0) : M = m / 2 * 2 ^ (k + 1) ∧ k + 1 ≤ 52 ∧ m / 2 < m := by
 have hm0 : m ≠ 0 := by intro h; subst h; simp at e; omega
 have e2 : m = 2 * (m / 2) := by omega
 have e3 : M = m / 2 * 2 ^ (k + 1) := by rw [Nat.pow_succ, Nat.mul_comm (2 ^ k) 2, Nat.mul_left_comm, ← Nat.mul_assoc, ← e2]; exact e
 refine ⟨e3, ?_, by omega⟩
 apply Nat.le_of_not_lt
 intro hh
 have : 2 ^ 53 ≤ 2 ^ (k + 1) := Nat.pow_le_pow_right (by decide) (by omega)
 have h3 : 2 ^ (k + 1) ≤ m / 2 * 2 ^ (k + 1) := Nat.le_mul_of_pos_left _ (by omega)
 omega
end Go.Proofs.YtmecohdedghiaaaGreatDoor.Nn
namespace Go.Proofs.YtmecohdedghiaaaGreatDoor.Nn
/-- Rounded, out of a quotient, a rest and the half. -/
def rndq (q r hf : Nat) : Nat := if hf < r ∨ (r = hf ∧ q % 2 = 1) then q + 1 else q
/-- n / 2^k, rounded. -/
def rnd (n k : Nat) : Nat := rndq (n / 2 ^ k) (n % 2 ^ k) (2 ^ (k - 1))
theorem rndq_le (q r hf : Nat) : q ≤ rndq q r hf ∧ rndq q r hf ≤ q + 1 := by
 unfold rndq
 split <;> omega
/-- The power of the last bit. -/
def lastp (n : Nat) (e : Int) : Int := max (e + Lib.bitLen n - 53) (-1074)
/-- What is kept of the number. -/
def kept (n : Nat) (e : Int) : Nat := if lastp n e ≤ e then n * 2 ^ (e - lastp n e).toNat else rnd n (lastp n e - e).toNat
def infB : Nat := 9218868437227405312
/-- The bits of the float that is nearest to n * 2^e. -/
def mkBits (n : Nat) (e : Int) : Nat :=
 if n = 0 ∨ e < -1138 then 0 else if 1023 < e then infB else min ((lastp n e + 1074).toNat * 4503599627370496 + kept n e) infB
theorem pow_mono {a b : Nat} (h : a ≤ b) : 2 ^ a ≤ 2 ^ b := Nat.pow_le_pow_right (by decide) h
end Go.Proofs.YtmecohdedghiaaaGreatDoor.Nn
namespace Go.Proofs.YtmecohdedghiaaaGreatDoor.Nn
/-- Does one stand ahead of another? -/
def ahd (a b : Nat) : Bool := decide (rnk a < rnk b)
def sam (a b : Nat) : Bool := decide (rnk a = rnk b)
/-- The first, the last, how many: one float more. -/
def endStep (s : Nat × Nat × Nat) (f : Nat) : Nat × Nat × Nat :=
 if cls f = 1 then s else (if s.2.2 = 0 ∨ ahd f s.1 = true then f else s.1, if s.2.2 = 0 ∨ ahd s.2.1 f = true then f else s.2.1, s.2.2 + 1)
def ends (l : List Nat) : Nat × Nat × Nat := l.foldl endStep (0, 0, 0)
end Go.Proofs.YtmecohdedghiaaaGreatDoor.Nn
namespace Go.Proofs.YtmecohdedghiaaaGreatDoor.Nn
/-- The whole number next to p * 2^e; 2^40 + 1 for all that is above 2^40, where e is no minus. -/
def near (p : Nat) (e : Int) : Nat :=
 if e < -63 then 0 else if e < 0 then rnd p (-e).toNat else if 1099511627776 / 2 ^ e.toNat < p then 1099511627777 else p * 2 ^ e.toNat
def nanoOf (b : Nat) : Nat := near (odd b * 1000) (pe b)
/-- The error, the volume. -/
def ofE (b : Nat) : Int :=
 if cls b = 1 then 20 else if cls b = 2 then 21 else if cls b = 3 then 0 else if mns b = true then 22 else if 1099511627776 < nanoOf b then 4 else 0
def ofV (b : Nat) : Nat := if 4 ≤ cls b ∧ ofE b = 0 then nanoOf b else 0
theorem quo_lt (p k : Nat) : 1099511627776 / 2 ^ k < p ↔ 1099511627776 < p * 2 ^ k := by
 rw [Nat.div_lt_iff_lt_mul (Nat.two_pow_pos _)]
theorem near_neg (p : Nat) (e : Int) (h : e < 0) (hp : p < 9223372036854775808) : near p e ≤ 9223372036854775807 := by
 unfold near
 split
 ·omega
 ·have := (rndq_le (p / 2 ^ (-e).toNat) (p % 2 ^ (-e).toNat) (2 ^ ((-e).toNat - 1))).2
  have h6 : p / 2 ^ (-e).toNat ≤ p / 2 := by
   apply Nat.div_le_div_left _ (by decide)
   have := pow_mono (a := 1) (b := (-e).toNat) (by omega)
   omega
  unfold rnd
  omega
theorem near_far (p : Nat) (e : Int) (h : 0 ≤ e) : near p e ≤ 1099511627777 := by
 unfold near
 rw [if_neg (by omega), if_neg (by omega)]
 split
 ·omega
 ·rename_i hh
  rw [quo_lt] at hh
  omega
theorem near_lt (p : Nat) (e : Int) (hp : p < 9223372036854775808) : near p e ≤ 9223372036854775807 := by
 by_cases h : e < 0
 ·exact near_neg p e h hp
 ·have := near_far p e (by omega)
  omega
/-- At 2^-64 a number below 2^63 is less than a half. -/
theorem rnd_64 (p : Nat) (hp : p < 9223372036854775808) : rnd p 64 = 0 := by
 unfold rnd rndq
 have h1 : p / 2 ^ 64 = 0 := by omega
 have h2 : p % 2 ^ 64 = p := by omega
 have h3 : 2 ^ (64 - 1) = 9223372036854775808 := rfl
 rw [h1, h2, h3, if_neg (by omega)]
theorem near_rnd (p : Nat) (e : Int) (h : e < 0) (h1 : -64 ≤ e) (hp : p < 9223372036854775808) : rnd p (-e).toNat = near p e := by
 unfold near
 by_cases hh : e < -63
 ·obtain rfl : e = -64 := by omega
  rw [if_pos hh]
  exact rnd_64 p hp
 ·rw [if_neg hh, if_pos h]
/-- What the reference's doubling comes to. -/
theorem near_dbl (p i : Nat) (e : Int) (h : 0 ≤ e) (hi : (i : Int) ≤ e) (hd : (i : Int) = e ∨ 1099511627776 < p * 2 ^ i) : (1099511627776 < p * 2 ^ i ↔ 1099511627776 < near p e) ∧ (p * 2 ^ i ≤ 1099511627776 → near p e = p * 2 ^ i) := by
 have hk : ∃ k, e.toNat = i + k := ⟨e.toNat - i, by omega⟩
 obtain ⟨k, hk⟩ := hk
 have hm : p * 2 ^ i ≤ p * 2 ^ e.toNat := Nat.mul_le_mul_left _ (pow_mono (by omega))
 unfold near
 rw [if_neg (by omega), if_neg (by omega)]
 rcases hd with hd | hd
 ·have e1 : e.toNat = i := by omega
  rw [e1]
  split
  ·rename_i hh
   rw [quo_lt] at hh
   exact ⟨by omega, by omega⟩
  ·rename_i hh
   rw [quo_lt] at hh
   exact ⟨by omega, by omega⟩
 ·have hh : 1099511627776 / 2 ^ e.toNat < p := by rw [quo_lt]; omega
  rw [if_pos hh]
  exact ⟨by omega, by omega⟩
theorem dbl (p i : Nat) : p * 2 ^ (i + 1) = 2 * (p * 2 ^ i) := by rw [Nat.pow_succ, Nat.mul_comm (2 ^ i) 2, Nat.mul_left_comm]
end Go.Proofs.YtmecohdedghiaaaGreatDoor.Nn

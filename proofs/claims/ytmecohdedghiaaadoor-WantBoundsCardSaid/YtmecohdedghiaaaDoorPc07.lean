/- What kind a part is, what a kind names: the reference. -/
import Derived.Test.YtmecohdedghiaaaDoorPc05
import Derived.Test.YtmecohdedghiaaaDoorPc06
import Derived.RangeFuncNested
import Derived.RangeFuncBound
import Derived.RangeFuncCalls
import Derived.RangeFuncLeaves
import Derived.RangeFuncBox
import Derived.Shelf.Abstract
import Derived.Shelf.RegionOpen
import Derived.OwnWalkIn
import Derived.TacticsInMore
import Derived.LoopNIn
import Derived.LoopIn
import Derived.Maps.AppendAt
import Derived.Test.YtmecohdedghiaaaDoorPc03
import Derived.Deep.Cut
import Derived.Test.YtmecohdedghiaaaDoorPc02
namespace Go.Proofs.YtmecohdedghiaaaDoor
open Go.RowKit
/-- A request: its kind, where its ids lie and which they are, its numbers, its bits. -/
structure Rq where
  k : Int
  iA : Option Addr
  ic : Nat
  il : List Int
  a : Int
  b : Int
  u : Int
  v : Nat
abbrev Rq.ob (r : Rq) : Array Value := #[.int .i64 r.k, .slice r.iA r.il.length r.ic, .int .i64 r.a, .int .i64 r.b, .int .i64 r.u, .int .u64 r.v]
abbrev Rq.val (r : Rq) : Value := .agg #[.int .i64 r.k, .slice r.iA r.il.length r.ic, .int .i64 r.a, .int .i64 r.b, .int .i64 r.u, .int .u64 r.v]
/-- A request that lies in memory below a block. -/
structure Rq.In (w : World) (B : Nat) (r : Rq) : Prop where
  l : KI.IsL w B (.slice r.iA r.il.length r.ic) r.il
  k : fits r.k
  a : fits r.a
  b : fits r.b
  u : fits r.u
  v : r.v < 18446744073709551616
theorem Rq.In.below {w w' : World} {B : Nat} {r : Rq} (h : r.In w B) (hb : Below B w w') : r.In w' B := ⟨h.l.below hb, h.k, h.a, h.b, h.u, h.v⟩
theorem Rq.In.more {w : World} {B B' : Nat} {r : Rq} (h : r.In w B) (hB : B ≤ B') : r.In w B' := ⟨h.l.more hB, h.k, h.a, h.b, h.u, h.v⟩
theorem Rq.In.then {w w' : World} {r : Rq} (h : r.In w w.heap.size) (hb : Below w.heap.size w w') : r.In w' w'.heap.size := (h.below hb).more hb.size
abbrev RqAt (w : World) (B : Nat) (r : Rq) : Prop := Cells6 w B (.int .i64 r.k) (.slice r.iA r.il.length r.ic) (.int .i64 r.a) (.int .i64 r.b) (.int .i64 r.u) (.int .u64 r.v)
theorem Nn.Tab.below {w w' : World} (h : Nn.Tab w) (hb : Below w.heap.size w w') : Nn.Tab w' := fun j hj => keep_cell hb (h j hj)
/-- The volume that is wanted, or why not. -/
def voE (v : Nat) : Int := if Nn.ofE v = 0 ∧ Nn.ofV v = 0 then 1 else Nn.ofE v
def voV (v : Nat) : Int := Nn.ofV v
set_option maxRecDepth 100000 in
set_option maxHeartbeats 4000000 in
theorem volume_any (r : Rq) (w : World) (hv : r.v < 18446744073709551616) (hT : Nn.Tab w) : Calls Tryd.prog 7 #[r.val] w fun e w' => e = .returned (.tuple #[.int .i64 (voV r.v), .int .i64 (voE r.v)]) ∧ Below w.heap.size w w' := by
  have hfb := fun (b : Int) w => Nn.run_frombits b w
  have HT1 := Lib.hid (hT.below (Below.al (Below.refl w.heap.size w) (.cells r.ob 30)))
  have HO := Lib.hid (fun w h => Nn.of_any r.v hv w h)
  have HE := Lib.hid (show voE r.v = if Nn.ofE r.v = 0 ∧ voV r.v = 0 then 1 else Nn.ofE r.v by unfold voE voV; simp only [Int.natCast_eq_zero])
  have hV : (Nn.ofV r.v : Int) = voV r.v := rfl
  rw [hV] at HO
  generalize voE r.v = VE at *
  generalize voV r.v = V at *
  obtain ⟨k, iA, ic, il, a, b, u, v⟩ := r
  dsimp only at *
  generalize Nn.ofE v = E at *
  clear hV hv hT
  by_cases hE : E = 0
  · subst hE
    by_cases hV : V = 0
    · subst hV
      obtain rfl : VE = 1 := by rw [HE.out]; simp
      go_enter Tryd.func7, Tryd.ntmps7
      go_wp2_with fail
      refine (HO.out _ HT1.out).mono ?_
      rintro e w1 ⟨rfl, d, rfl⟩
      go_wp2
      go_ret2
      exact ⟨rfl, below_drewN (Below.al (Below.refl _ _) _) d⟩
    · obtain rfl : VE = 0 := by rw [HE.out]; simp [hV]
      have hV' : (V == 0) = false := by simpa using hV
      clear hV
      go_enter Tryd.func7, Tryd.ntmps7
      go_wp2_with fail
      refine (HO.out _ HT1.out).mono ?_
      rintro e w1 ⟨rfl, d, rfl⟩
      go_wp2
      go_ret2
      exact ⟨rfl, below_drewN (Below.al (Below.refl _ _) _) d⟩
  · obtain rfl : VE = E := by rw [HE.out]; simp [hE]
    have hE' : (VE == 0) = false := by simpa using hE
    clear hE HE
    go_enter Tryd.func7, Tryd.ntmps7
    go_wp2_with fail
    refine (HO.out _ HT1.out).mono ?_
    rintro e w1 ⟨rfl, d, rfl⟩
    go_wp2
    go_ret2
    exact ⟨rfl, below_drewN (Below.al (Below.refl _ _) _) d⟩
set_option maxRecDepth 100000 in
set_option maxHeartbeats 4000000 in
theorem rvolume_any (r : Rq) (w : World) (hv : r.v < 18446744073709551616) : Calls Tryd.prog 8 #[r.val] w fun e w' => e = .returned (.tuple #[.int .i64 (voV r.v), .int .i64 (voE r.v)]) ∧ Below w.heap.size w w' := by
  have HO := Lib.hid (fun w => Nn.rof_any r.v hv w)
  have HE := Lib.hid (show voE r.v = if Nn.ofE r.v = 0 ∧ voV r.v = 0 then 1 else Nn.ofE r.v by unfold voE voV; simp only [Int.natCast_eq_zero])
  have hV : (Nn.ofV r.v : Int) = voV r.v := rfl
  rw [hV] at HO
  generalize voE r.v = VE at *
  generalize voV r.v = V at *
  obtain ⟨k, iA, ic, il, a, b, u, v⟩ := r
  dsimp only at *
  generalize Nn.ofE v = E at *
  clear hV hv
  by_cases hE : E = 0
  · subst hE
    by_cases hV : V = 0
    · subst hV
      obtain rfl : VE = 1 := by rw [HE.out]; simp
      go_enter Tryd.func8, Tryd.ntmps8
      go_wp2_with fail
      refine (HO.out _).mono ?_
      rintro e w1 ⟨rfl, d, rfl⟩
      go_wp2
      go_ret2
      exact ⟨rfl, below_drewN (Below.al (Below.refl _ _) _) d⟩
    · obtain rfl : VE = 0 := by rw [HE.out]; simp [hV]
      have hV' : (V == 0) = false := by simpa using hV
      clear hV
      go_enter Tryd.func8, Tryd.ntmps8
      go_wp2_with fail
      refine (HO.out _).mono ?_
      rintro e w1 ⟨rfl, d, rfl⟩
      go_wp2
      go_ret2
      exact ⟨rfl, below_drewN (Below.al (Below.refl _ _) _) d⟩
  · obtain rfl : VE = E := by rw [HE.out]; simp [hE]
    have hE' : (VE == 0) = false := by simpa using hE
    clear hE HE
    go_enter Tryd.func8, Tryd.ntmps8
    go_wp2_with fail
    refine (HO.out _).mono ?_
    rintro e w1 ⟨rfl, d, rfl⟩
    go_wp2
    go_ret2
    exact ⟨rfl, below_drewN (Below.al (Below.refl _ _) _) d⟩
end Go.Proofs.YtmecohdedghiaaaDoor
namespace Go.Proofs.YtmecohdedghiaaaDoor
open Go.RowKit
def unN (k n : Int) : Int := if k = 1 ∨ k = 2 then 0 else n
def unA (k a : Int) : Int := if k = 4 ∨ k = 5 ∨ k = 6 ∨ k = 7 ∨ k = 9 ∨ k = 10 then 0 else a
def unB (k b : Int) : Int := if k = 4 then 0 else b
def unU (k u : Int) : Int := if k = 10 then 0 else u
def unV (k : Int) (v : Nat) : Nat := if k = 4 ∨ k = 5 ∨ k = 6 then 0 else v
theorem kEq (k : Int) (x : Int) : (k == x) = decide (k = x) := by rw [Bool.eq_iff_iff]; simp
/-- The kinds: one of ten, or none of them. -/
theorem kinds (k : Int) : k = 1 ∨ k = 2 ∨ k = 4 ∨ k = 5 ∨ k = 6 ∨ k = 7 ∨ k = 9 ∨ k = 10 ∨ ((k == 1) = false ∧ (k == 2) = false ∧ (k == 4) = false ∧ (k == 5) = false ∧ (k == 6) = false ∧ (k == 7) = false ∧ (k == 9) = false ∧ (k == 10) = false) := by
  simp only [kEq, decide_eq_false_iff_not]
  omega
set_option maxRecDepth 100000 in
set_option maxHeartbeats 4000000 in
theorem unnamed_any (r : Rq) (w : World) (hr : r.In w w.heap.size) : Calls Tryd.prog 58 #[r.val] w fun e w' => e = .returned (.agg #[.int .i64 (unN r.k r.il.length), .int .i64 (unA r.k r.a), .int .i64 (unB r.k r.b), .int .i64 (unU r.k r.u), .int .u64 (unV r.k r.v)]) ∧ Below w.heap.size w w' := by
  have HL := Lib.hid hr.l.2.2
  obtain ⟨k, iA, ic, il, a, b, u, v⟩ := r
  dsimp only at *
  clear hr
  rcases kinds k with rfl | rfl | rfl | rfl | rfl | rfl | rfl | rfl | ⟨k1, k2, k4, k5, k6, k7, k9, k10⟩
  all_goals
    go_enter Tryd.func58, Tryd.ntmps58
    go_wp2
    refine bodyPost_ret (v := .agg #[.int .i64 (unN _ _), .int .i64 (unA _ _), .int .i64 (unB _ _), .int .i64 (unU _ _), .int .u64 (unV _ _)]) ?_ rfl ⟨rfl, ?_⟩
    · first
        | (simp [results, Tryd.results58, go_sem, unN, unA, unB, unU, unV]; done)
        | (simp only [beq_eq_false_iff_ne, ne_eq] at k1 k2 k4 k5 k6 k7 k9 k10; simp [results, Tryd.results58, go_sem, unN, unA, unB, unU, unV, k1, k2, k4, k5, k6, k7, k9, k10])
    · repeat (first | exact Below.refl _ _ | refine Below.al ?_ _ | refine Below.st ?_ (by simp; omega))
end Go.Proofs.YtmecohdedghiaaaDoor
namespace Go.Proofs.YtmecohdedghiaaaDoor
open Go.RowKit
/-- A refusal's error and id, as a value. -/
def rfv (p : Int × Int) : Value := .agg #[.int .i64 p.1, .int .i64 p.2]
/-- Is nothing left beside what the kind names? -/
def unO (r : Rq) : Bool := decide (unN r.k r.il.length = 0) && (decide (unA r.k r.a = 0) && (decide (unB r.k r.b = 0) && (decide (unU r.k r.u = 0) && decide (unV r.k r.v = 0))))
open Classical in
/-- The place of the first number that stands ahead, too. -/
noncomputable def twV (l : List Int) : Int := Classical.epsilon (Two.Tw l)
theorem twV_eq {l : List Int} {t : Int} (h : Two.Tw l t) : twV l = t := (Classical.epsilon_spec (p := Two.Tw l) ⟨t, h⟩).uniq h
/-- What is wrong with a batch, whatever deck it is for. -/
noncomputable def mbV (l : List Int) : Int × Int := if l = [] then (1, 0) else if 16 < l.length then (2, 0) else if 0 ≤ twV l then (152, l.getD (twV l).toNat 0) else (0, 0)
/-- What is wrong with a request, whatever deck it is for. -/
noncomputable def mfV (r : Rq) : Int × Int := if r.k < 1 ∨ 10 < r.k then (150, 0) else if unO r = false then (151, 0) else if r.k = 1 ∨ r.k = 2 then mbV r.il else (0, 0)
set_option maxRecDepth 100000 in
set_option maxHeartbeats 4000000 in
theorem misbatched_any (v : Value) (l : List Int) (w : World) (hv : KI.IsL w w.heap.size v l) : Calls Tryd.prog 59 #[v] w fun e w' => e = .returned (rfv (mbV l)) ∧ Below w.heap.size w w' := by
  have HV := Lib.hid hv
  obtain ⟨A, c, rfl, hc⟩ := hv.shape
  clear hv
  have HM := Lib.hid (show mbV l = if l = [] then (1, 0) else if 16 < l.length then (2, 0) else if 0 ≤ twV l then (152, l.getD (twV l).toNat 0) else (0, 0) from rfl)
  have HTW := Lib.hid (fun t => twV_eq (l := l) (t := t))
  generalize mbV l = m at *
  unfold rfv
  by_cases h0 : l = []
  · subst h0
    obtain rfl : m = (1, 0) := by rw [HM.out]; rfl
    go_enter Tryd.func59, Tryd.ntmps59
    go_wp2
    refine bodyPost_ret (v := .agg #[.int .i64 1, .int .i64 0]) ?_ rfl ⟨rfl, ?_⟩
    · simp [results, Tryd.results59, go_sem]
    · repeat (first | exact Below.refl _ _ | refine Below.al ?_ _ | refine Below.st ?_ (by simp))
  have hl0 : ((l.length : Int) == 0) = false := by simpa using h0
  by_cases h1 : 16 < l.length
  · obtain rfl : m = (2, 0) := by rw [HM.out, if_neg h0, if_pos h1]
    clear h0
    go_enter Tryd.func59, Tryd.ntmps59
    go_wp2
    refine bodyPost_ret (v := .agg #[.int .i64 2, .int .i64 0]) ?_ rfl ⟨rfl, ?_⟩
    · simp [results, Tryd.results59, go_sem]
    · repeat (first | exact Below.refl _ _ | refine Below.al ?_ _ | refine Below.st ?_ (by simp))
  go_enter Tryd.func59, Tryd.ntmps59
  go_wp2_with fail
  refine (Two.twice_any _ l _ (two_of (HV.out.then (Below.al (Below.refl _ _) _))) (by omega)).mono ?_
  rintro e w1 ⟨⟨t, rfl, ht⟩, hb1⟩
  have HB1 := Lib.hid (Below.call (Below.al (Below.refl _ _) _) hb1)
  obtain ⟨c0, c1, z0, z1, -⟩ := (Cells2.new w 55 (.int .i64 0) (.int .i64 0)).below hb1
  clear hb1
  have ht0 := HTW.out t ht
  have hm1 : m = if 0 ≤ t then (152, l.getD t.toNat 0) else (0, 0) := by rw [HM.out, if_neg h0, if_neg h1, ht0]
  clear HTW ht0 h0
  by_cases h2 : 0 ≤ t
  · obtain ⟨i, hi, rfl⟩ : ∃ i : Nat, i < l.length ∧ t = i := by
      rcases ht with ⟨rfl, _⟩ | ⟨i, hi, rfl, _⟩
      · omega
      · exact ⟨i, hi, rfl⟩
    rw [if_pos h2, Int.toNat_natCast] at hm1
    obtain ⟨b, off, cap, hA, hcap, hb, hlm, hcell, hfit⟩ := KI.cells HV.out (by omega)
    have hci : w1.cell? ⟨b, off + i, none⟩ = some (.int .i64 (l.getD i 0)) := keep_cell HB1.out (hcell i hi)
    injection hA with hA1 hA2 hA3
    subst hA1
    obtain ⟨x, hx⟩ : ∃ x, l.getD i 0 = x := ⟨_, rfl⟩
    rw [hx] at hm1 hci
    subst hm1
    clear ht HM hcell hfit hA2 hA3 h2 hx
    go_wp2
    refine bodyPost_ret (v := .agg #[.int .i64 152, .int .i64 x]) ?_ rfl ⟨rfl, ?_⟩
    · simp [results, Tryd.results59, go_sem, c0, c1]
    · exact Below.st (Below.st HB1.out (Nat.le_refl _)) (Nat.le_refl _)
  · rw [if_neg h2] at hm1
    subst hm1
    clear ht HM
    go_wp2
    refine bodyPost_ret (v := .agg #[.int .i64 0, .int .i64 0]) ?_ rfl ⟨rfl, ?_⟩
    · simp [results, Tryd.results59, go_sem, c0, c1]
    · exact Below.st (Below.st HB1.out (Nat.le_refl _)) (Nat.le_refl _)
set_option maxRecDepth 100000 in
set_option maxHeartbeats 4000000 in
theorem misformed_any (r : Rq) (w : World) (hr : r.In w w.heap.size) : Calls Tryd.prog 42 #[r.val] w fun e w' => e = .returned (rfv (mfV r)) ∧ Below w.heap.size w w' := by
  have HR := Lib.hid hr
  clear hr
  have HM := Lib.hid (show mfV r = if r.k < 1 ∨ 10 < r.k then (150, 0) else if unO r = false then (151, 0) else if r.k = 1 ∨ r.k = 2 then mbV r.il else (0, 0) from rfl)
  have HU := Lib.hid (fun w h => unnamed_any r w h)
  have HUO := Lib.hid (show unO r = (decide (unN r.k r.il.length = 0) && (decide (unA r.k r.a = 0) && (decide (unB r.k r.b = 0) && (decide (unU r.k r.u = 0) && decide (unV r.k r.v = 0))))) from rfl)
  have HB := Lib.hid (fun w h => misbatched_any (.slice r.iA r.il.length r.ic) r.il w h)
  obtain ⟨w0, hw0⟩ : ∃ w0, w0 = (w.alloc (.cells r.ob 30)).alloc (.cells #[.int .i64 0, .int .i64 0] 55) := ⟨_, rfl⟩
  generalize mfV r = m at *
  by_cases h0 : r.k < 1
  · obtain rfl : m = (150, 0) := by rw [HM.out, if_pos (.inl h0)]
    unfold rfv
    go_enter Tryd.func42, Tryd.ntmps42
    go_wp2
    refine bodyPost_ret (v := .agg #[.int .i64 150, .int .i64 0]) ?_ rfl ⟨rfl, ?_⟩
    · simp [results, Tryd.results42, go_sem]
    · repeat (first | exact Below.refl _ _ | refine Below.al ?_ _ | refine Below.st ?_ (by simp))
  by_cases h1 : 10 < r.k
  · obtain rfl : m = (150, 0) := by rw [HM.out, if_pos (.inr h1)]
    unfold rfv
    go_enter Tryd.func42, Tryd.ntmps42
    go_wp2
    refine bodyPost_ret (v := .agg #[.int .i64 150, .int .i64 0]) ?_ rfl ⟨rfl, ?_⟩
    · simp [results, Tryd.results42, go_sem]
    · repeat (first | exact Below.refl _ _ | refine Below.al ?_ _ | refine Below.st ?_ (by simp))
  have hm1 : m = if unO r = false then (151, 0) else if r.k = 1 ∨ r.k = 2 then mbV r.il else (0, 0) := by rw [HM.out, if_neg (by omega)]
  clear HM
  generalize unN r.k r.il.length = nN at *
  generalize unA r.k r.a = nA at *
  generalize unB r.k r.b = nB at *
  generalize unU r.k r.u = nU at *
  generalize unV r.k r.v = nV at *
  go_enter Tryd.func42, Tryd.ntmps42
  go_wp2_with fail
  refine (HU.out _ (HR.out.then (Below.al (Below.al (Below.refl _ _) _) _))).mono ?_
  rintro e w1 ⟨rfl, hb1⟩
  have HB1 := Lib.hid (Below.call (Below.al (Below.al (Below.refl _ _) _) _) hb1)
  have HC := Lib.hid (((Cells6.new w 30 (.int .i64 r.k) (.slice r.iA r.il.length r.ic) (.int .i64 r.a) (.int .i64 r.b) (.int .i64 r.u) (.int .u64 r.v)).below (Below.al (Below.refl _ _) _)).below hb1)
  have HD := Lib.hid ((show Cells2 ((w.alloc (.cells r.ob 30)).alloc (.cells #[.int .i64 0, .int .i64 0] 55)) (w.heap.size + 1) (.int .i64 0) (.int .i64 0) from by
    have h := Cells2.new (w.alloc (.cells r.ob 30)) 55 (.int .i64 0) (.int .i64 0)
    rw [World.size_alloc] at h
    exact h).below hb1)
  obtain ⟨c0, c1, c2, c3, c4, c5, -⟩ := HC.out
  obtain ⟨d0, d1, z0, z1, -⟩ := HD.out
  have HM1 := Lib.hid hm1
  have HR1 := Lib.hid (HR.out.then HB1.out)
  clear hb1 hm1 h0 h1
  have hk : (r.k == 1) = true ∨ ((r.k == 1) = false ∧ (r.k == 2) = true) ∨ ((r.k == 1) = false ∧ (r.k == 2) = false) := by
    simp only [kEq, decide_eq_true_eq, decide_eq_false_iff_not]; omega
  rcases hk with k1 | ⟨k1, k2⟩ | ⟨k1, k2⟩
  all_goals
    go_wp2_with (go_at_call 59; refine (HB.out _ HR1.out.l).mono ?_; rintro e w2 ⟨rfl, hb2⟩; obtain ⟨y0, y1, x0, x1, -⟩ := HD.out.below hb2; have HB2 := Lib.hid (Below.call HB1.out hb2); have HMB := Lib.hid (show rfv (mbV r.il) = .agg #[.int .i64 (mbV r.il).1, .int .i64 (mbV r.il).2] from rfl); rw [HMB.out]; clear hb2)
  all_goals first
    | (obtain rfl : m = (0, 0) := by rw [HM1.out, HUO.out]; simp only [kEq, decide_eq_false_iff_not] at k1 k2; simp [*]; done
       refine bodyPost_ret (v := .agg #[.int .i64 0, .int .i64 0]) ?_ rfl ⟨rfl, ?_⟩
       · simp [results, Tryd.results42, go_sem, d0, d1]
       · exact Below.st (Below.st HB1.out (by simp)) (by simp))
    | (obtain rfl : m = (151, 0) := by rw [HM1.out, HUO.out]; simp [*]; done
       refine bodyPost_ret (v := .agg #[.int .i64 151, .int .i64 0]) ?_ rfl ⟨rfl, ?_⟩
       · simp [results, Tryd.results42, go_sem, d0, d1]
       · exact Below.st (Below.st HB1.out (by simp)) (by simp))
    | (have hm : m = mbV r.il := by rw [HM1.out, HUO.out]; simp only [kEq, decide_eq_true_eq, decide_eq_false_iff_not] at k1 k2; simp [*]
       rw [hm, HMB.out]
       refine bodyPost_ret (v := .agg #[.int .i64 (mbV r.il).1, .int .i64 (mbV r.il).2]) ?_ rfl ⟨rfl, ?_⟩
       · simp [results, Tryd.results42, go_sem, y0, y1]
       · exact Below.st (Below.st HB2.out (by simp)) (by simp))
    | (have hm : m = mbV r.il := by rw [HM1.out, HUO.out]; simp only [kEq, decide_eq_true_eq] at k1; simp [*]
       rw [hm, HMB.out]
       refine bodyPost_ret (v := .agg #[.int .i64 (mbV r.il).1, .int .i64 (mbV r.il).2]) ?_ rfl ⟨rfl, ?_⟩
       · simp [results, Tryd.results42, go_sem, y0, y1]
       · exact Below.st (Below.st HB2.out (by simp)) (by simp))
end Go.Proofs.YtmecohdedghiaaaDoor
namespace Go.Proofs.YtmecohdedghiaaaDoor
open Go.RowKit Go.Shelf
attribute [local go_sem] Oper.semAt_some
/-- Is an id that of a part of a kind (0: whatever kind)? -/
noncomputable def iwP (d : Dk) (k id : Int) : Bool := decide ((partV d id).2 = 0) && (decide (k = 0) || decide ((partV d id).1.a = k))
set_option maxRecDepth 100000 in
set_option maxHeartbeats 4000000 in
theorem isPartW_any (d : Dk) (k id : Int) (hid : fits id) (w : World) (hd : d.In w w.heap.size) : Calls Tryd.prog 44 #[d.v, .int .i64 k, .int .i64 id] w fun e w' => e = .returned (.bool (iwP d k id)) ∧ Below w.heap.size w w' := by
  obtain ⟨w0, hw0⟩ : ∃ w0, w0 = w.alloc (.cells #[.slice d.bA d.bn d.bc, .slice d.pA d.pn d.pc, .slice d.rA d.rn d.rc, .int .i64 d.arms] 26) := ⟨_, rfl⟩
  have HB0 := Lib.hid (show Below w.heap.size w w0 by rw [hw0]; exact Below.al (Below.refl _ _) _)
  have HD0 := Lib.hid (hd.then HB0.out)
  have HP := Lib.hid (fun w h => part_any d id hid w h)
  have e : iwP d k id = (decide ((partV d id).2 = 0) && (decide (k = 0) || decide ((partV d id).1.a = k))) := rfl
  generalize partV d id = t at *
  obtain ⟨⟨qa, qb, qc, qd⟩, er⟩ := t
  rw [e]
  clear e hd
  unfold partVal at HP
  dsimp only at HP ⊢
  go_enter Tryd.func44, Tryd.ntmps44
  go_wp2_with fail
  rw [← hw0]
  clear hw0
  refine (HP.out _ HD0.out).mono ?_
  rintro e w1 ⟨rfl, hb1⟩
  have HB1 := Lib.hid (Below.call HB0.out hb1)
  clear hb1
  by_cases h0 : er = 0
  · subst h0
    by_cases h1 : k = 0
    · subst h1
      go_wp2
      go_ret
      exact ⟨ret_b (by simp), by first | exact Below.al HB1.out _ | (exact Below.al (Below.al HB1.out _) _)⟩
    · have h1' : (k == 0) = false := by simpa using h1
      by_cases h2 : qa = k
      · go_wp2
        go_ret
        exact ⟨rfl, by first | exact Below.al HB1.out _ | (exact Below.al (Below.al HB1.out _) _)⟩
      · go_wp2
        go_ret
        exact ⟨ret_b (by simpa using h2), by first | exact Below.al HB1.out _ | (exact Below.al (Below.al HB1.out _) _)⟩
  · have h0' : (er == 0) = false := by simpa using h0
    have h0'' := h0
    clear h0
    go_wp2
    go_ret
    exact ⟨ret_b (by simp [h0'']), by first | exact Below.al HB1.out _ | (exact Below.al (Below.al HB1.out _) _)⟩
/-- A number as it may come; what is none is 0. -/
def cl (x : Int) : Int := if fits x then x else 0
theorem cl_fits (x : Int) : fits (cl x) := by unfold cl; split <;> first | assumption | decide
theorem cl_of {x : Int} (h : fits x) : cl x = x := if_pos h
abbrev enc2 (x : Int × Int) : Array Value := #[.int .i64 x.1, .int .i64 (cl x.2)]
/-- What a request names: of which kind it must be, and which id. -/
def nmL (r : Rq) : List (Int × Int) := if r.k = 1 ∨ r.k = 2 then r.il.map (fun x => (0, x)) else if r.k = 4 then [(1, r.a), (1, r.b)] else if r.k = 5 ∨ r.k = 6 ∨ r.k = 9 ∨ r.k = 10 then [(1, r.a)] else if r.k = 7 then [(2, r.a)] else []
theorem named_any (r : Rq) (w : World) : Calls Tryd.prog 43 #[r.val] w fun e w' => e = .returned (.func (.func 60) #[] #[.pointer (some ⟨w.heap.size, 0, none⟩)]) ∧ w' = w.alloc (.cells r.ob 30) := by
  go_enter Tryd.func43, Tryd.ntmps43
  go_wp2
  go_ret
  exact ⟨rfl, rfl⟩
/-- What a round keeps: what lies below a block, and the request's box. -/
def Kq (B Br : Nat) (W W' : World) : Prop := Below B W W' ∧ ∀ o v, W.cell? ⟨Br, o, none⟩ = some v → W'.cell? ⟨Br, o, none⟩ = some v
theorem Kq.refl (B Br : Nat) (W : World) : Kq B Br W W := ⟨Below.refl _ _, fun _ _ h => h⟩
theorem Kq.trans {B Br : Nat} {W W1 W2 : World} (h : Kq B Br W W1) (k : Kq B Br W1 W2) : Kq B Br W W2 := ⟨h.1.trans k.1, fun o v e => k.2 o v (h.2 o v e)⟩
theorem Kq.put {B Br : Nat} {w : World} (hB : B ≤ w.heap.size) (W : World) (l : Nat) (o o' : Obj) (hl : w.heap.size ≤ l) (ho : W.heap[l]? = some o) (hc : o.isCells = false) (hw : o.isWalk = false) : Kq B Br W (W.putObj l o') :=
  ⟨belowK_b hB W l o o' hl ho hc hw, fun p v e => cell_kept e (grownBy_putObj' W l o') (fun r e => by cases e; exact ⟨o, ho, hc⟩)⟩
set_option maxRecDepth 100000 in
set_option maxHeartbeats 4000000 in
theorem named1_in (n : Nat) (hn : 1 ≤ n) (l Br n₀ : Nat) (r : Rq) (J Jx : List (Int × Int) → World → Prop)
    (hY : ∀ pre x W, J pre W → pre.length < (nmL r).length → YieldAt Fence.wide (n - 1) Tryd.prog l (enc2 x) W fun e W' =>
      (e = .returned (.bool true) ∧ J (pre ++ [x]) W' ∧ Kq n₀ Br W W') ∨ (e = .returned (.bool false) ∧ Jx (pre ++ [x]) W'))
    (W : World) (hBr : RqAt W Br r) (hr : r.In W n₀) (h0 : J [] W) :
    CallsIn Fence.wide n Tryd.prog 60 #[.func (.yield l) #[] #[], .pointer (some ⟨Br, 0, none⟩)] W fun e W' => (∃ v, e = .returned v) ∧
      ((∃ ys, ys = nmL r ∧ J ys W') ∨ (∃ pre, pre <+: nmL r ∧ Jx pre W')) := by
  have HY := Lib.hid hY
  have HR := Lib.hid hr
  have HJ := Lib.hid h0
  have HN := Lib.hid (show nmL r = if r.k = 1 ∨ r.k = 2 then r.il.map (fun x => (0, x)) else if r.k = 4 then [(1, r.a), (1, r.b)] else if r.k = 5 ∨ r.k = 6 ∨ r.k = 9 ∨ r.k = 10 then [(1, r.a)] else if r.k = 7 then [(2, r.a)] else [] from rfl)
  have ha := cl_of hr.a
  have hb := cl_of hr.b
  have HLN := Lib.hid hr.l.2.2
  obtain ⟨c0, c1, c2, c3, c4, c5, -⟩ := hBr
  clear hY hr h0
  obtain ⟨k, iA, ic, il, a, b, u, v⟩ := r
  dsimp only at *
  generalize nmL _ = xs at *
  refine callsIn_of_wp Tryd.func60 rfl trivial ?_ rfl
  simp only [Tryd.ntmps60, List.size_toArray, List.length_cons, List.length_nil, Nat.reduceAdd, Nat.reduceSub, Array.replicate_succ, Array.replicate_zero, List.push_toArray, List.append_toArray, List.nil_append, List.cons_append]
  rcases kinds k with rfl | rfl | rfl | rfl | rfl | rfl | rfl | rfl | ⟨k1, k2, k4, k5, k6, k7, k9, k10⟩
  case inr.inr.inr.inr.inr.inr.inr.inr =>
    obtain rfl : xs = [] := by
      simp only [kEq, decide_eq_false_iff_not] at k1 k2 k4 k5 k6 k7 k9 k10
      rw [HN.out]; simp [*]
    gi_wp2
    go_end0
    exact ⟨⟨_, rfl⟩, .inl ⟨_, rfl, HJ.out⟩⟩
  case inr.inr.inl =>
    obtain rfl : xs = [(1, a), (1, b)] := HN.out
    obtain ⟨fn, tmps, assign, body, hy, hR⟩ := HY.out [] (1, a) W HJ.out (by simp)
    dsimp only [enc2] at hy
    rw [ha] at hy
    gi_wp2
    refine hR.mono ?_
    clear hR hy
    rintro e W3 (⟨rfl, hJ3, hk3⟩ | ⟨rfl, hJx3⟩)
    · have d3 := hk3.2 3 _ c3
      have d2 := hk3.2 2 _ c2
      have d0 := hk3.2 0 _ c0
      obtain ⟨fn, tmps, assign, body, hy, hR⟩ := HY.out [(1, a)] (1, b) W3 hJ3 (by simp)
      dsimp only [enc2] at hy
      rw [hb] at hy
      gi_wp2
      refine hR.mono ?_
      clear hR hy
      rintro e W4 (⟨rfl, hJ4, hk4⟩ | ⟨rfl, hJx4⟩)
      · gi_wp2
        go_end0
        exact ⟨⟨_, rfl⟩, .inl ⟨_, rfl, hJ4⟩⟩
      · gi_wp2
        go_end0
        exact ⟨⟨_, rfl⟩, .inr ⟨_, List.prefix_rfl, hJx4⟩⟩
    · gi_wp2
      refine ⟨fun _ h => (by cases h), ?_⟩
      gi_wp2
      go_end0
      exact ⟨⟨_, rfl⟩, .inr ⟨_, ⟨[(1, b)], rfl⟩, hJx3⟩⟩
  case inl | inr.inl =>
    obtain rfl : xs = il.map (fun x => (0, x)) := HN.out
    gi_wp2
    gi_loopw [13] (fun i wr => ∃ k : Nat, k ≤ il.length ∧ i = .int .i64 k ∧ J ((il.take k).map (fun x => (0, x))) wr ∧ Kq n₀ Br W wr) (fun i _ => il.length - (intOf i).toNat)
    case atStart => exact ⟨0, Nat.zero_le _, rfl, HJ.out, Kq.refl _ _ _⟩
    case round =>
      obtain ⟨k, hk, rfl, hJs, hnx⟩ := hrel
      have HJS := Lib.hid hJs
      have HNX := Lib.hid hnx
      clear hJs hnx
      by_cases hlt : k < il.length
      · obtain ⟨b0, off, cap, hA, hcap, hb0, hlm, hcell, hfit⟩ := KI.cells HR.out.l (show 0 < il.length by omega)
        have hci : wr.cell? ⟨b0, off + k, none⟩ = some (.int .i64 (il.getD k 0)) := (HNX.out.1.cell (p := ⟨b0, off + k, none⟩) hb0).trans (hcell k hlt)
        have hfk := cl_of (hfit k hlt)
        have HTK := Lib.hid (take_snoc il k 0 hlt)
        injection hA with hA1 hA2 hA3
        subst hA1
        clear hcell hfit hA2 hA3
        obtain ⟨fn, tmps, assign, body, hy, hR⟩ := HY.out _ (0, il.getD k 0) wr HJS.out (by rw [List.length_map, List.length_take]; show _ < (il.map _).length; rw [List.length_map]; omega)
        dsimp only [enc2] at hy
        rw [hfk] at hy
        clear hfk
        generalize il.getD k 0 = x at *
        gi_wp2
        refine hR.mono ?_
        clear hR hy hci
        rintro e W3 (⟨rfl, hJ3, hk3⟩ | ⟨rfl, hJx3⟩)
        · gi_wp2
          go_roundw
          case rel => exact ⟨k + 1, by omega, num_i (by omega), by rw [HTK.out, List.map_append]; exact hJ3, HNX.out.trans hk3⟩
          case measure => simp [intOf]; omega
        · gi_wp2
          refine bodyPost_ret (results_none rfl _ _ _) rfl ?_
          refine ⟨⟨_, rfl⟩, .inr ⟨_, ?_, hJx3⟩⟩
          have h := HTK.out
          rw [← List.map_singleton (f := fun x => ((0 : Int), x)), ← List.map_append, ← h]
          exact (List.take_prefix _ _).map _
      · obtain rfl : k = il.length := by omega
        rw [List.take_length] at HJS
        gi_wp2
        go_end0
        exact ⟨⟨_, rfl⟩, .inl ⟨_, rfl, HJS.out⟩⟩
  case inr.inr.inr.inr.inr.inl =>
    obtain rfl : xs = [(2, a)] := HN.out
    obtain ⟨fn, tmps, assign, body, hy, hR⟩ := HY.out [] (2, a) W HJ.out (by simp)
    dsimp only [enc2] at hy
    rw [ha] at hy
    gi_wp2
    refine hR.mono ?_
    clear hR hy
    rintro e W3 (⟨rfl, hJ3, hk3⟩ | ⟨rfl, hJx3⟩)
    · gi_wp2
      go_end0
      exact ⟨⟨_, rfl⟩, .inl ⟨_, rfl, hJ3⟩⟩
    · gi_wp2
      go_end0
      exact ⟨⟨_, rfl⟩, .inr ⟨_, List.prefix_rfl, hJx3⟩⟩
  all_goals
    obtain rfl : xs = [(1, a)] := HN.out
    obtain ⟨fn, tmps, assign, body, hy, hR⟩ := HY.out [] (1, a) W HJ.out (by simp)
    dsimp only [enc2] at hy
    rw [ha] at hy
    gi_wp2
    refine hR.mono ?_
    clear hR hy
    rintro e W3 (⟨rfl, hJ3, hk3⟩ | ⟨rfl, hJx3⟩)
    · gi_wp2
      go_end0
      exact ⟨⟨_, rfl⟩, .inl ⟨_, rfl, hJ3⟩⟩
    · gi_wp2
      go_end0
      exact ⟨⟨_, rfl⟩, .inr ⟨_, List.prefix_rfl, hJx3⟩⟩
end Go.Proofs.YtmecohdedghiaaaDoor
namespace Go.Proofs.YtmecohdedghiaaaDoor
open Go.RowKit Go.Shelf
attribute [local go_sem] Oper.semAt_some
noncomputable def ptL (r : Rq) : List Int := Two.mk ((nmL r).map Prod.snd)
theorem nm_len (r : Rq) : (nmL r).length ≤ r.il.length + 2 := by
  unfold nmL
  repeat' split
  all_goals simp
theorem nm_fits {w : World} {B : Nat} {r : Rq} (h : r.In w B) : ∀ x ∈ nmL r, fits x.2 := by
  intro x hx
  unfold nmL at hx
  have ha := h.a
  have hb := h.b
  repeat' split at hx
  · obtain ⟨y, hy, rfl⟩ := List.mem_map.1 hx
    exact h.l.2.1 y hy
  all_goals (simp at hx; try (rcases hx with rfl | rfl <;> assumption); try (subst hx; assumption))
theorem nm_cl {w : World} {B : Nat} {r : Rq} (h : r.In w B) : (nmL r).map (fun x => cl x.2) = (nmL r).map Prod.snd := List.map_congr_left fun x hx => cl_of (nm_fits h x hx)
/-- The iterator's contract. -/
theorem named_stops (n : Nat) (hn : 1 ≤ n) (Br n₀ : Nat) (r : Rq) (w : World) (hBr : RqAt w Br r) (hB : Br < w.heap.size) (hn₀ : n₀ ≤ w.heap.size) (hr : r.In w n₀) :
    SeqStopsK Fence.wide n Tryd.prog 60 #[.pointer (some ⟨Br, 0, none⟩)] enc2 (Kq n₀ Br) (fun ys => ys = nmL r) (fun pre => pre <+: nmL r) (nmL r).length w :=
  fun l J Jx W hW _ _ hY h0 => named1_in n hn l Br n₀ r J Jx hY W (hBr.low hW hB) (hr.below (hW.mono hn₀)) h0
def clL (pre : List (Int × Int)) : List Int := pre.map fun x => cl x.2
theorem clL_snoc (pre : List (Int × Int)) (x : Int × Int) : clL (pre ++ [x]) = clL pre ++ [cl x.2] := by simp [clL]
theorem cells_own {β : Type} (B : Nat) (cs : Array Value) (t : TypeId) : Go.Own (fun (_ : β) W => W.heap[B]? = some (.cells cs t (0, 0))) := by
  intro s X Y row h hg hrow
  refine (hg.block B (Array.getElem?_eq_some_iff.1 h).1 (fun e' => ?_)).trans h
  obtain ⟨o, ho, hc⟩ := hrow B e'.symm
  rw [h] at ho; cases ho; cases hc
theorem cell_of_heap {W W' : World} {B : Nat} {o : Obj} (h : W.heap[B]? = some o) (h' : W'.heap[B]? = some o) (p : Nat) : W'.cell? ⟨B, p, none⟩ = W.cell? ⟨B, p, none⟩ := by simp [World.cell?, h, h']
theorem row_apart {W w1 : World} {n₀ Br b : Nat} {t e : TypeId} {cs : Array Value} {m : Nat × Nat} {size k : Nat} {v v' : Value} {xs : List Value} {tmp : Obj} (hte : t ≠ e) (hq : W.heap[Br]? = some (.cells cs t m)) (hrow : W.ownsRow n₀ e size v k xs) (hgrow : (W.alloc tmp).grownBy w1 v.ownBlock) (hb : Br ≠ b) :
    (w1.setCell ⟨b, 0, none⟩ v').heap[Br]? = some (.cells cs t m) := by
  have hlt : Br < W.heap.size := (Array.getElem?_eq_some_iff.1 hq).1
  have h1 : (W.alloc tmp).heap[Br]? = some (.cells cs t m) := (Below.heap_alloc W tmp Br hlt).trans hq
  have hne : some Br ≠ v.ownBlock := by
    rcases hrow.2 with ⟨rfl, _⟩ | ⟨g, cap, cur, rfl, _, hgb, _⟩
    · intro h; cases h
    · intro h
      obtain rfl : Br = g := by simpa [Value.ownBlock] using h
      rw [hgb] at hq
      injection hq with hq
      injection hq with h1 h2
      exact hte h2.symm
  have h2 := (hgrow.block Br (Array.getElem?_eq_some_iff.1 h1).1 hne).trans h1
  exact ((grownBy_setCell' w1 b v').block Br (Array.getElem?_eq_some_iff.1 h2).1 (fun e' => hb (Option.some.inj e'))).trans h2
theorem Lk.IsL.put {P : Program} {α : Type} {K : Lk P α} {w : World} {B D : Nat} {o o' : Obj} {v : Value} {xs : List α} (h : K.IsL w B v xs) (hD : w.heap[D]? = some o) (ho : o.isCells = false) : K.IsL (w.putObj D o') B v xs := by
  obtain ⟨⟨A, cap, rfl, hc, hA⟩, hf, hl⟩ := h
  refine ⟨⟨A, cap, rfl, hc, fun h0 => ?_⟩, hf, hl⟩
  obtain ⟨b, off, rfl, hbB, hcell⟩ := hA h0
  exact ⟨b, off, rfl, hbB, fun i hi j u hu => cell_kept (hcell i hi j u hu) (grownBy_putObj' w D o') (fun r e => by cases e; exact ⟨o, hD, ho⟩)⟩
theorem size_put (w : World) (D : Nat) (o : Obj) : (w.putObj D o).heap.size = w.heap.size := by simp [World.putObj]
set_option maxRecDepth 100000 in
set_option maxHeartbeats 4000000 in
theorem partsW_any (r : Rq) (w : World) (hr : r.In w w.heap.size) (hl : r.il.length ≤ 900) : Calls Tryd.prog 31 #[r.val] w fun e w' => ∃ v, e = .returned v ∧ KI.IsL w' w'.heap.size v (ptL r) ∧ Below w.heap.size w w' := by
  obtain ⟨i0, hi, hz0, hz1, hz2⟩ := info_parts Two.int_info
  have HR := Lib.hid hr
  have HLN := Lib.hid (nm_len r)
  have HCL := Lib.hid (nm_cl hr)
  have HPT := Lib.hid (show ptL r = Two.mk ((nmL r).map Prod.snd) from rfl)
  clear hr
  refine (callsIn_wide (n := 6)).1 ?_
  refine callsIn_of_wp_marks Tryd.func31 rfl trivial ?_ rfl
  simp only [Tryd.ntmps31, List.size_toArray, List.length_cons, List.length_nil, Nat.reduceAdd, Nat.reduceSub, Array.replicate_succ, Array.replicate_zero, List.push_toArray, List.append_toArray, List.nil_append, List.cons_append]
  gi_wp2_with (refine ⟨trivial, ?_⟩; gi_at_call 43; refine (callsIn_wide.2 (named_any r _)).mono ?_; rintro e w' ⟨rfl, rfl⟩)
  obtain ⟨W0, hW0⟩ : ∃ W0, W0 = ((w.alloc (.cells r.ob 30)).alloc (.cells #[.slice none 0 0] 27)).alloc (.cells r.ob 30) := ⟨_, rfl⟩
  rw [← hW0]
  have hsz : W0.heap.size = w.heap.size + 3 := by rw [hW0]; simp
  have hB0 : Below w.heap.size w W0 := by rw [hW0]; exact Below.al (Below.al (Below.al (Below.refl _ _) _) _) _
  have bO : Boxed W0 (w.heap.size + 1) 27 (.slice none 0 0) := by
    have h := Boxed.new (w.alloc (.cells r.ob 30)) 27 (.slice none 0 0)
    rw [World.size_alloc] at h
    rw [hW0]
    exact h.alloc _
  have bR : W0.heap[w.heap.size + 1 + 1]? = some (.cells r.ob 30 (0, 0)) := by
    have h := World.alloc_heap_new ((w.alloc (.cells r.ob 30)).alloc (.cells #[.slice none 0 0] 27)) (.cells r.ob 30)
    rw [World.size_alloc, World.size_alloc] at h
    rw [hW0]
    exact h
  have hRA : RqAt W0 (w.heap.size + 1 + 1) r := by
    have h := Cells6.new ((w.alloc (.cells r.ob 30)).alloc (.cells #[.slice none 0 0] 27)) 30 (.int .i64 r.k) (.slice r.iA r.il.length r.ic) (.int .i64 r.a) (.int .i64 r.b) (.int .i64 r.u) (.int .u64 r.v)
    rw [World.size_alloc, World.size_alloc] at h
    rw [hW0]
    exact h
  clear hW0
  refine wpIn_rangeFunc_ownG rfl (by omega) (gf := 60) (lb := #[.pointer (some ⟨w.heap.size + 1 + 1, 0, none⟩)]) rfl trivial (enters_of Tryd.func60 (by kernel_rfl) rfl)
    (named_stops 5 (by omega) (w.heap.size + 1 + 1) w.heap.size r W0 hRA (by omega) (by omega) (HR.out.below hB0)) Kq.trans (Kq.put (by omega)) (Below.refl _ _) (fun _ => rfl)
    (fun pre W => ((∃ v, Boxed W (w.heap.size + 1) 27 v ∧ W.ownsRow w.heap.size 3 1 v (clL pre).length ((clL pre).map Two.iv) ∧ True) ∧ W.heap[w.heap.size + 1 + 1]? = some (.cells r.ob 30 (0, 0))) ∧ Below w.heap.size w W)
    (fun _ _ _ => False)
    (OwnFrom.and (OwnFrom.and (Own.from (holdsRow_own w.heap.size (w.heap.size + 1) 27 3 1 (fun pre => (clL pre).length) (fun pre => (clL pre).map Two.iv) (fun _ _ => True)) _) (Own.from (cells_own _ _ _) _)) (ownFrom_below (Nat.le_refl _) (by omega)))
    (fun _ _ _ _ _ hs _ _ => hs)
    ⟨⟨⟨_, bO, World.ownsRow_nil _ _ _ _, trivial⟩, bR⟩, hB0⟩
    (fun x => { tmps := #[r.val, .pointer (some ⟨w.heap.size, 0, none⟩), .slice none 0 0, .pointer (some ⟨w.heap.size + 1, 0, none⟩), undef, .int .i64 (cl x.2), r.val, .func (.func 60) #[] #[.pointer (some ⟨w.heap.size + 1 + 1, 0, none⟩)], .int .i64 x.1, .int .i64 (cl x.2), undef, undef, undef, undef, undef, undef], defers := [] }) ?assign ?body ?done ?stop
  case assign =>
    intro l x W K hK
    gi_wp2
    exact hK
  case body =>
    rintro l pre x W ⟨⟨⟨v, hv, hrow, -⟩, hq⟩, hB⟩ hlt
    have hc := hv.cell
    have hln := HLN.out
    have hpl : (clL pre).length ≤ pre.length := by simp [clL]
    gi_wp2_with (gi_at_builtin; refine wpListIn_append_own _ rfl _ _ 27 rfl w.heap.size 3 i0 (.int .i64 0) 1 8 Tryd.underlying27 hi hz0 hz1 hz2 rfl (by decide) _ _ _ rfl (hrow.alloc _) ⟨W.heap.size, 0, none⟩ 1 1 [.int .i64 (cl x.2)] rfl rfl (cell_one_new _ _ _) (by simp [Value.oneCell']) (by unfold maxLen; omega) (by omega) (by have := hB.size; simp; omega) ?_; intro v' w1 hown' hgrow _; obtain ⟨g', cap', rfl⟩ := ownsRow_succ hown'; obtain ⟨hv1, hv2, hr2, hk2, hb2⟩ := hv.appended (by decide) hrow hB.size (by omega) hown' hgrow; have hc1 := hv1.cell; have hf1 := hv1.frozen; have hq1 := Lib.hid (row_apart (v' := .slice (some ⟨g', 0, none⟩) ((clL pre).length + 1) cap') (b := w.heap.size + 1) (by decide) hq hrow hgrow (by omega)))
    exact ⟨hk2.from _, ⟨hb2, fun o v e => (cell_of_heap hq hq1.out o).trans e⟩, ⟨⟨_, hv2, by rw [clL_snoc]; simpa [Two.iv] using hr2, trivial⟩, hq1.out⟩, hB.trans hb2⟩
  case done =>
    rintro D ys W hD rfl ⟨⟨⟨v, hv, hrow, -⟩, hq⟩, hB⟩ hK
    have hc := hv.cell
    have HX := Lib.hid (show clL (nmL r) = (nmL r).map Prod.snd from HCL.out)
    have hIL : KI.IsL W W.heap.size v (clL (nmL r)) := by
      refine Lk.Own.isL (K := KI) (base := w.heap.size) ⟨?_, ?_⟩ (by have := HLN.out; simp [clL]; omega)
      · have e : KI.flat (clL (nmL r)) = (clL (nmL r)).map Two.iv := by unfold Lk.flat; generalize clL (nmL r) = q; induction q with | nil => rfl | cons a t ih => rw [List.flatMap_cons, ih]; rfl
        rw [e]; exact hrow
      · intro y hy
        obtain ⟨z, _, rfl⟩ := List.mem_map.1 hy
        exact cl_fits _
    rw [HX.out] at hIL
    gi_wp2_with (refine ⟨trivial, ?_⟩; gi_at_call 32; refine (callsIn_wide.2 (Two.from_any v _ W (two_of hIL) (by have := HLN.out; simp; omega))).mono ?_; rintro e w2 ⟨u, rfl, hu, hb2⟩)
    have hK2 : w2.heap[D]? = some (.deferred (some [])) := (hb2.block D (Array.getElem?_eq_some_iff.1 hK).1).trans hK
    refine ⟨by simp, .inl ⟨_, _, rfl, run_takeDeferred hK2, ?_⟩⟩
    refine ⟨_, results_tmp rfl _ _ _, u, rfl, ?_, (hB.trans (hb2.mono hB.size)).trans (belowK_b (w := w) (Nat.le_refl _) w2 D _ _ (by omega) hK2 rfl rfl)⟩
    rw [HPT.out, size_put]
    exact (of_two hu).put hK2 rfl
  case stop =>
    rintro D c pre W _ _ h _
    exact h.elim
end Go.Proofs.YtmecohdedghiaaaDoor
namespace Go.Proofs.YtmecohdedghiaaaDoor
open Go.RowKit Go.Shelf
attribute [local go_sem] Oper.semAt_some
/-- What is wrong with a request of which all parts are. -/
def lastV (r : Rq) : Int × Int := if r.k = 4 ∧ r.a = r.b then (1, 0) else if r.k = 4 ∨ r.k = 5 ∨ r.k = 6 then (voE r.v, 0) else (0, 0)
/-- The first part that is none of its kind. -/
noncomputable def nmF (d : Dk) (r : Rq) : Option (Int × Int) := (nmL r).find? fun x => !iwP d x.1 x.2
/-- Why a request is refused, and of which id. -/
noncomputable def refV (d : Dk) (r : Rq) : Int × Int := if zchk d ≠ 0 then (zchk d, 0) else if mfV r ≠ (0, 0) then mfV r else match nmF d r with | some x => (3, x.2) | none => lastV r
theorem find_pre {α : Type} (f : α → Bool) (l ini : List α) (x : α) (h : ini ++ [x] <+: l) (h0 : ∀ p ∈ ini, f p = false) (h1 : f x = true) : l.find? f = some x := by
  obtain ⟨t, rfl⟩ := h
  rw [List.append_assoc, List.find?_append]
  have e : ini.find? f = none := List.find?_eq_none.2 fun p hp => by simp [h0 p hp]
  rw [e]
  simp [h1]
theorem keepsO {W W' : World} (h : Below W.heap.size W W') : KeepsOthers W W' := ⟨h.size, fun j _ ho _ => (h.block j (Array.getElem?_eq_some_iff.1 ho).1).trans ho⟩
set_option maxRecDepth 100000 in
set_option maxHeartbeats 4000000 in
theorem refused_any (d : Dk) (r : Rq) (w : World) (hd : d.In w w.heap.size) (hr : r.In w w.heap.size) (hT : Nn.Tab w) : Calls Tryd.prog 23 #[d.v, r.val] w fun e w' => e = .returned (rfv (refV d r)) ∧ Below w.heap.size w w' := by
  obtain ⟨w0, hw0⟩ : ∃ w0, w0 = ((w.alloc (.cells #[.slice d.bA d.bn d.bc, .slice d.pA d.pn d.pc, .slice d.rA d.rn d.rc, .int .i64 d.arms] 26)).alloc (.cells r.ob 30)).alloc (.cells #[.int .i64 0, .int .i64 0] 55) := ⟨_, rfl⟩
  have HB0 := Lib.hid (show Below w.heap.size w w0 by rw [hw0]; exact Below.al (Below.al (Below.al (Below.refl _ _) _) _) _)
  have HD0 := Lib.hid (hd.then HB0.out)
  have HR0 := Lib.hid (hr.then HB0.out)
  have HS0 := Lib.hid (show w0.heap.size = w.heap.size + 3 by rw [hw0]; simp)
  have HK0 := Lib.hid (show DkAt w0 w.heap.size d by rw [hw0]; exact ((Cells4.new w _ _ _ _ _).below (Below.al (Below.refl _ _) _)).below (Below.al (Below.refl _ _) _))
  have HQ0 := Lib.hid (show RqAt w0 (w.heap.size + 1) r by
    have h := (Cells6.new (w.alloc (.cells #[.slice d.bA d.bn d.bc, .slice d.pA d.pn d.pc, .slice d.rA d.rn d.rc, .int .i64 d.arms] 26)) 30 (.int .i64 r.k) (.slice r.iA r.il.length r.ic) (.int .i64 r.a) (.int .i64 r.b) (.int .i64 r.u) (.int .u64 r.v)).below (Below.al (Below.refl _ _) (.cells #[.int .i64 0, .int .i64 0] 55))
    rw [World.size_alloc] at h
    rw [hw0]; exact h)
  have HC0 := Lib.hid (show Cells2 w0 (w.heap.size + 2) (.int .i64 0) (.int .i64 0) by
    have h := Cells2.new ((w.alloc (.cells #[.slice d.bA d.bn d.bc, .slice d.pA d.pn d.pc, .slice d.rA d.rn d.rc, .int .i64 d.arms] 26)).alloc (.cells r.ob 30)) 55 (.int .i64 0) (.int .i64 0)
    rw [World.size_alloc, World.size_alloc] at h
    rw [hw0]; exact h)
  have HT0 := Lib.hid (hT.below HB0.out)
  have HZ := Lib.hid (fun w h => zcheck_any d w h)
  have HM := Lib.hid (fun w h => misformed_any r w h)
  have HRV := Lib.hid (show refV d r = if zchk d ≠ 0 then (zchk d, 0) else if mfV r ≠ (0, 0) then mfV r else match nmF d r with | some x => (3, x.2) | none => lastV r from rfl)
  generalize zchk d = z at *
  obtain ⟨m, hm⟩ : ∃ m, mfV r = m := ⟨_, rfl⟩
  rw [hm] at HM HRV
  generalize refV d r = V at *
  clear hm hd hr hT
  obtain ⟨d0, d1, d2, d3, -⟩ := HK0.out
  rw [hw0] at d0 d1 d2 d3
  refine (callsIn_wide (n := 6)).1 ?_
  refine callsIn_of_wp_marks Tryd.func23 rfl trivial ?_ rfl
  simp only [Tryd.ntmps23, List.size_toArray, List.length_cons, List.length_nil, Nat.reduceAdd, Nat.reduceSub, Array.replicate_succ, Array.replicate_zero, List.push_toArray, List.append_toArray, List.nil_append, List.cons_append]
  by_cases hz : z = 0
  case neg =>
    obtain rfl : V = (z, 0) := by rw [HRV.out, if_pos hz]
    have hz' : (z != 0) = true := by simpa using hz
    clear hz
    gi_wp2_with (refine ⟨trivial, ?_⟩; gi_at_call 41; rw [← hw0]; clear hw0 d0 d1 d2 d3; refine (callsIn_wide.2 (HZ.out w0 HD0.out)).mono ?_; rintro e w1 ⟨rfl, hb1⟩; obtain ⟨c0, c1, y0, y1, -⟩ := HC0.out.below hb1; have HB1 := Lib.hid (Below.call HB0.out hb1); clear hb1)
    refine ⟨rfv (z, 0), ?_, rfl, Below.st (Below.st HB1.out (by simp; omega)) (by simp; omega)⟩
    simp [results, Tryd.f23, go_sem, c0, c1, rfv]
  subst hz
  gi_wp2_with (refine ⟨trivial, ?_⟩; gi_at_call 41; rw [← hw0]; clear hw0 d0 d1 d2 d3; refine (callsIn_wide.2 (HZ.out w0 HD0.out)).mono ?_; rintro e w1 ⟨rfl, hb1⟩; obtain ⟨c0, c1, y0, y1, -⟩ := HC0.out.below hb1; obtain ⟨q0, q1, q2, q3, q4, q5, -⟩ := HQ0.out.below hb1; have HB1 := Lib.hid hb1; clear hb1)
  refine ⟨trivial, ?_⟩
  gi_at_call 42
  refine (callsIn_wide.2 (HM.out w1 (HR0.out.then HB1.out))).mono ?_
  obtain ⟨m1, m2⟩ := m
  unfold rfv
  rintro e w2 ⟨rfl, hb2⟩
  obtain ⟨v2, hv2⟩ : ∃ v2, v2 = w2.alloc (.cells #[.int .i64 m1, .int .i64 m2] 55) := ⟨_, rfl⟩
  have HB3 := Lib.hid (show Below w0.heap.size w0 v2 by rw [hv2]; exact Below.al (Below.call HB1.out hb2) _)
  have HS2 := Lib.hid (show w.heap.size + 2 < w2.heap.size by have := (Below.call HB1.out hb2).size; have := HS0.out; omega)
  have hn : Cells2 v2 w2.heap.size (.int .i64 m1) (.int .i64 m2) := by rw [hv2]; exact Cells2.new w2 _ _ _
  obtain ⟨n0, n1, -⟩ := hn
  obtain ⟨c0, c1, y0, y1, -⟩ := HC0.out.below HB3.out
  obtain ⟨q0, q1, q2, q3, q4, q5, -⟩ := HQ0.out.below HB3.out
  clear hb2
  rw [hv2] at c0 c1 y0 y1 q0 q1 q2 q3 q4 q5 n0 n1
  dsimp only
  by_cases hm : m1 = 0 ∧ m2 = 0
  case neg =>
    obtain rfl : V = (m1, m2) := by rw [HRV.out, if_neg (by simp), if_pos (by intro h; injection h with h1 h2; exact hm ⟨h1, h2⟩)]
    have hm' : m1 ≠ 0 ∨ (m1 = 0 ∧ m2 ≠ 0) := by omega
    clear hm
    rcases hm' with hm | ⟨rfl, hm⟩
    all_goals
      gi_wp2
      refine ⟨rfv (_, _), ?_, rfl, ?_⟩
      · simp [results, Tryd.f23, go_sem, c0, c1, rfv]
      · rw [← hv2]; exact Below.st (Below.st (Below.call HB0.out HB3.out) (by simp; omega)) (by simp; omega)
  obtain ⟨rfl, rfl⟩ := hm
  gi_wp2_with (refine ⟨trivial, ?_⟩; gi_at_call 43; refine (callsIn_wide.2 (named_any r _)).mono ?_; rintro e w' ⟨rfl, rfl⟩)
  rw [← hv2]
  obtain ⟨X0, hX0⟩ : ∃ X0, X0 = v2.alloc (.cells r.ob 30) := ⟨_, rfl⟩
  rw [← hX0]
  have hv2s : v2.heap.size = w2.heap.size + 1 := by rw [hv2]; simp
  have HBX := Lib.hid (show Below w0.heap.size w0 X0 by rw [hX0]; exact Below.al HB3.out _)
  have hRA : RqAt X0 (w2.heap.size + 1) r := by
    have h := Cells6.new v2 30 (.int .i64 r.k) (.slice r.iA r.il.length r.ic) (.int .i64 r.a) (.int .i64 r.b) (.int .i64 r.u) (.int .u64 r.v)
    rw [hv2s] at h
    rw [hX0]; exact h
  have hXs : X0.heap.size = w2.heap.size + 2 := by rw [hX0]; simp [hv2s]
  have HW2 := Lib.hid (show w0.heap.size ≤ X0.heap.size from HBX.out.size)
  have hw2s := HW2.out
  have hs0 := HS0.out
  clear hv2 hX0 c0 c1 y0 y1 q0 q1 q2 q3 q4 q5 n0 n1 HB3 HB1 hv2s
  have HP := Lib.hid (fun k id h w h2 => isPartW_any d k id h w h2)
  have HNF := Lib.hid (nm_fits HR0.out)
  refine wpIn_rangeFunc_ownG rfl (by omega) (gf := 60) (lb := #[.pointer (some ⟨w2.heap.size + 1, 0, none⟩)]) rfl trivial (enters_of Tryd.func60 (by kernel_rfl) rfl)
    (named_stops 5 (by omega) (w2.heap.size + 1) w0.heap.size r X0 hRA (by omega) (by omega) (HR0.out.below HBX.out)) Kq.trans (Kq.put (by omega)) (Below.refl _ _) (fun _ => rfl)
    (fun pre W => (∀ p ∈ pre, iwP d p.1 (cl p.2) = true) ∧ Below w0.heap.size w0 W)
    (fun c pre W => (c = .ret ∧ ∃ ini last, pre = ini ++ [last] ∧ (∀ p ∈ ini, iwP d p.1 (cl p.2) = true) ∧ iwP d last.1 (cl last.2) = false ∧ W.cell? ⟨w.heap.size + 2, 0, none⟩ = some (.int .i64 3) ∧ W.cell? ⟨w.heap.size + 2, 1, none⟩ = some (.int .i64 (cl last.2))) ∧ Below w.heap.size w W)
    (OwnFrom.and (ownFrom_pure _ (fun pre : List (Int × Int) => ∀ p ∈ pre, iwP d p.1 (cl p.2) = true)) (ownFrom_below (Nat.le_refl _) (by omega)))
    (fun c => OwnFrom.and (Own.from (fun s A B row hs hg hr => by obtain ⟨hc, ini, last, e1, e2, e3, e4, e5⟩ := hs; exact ⟨hc, ini, last, e1, e2, e3, cell_kept e4 hg hr, cell_kept e5 hg hr⟩) _) (ownFrom_below (Nat.le_refl _) (by omega)))
    ⟨by simp, HBX.out⟩
    (fun x => { tmps := #[d.v, r.val, .pointer (some ⟨w.heap.size, 0, none⟩), .pointer (some ⟨w.heap.size + 1, 0, none⟩), .pointer (some ⟨w.heap.size + 1 + 1, 0, none⟩), .int .i64 0, .pointer (some ⟨w2.heap.size, 0, none⟩), .int .i64 x.1, .int .i64 (cl x.2), undef, undef, .agg #[.slice d.bA d.bn d.bc, .slice d.pA d.pn d.pc, .slice d.rA d.rn d.rc, .int .i64 d.arms], .int .i64 0, .int .i64 0, .bool false, undef, undef, r.val, .agg #[.int .i64 0, .int .i64 0], .agg #[.int .i64 0, .int .i64 0], .agg #[.int .i64 0, .int .i64 0], .bool false, undef, r.val, .func (.func 60) #[] #[.pointer (some ⟨w2.heap.size + 1, 0, none⟩)], .int .i64 x.1, .int .i64 (cl x.2), undef, undef, undef, undef, undef, undef, undef, undef, undef, undef, undef, undef, undef, undef, undef, undef, undef, undef, undef, undef, undef, undef, undef, undef, undef, undef, undef, undef], defers := [] }) ?assign ?body ?done ?stop
  case assign =>
    intro l x W K hK
    gi_wp2
    exact hK
  case body =>
    rintro l pre x W ⟨hp, hB⟩ -
    have HPR := Lib.hid hp
    have HBW := Lib.hid hB
    have HPX := Lib.hid (HP.out x.1 (cl x.2) (cl_fits _) W (HD0.out.then hB))
    obtain ⟨bb, hbb⟩ : ∃ bb, iwP d x.1 (cl x.2) = bb := ⟨_, rfl⟩
    rw [hbb] at HPX
    have HBB := Lib.hid hbb
    obtain ⟨d0, d1, d2, d3, -⟩ := HK0.out.below hB
    clear hp hB hbb
    cases bb
    all_goals
      gi_wp2_with (refine ⟨trivial, ?_⟩; gi_at_call 44; refine (CallsIn.inRound l (callsIn_wide.2 HPX.out)).mono ?_; rintro e w' ⟨rfl, hb⟩; obtain ⟨c0, c1, y0, y1, -⟩ := HC0.out.below (Below.call HBW.out hb); have HBC := Lib.hid hb; clear hb)
      first
        | exact ⟨(((keepsO HBC.out).trans (KeepsOthers.setCell _ _ _)).trans (KeepsOthers.setCell _ _ _)).from _, ⟨rfl, pre, x, rfl, HPR.out, HBB.out, st_other (st_same c0) (by simp), st_same (st_other c1 (by simp))⟩, Below.st (Below.st (Below.call HB0.out (Below.call HBW.out HBC.out)) (by simp; omega)) (by simp; omega)⟩
        | exact ⟨(keepsO HBC.out).from _, ⟨HBC.out.mono HBW.out.size, fun o v e => keep_cell HBC.out e⟩, fun p hp => (List.mem_append.1 hp).elim (HPR.out p) (fun e => by simp at e; subst e; exact HBB.out), Below.call HBW.out HBC.out⟩
  case done =>
    rintro D ys W hD rfl ⟨hp, hB⟩ hK
    have HBW := Lib.hid hB
    have HKD := Lib.hid hK
    have hVL : V = lastV r := by
      have hn : nmF d r = none := List.find?_eq_none.2 fun p hp' => by
        have h := hp p hp'
        rw [cl_of (HNF.out p hp')] at h
        simp [h]
      rw [HRV.out, hn]; simp
    have HL := Lib.hid (show lastV r = if r.k = 4 ∧ r.a = r.b then (1, 0) else if r.k = 4 ∨ r.k = 5 ∨ r.k = 6 then (voE r.v, 0) else (0, 0) from rfl)
    have HL := Lib.hid (show V = if r.k = 4 ∧ r.a = r.b then (1, 0) else if r.k = 4 ∨ r.k = 5 ∨ r.k = 6 then (voE r.v, 0) else (0, 0) from hVL)
    have HVO := Lib.hid (volume_any r W HR0.out.v (HT0.out.below hB))
    obtain ⟨q0, q1, q2, q3, q4, q5, -⟩ := HQ0.out.below hB
    obtain ⟨c0, c1, y0, y1, -⟩ := HC0.out.below hB
    clear hp hB hK hVL HRV
    have hk : ((r.k == 4) = true ∧ (r.a == r.b) = true) ∨ ((r.k == 4) = true ∧ (r.a == r.b) = false) ∨ ((r.k == 4) = false ∧ (r.k == 5) = true) ∨ ((r.k == 4) = false ∧ (r.k == 5) = false ∧ (r.k == 6) = true) ∨ ((r.k == 4) = false ∧ (r.k == 5) = false ∧ (r.k == 6) = false) := by
      simp only [kEq, decide_eq_true_eq, decide_eq_false_iff_not]; omega
    rcases hk with ⟨k4, kab⟩ | ⟨k4, kab⟩ | ⟨k4, k5⟩ | ⟨k4, k5, k6⟩ | ⟨k4, k5, k6⟩
    case inl =>
      have HV := Lib.hid (show V = (1, 0) by simp only [kEq, decide_eq_true_eq] at k4 kab; rw [HL.out, if_pos ⟨k4, kab⟩])
      gi_wp2
      have hK9 : ((W.setCell ⟨w.heap.size + 1 + 1, 0, none⟩ (.int .i64 1)).setCell ⟨w.heap.size + 1 + 1, 1, none⟩ (.int .i64 0)).heap[D]? = some (.deferred (some [])) := ((KeepsOthers.setCell _ _ _).trans (KeepsOthers.setCell _ _ _)).same D _ HKD.out rfl
      have e0 : (((W.setCell ⟨w.heap.size + 1 + 1, 0, none⟩ (.int .i64 1)).setCell ⟨w.heap.size + 1 + 1, 1, none⟩ (.int .i64 0)).putObj D (.deferred none)).cell? ⟨w.heap.size + 2, 0, none⟩ = some (.int .i64 1) := cell_kept (st_other (st_same c0) (by simp)) (grownBy_putObj' _ D (.deferred none)) (fun r e => by cases e; exact ⟨_, hK9, rfl⟩)
      have e1 : (((W.setCell ⟨w.heap.size + 1 + 1, 0, none⟩ (.int .i64 1)).setCell ⟨w.heap.size + 1 + 1, 1, none⟩ (.int .i64 0)).putObj D (.deferred none)).cell? ⟨w.heap.size + 2, 1, none⟩ = some (.int .i64 0) := cell_kept (st_same (st_other c1 (by simp))) (grownBy_putObj' _ D (.deferred none)) (fun r e => by cases e; exact ⟨_, hK9, rfl⟩)
      refine ⟨by simp, .inl ⟨_, _, rfl, run_takeDeferred hK9, ?_⟩⟩
      refine ⟨rfv (1, 0), ?_, by rw [HV.out], (Below.st (Below.st (Below.call HB0.out HBW.out) (by simp; omega)) (by simp; omega)).trans (belowK_b (w := w) (Nat.le_refl _) _ D _ _ (by omega) hK9 rfl rfl)⟩
      simp [results, Tryd.f23, go_sem, e0, e1, rfv]
    case inr.inr.inr.inr =>
      have HV := Lib.hid (show V = (0, 0) by simp only [kEq, decide_eq_false_iff_not] at k4 k5 k6; rw [HL.out, if_neg (by omega), if_neg (by omega)])
      gi_wp2
      have hK9 : ((W.setCell ⟨w.heap.size + 1 + 1, 0, none⟩ (.int .i64 0)).setCell ⟨w.heap.size + 1 + 1, 1, none⟩ (.int .i64 0)).heap[D]? = some (.deferred (some [])) := ((KeepsOthers.setCell _ _ _).trans (KeepsOthers.setCell _ _ _)).same D _ HKD.out rfl
      have e0 : (((W.setCell ⟨w.heap.size + 1 + 1, 0, none⟩ (.int .i64 0)).setCell ⟨w.heap.size + 1 + 1, 1, none⟩ (.int .i64 0)).putObj D (.deferred none)).cell? ⟨w.heap.size + 2, 0, none⟩ = some (.int .i64 0) := cell_kept (st_other (st_same c0) (by simp)) (grownBy_putObj' _ D (.deferred none)) (fun r e => by cases e; exact ⟨_, hK9, rfl⟩)
      have e1 : (((W.setCell ⟨w.heap.size + 1 + 1, 0, none⟩ (.int .i64 0)).setCell ⟨w.heap.size + 1 + 1, 1, none⟩ (.int .i64 0)).putObj D (.deferred none)).cell? ⟨w.heap.size + 2, 1, none⟩ = some (.int .i64 0) := cell_kept (st_same (st_other c1 (by simp))) (grownBy_putObj' _ D (.deferred none)) (fun r e => by cases e; exact ⟨_, hK9, rfl⟩)
      refine ⟨by simp, .inl ⟨_, _, rfl, run_takeDeferred hK9, ?_⟩⟩
      refine ⟨rfv (0, 0), ?_, by rw [HV.out], (Below.st (Below.st (Below.call HB0.out HBW.out) (by simp; omega)) (by simp; omega)).trans (belowK_b (w := w) (Nat.le_refl _) _ D _ _ (by omega) hK9 rfl rfl)⟩
      simp [results, Tryd.f23, go_sem, e0, e1, rfv]
    all_goals
      have HV := Lib.hid (show V = (voE r.v, 0) by
        first
          | (simp only [kEq, decide_eq_true_eq, decide_eq_false_iff_not] at k4 kab; rw [HL.out, if_neg (by omega), if_pos (by omega)])
          | (simp only [kEq, decide_eq_true_eq, decide_eq_false_iff_not] at k4 k5 k6; rw [HL.out, if_neg (by omega), if_pos (by omega)])
          | (simp only [kEq, decide_eq_true_eq, decide_eq_false_iff_not] at k4 k5; rw [HL.out, if_neg (by omega), if_pos (by omega)]))
      gi_wp2_with (refine ⟨trivial, ?_⟩; gi_at_call 7; refine (callsIn_wide.2 HVO.out).mono ?_; rintro e w3 ⟨rfl, hb3⟩; obtain ⟨c0, c1, y0, y1, -⟩ := HC0.out.below (Below.call HBW.out hb3); have HB3 := Lib.hid hb3; clear hb3)
      have hk3 : w3.heap[D]? = some (.deferred (some [])) := (HB3.out.block D (Array.getElem?_eq_some_iff.1 HKD.out).1).trans HKD.out
      have hK9 : ((w3.setCell ⟨w.heap.size + 1 + 1, 0, none⟩ (.int .i64 (voE r.v))).setCell ⟨w.heap.size + 1 + 1, 1, none⟩ (.int .i64 0)).heap[D]? = some (.deferred (some [])) := ((KeepsOthers.setCell _ _ _).trans (KeepsOthers.setCell _ _ _)).same D _ hk3 rfl
      have e0 : (((w3.setCell ⟨w.heap.size + 1 + 1, 0, none⟩ (.int .i64 (voE r.v))).setCell ⟨w.heap.size + 1 + 1, 1, none⟩ (.int .i64 0)).putObj D (.deferred none)).cell? ⟨w.heap.size + 2, 0, none⟩ = some (.int .i64 (voE r.v)) := cell_kept (st_other (st_same c0) (by simp)) (grownBy_putObj' _ D (.deferred none)) (fun r e => by cases e; exact ⟨_, hK9, rfl⟩)
      have e1 : (((w3.setCell ⟨w.heap.size + 1 + 1, 0, none⟩ (.int .i64 (voE r.v))).setCell ⟨w.heap.size + 1 + 1, 1, none⟩ (.int .i64 0)).putObj D (.deferred none)).cell? ⟨w.heap.size + 2, 1, none⟩ = some (.int .i64 0) := cell_kept (st_same (st_other c1 (by simp))) (grownBy_putObj' _ D (.deferred none)) (fun r e => by cases e; exact ⟨_, hK9, rfl⟩)
      refine ⟨by simp, .inl ⟨_, _, rfl, run_takeDeferred hK9, ?_⟩⟩
      refine ⟨rfv ((voE r.v), 0), ?_, by rw [HV.out], (Below.st (Below.st (Below.call HB0.out (Below.call HBW.out HB3.out)) (by simp; omega)) (by simp; omega)).trans (belowK_b (w := w) (Nat.le_refl _) _ D _ _ (by omega) hK9 rfl rfl)⟩
      simp [results, Tryd.f23, go_sem, e0, e1, rfv]
  case stop =>
    rintro D c pre W hD hpre ⟨⟨rfl, ini, last, e1, e2, e3, e4, e5⟩, hB⟩ hK
    have HV := Lib.hid (show V = (3, cl last.2) by
      subst e1
      have hin := hpre.subset
      have hc : ∀ p ∈ ini ++ [last], cl p.2 = p.2 := fun p hp => cl_of (HNF.out p (hin hp))
      have hn : nmF d r = some last := find_pre _ _ ini last hpre (fun p hp => by have h := e2 p hp; rw [hc p (by simp [hp])] at h; simp [h]) (by rw [hc last (by simp)] at e3; simp [e3])
      rw [HRV.out, hn, hc last (by simp)]; simp)
    clear HRV
    gi_wp2
    have hK9 : W.heap[D]? = some (.deferred (some [])) := hK
    have g0 : (W.putObj D (.deferred none)).cell? ⟨w.heap.size + 2, 0, none⟩ = some (.int .i64 3) := cell_kept e4 (grownBy_putObj' _ D (.deferred none)) (fun r e => by cases e; exact ⟨_, hK9, rfl⟩)
    have g1 : (W.putObj D (.deferred none)).cell? ⟨w.heap.size + 2, 1, none⟩ = some (.int .i64 (cl last.2)) := cell_kept e5 (grownBy_putObj' _ D (.deferred none)) (fun r e => by cases e; exact ⟨_, hK9, rfl⟩)
    refine ⟨by simp, .inl ⟨_, _, rfl, run_takeDeferred hK9, ?_⟩⟩
    refine ⟨rfv (3, (cl last.2)), ?_, by rw [HV.out], (hB).trans (belowK_b (w := w) (Nat.le_refl _) _ D _ _ (by omega) hK9 rfl rfl)⟩
    simp [results, Tryd.f23, go_sem, g0, g1, rfv]
end Go.Proofs.YtmecohdedghiaaaDoor
namespace Go.Proofs.YtmecohdedghiaaaDoor
open Go.RowKit
/-- An answer that only has an error and an id. -/
def rsv (p : Int × Int) : Value := .agg #[.int .i64 p.1, .int .i64 p.2, .int .i64 0, .int .i64 0, .slice none 0 0]
/-- 5 cells of an own block. -/
def Cells5 (V : World) (D : Nat) (x0 x1 x2 x3 x4 : Value) : Prop :=
  V.cell? ⟨D, 0, none⟩ = some x0 ∧ V.cell? ⟨D, 1, none⟩ = some x1 ∧ V.cell? ⟨D, 2, none⟩ = some x2 ∧ V.cell? ⟨D, 3, none⟩ = some x3 ∧ V.cell? ⟨D, 4, none⟩ = some x4 ∧
  V.frozen? ⟨D, 0, none⟩ = false ∧ V.frozen? ⟨D, 1, none⟩ = false ∧ V.frozen? ⟨D, 2, none⟩ = false ∧ V.frozen? ⟨D, 3, none⟩ = false ∧ V.frozen? ⟨D, 4, none⟩ = false ∧ D < V.heap.size
theorem Cells5.new (V : World) (t : TypeId) (x0 x1 x2 x3 x4 : Value) : Cells5 (V.alloc (.cells #[x0, x1, x2, x3, x4] t)) V.heap.size x0 x1 x2 x3 x4 :=
  ⟨by rw [alloc_at]; rfl, by rw [alloc_at]; rfl, by rw [alloc_at]; rfl, by rw [alloc_at]; rfl, by rw [alloc_at]; rfl, by simp, by simp, by simp, by simp, by simp, by simp⟩
theorem Cells5.low {V V' : World} {B D : Nat} {x0 x1 x2 x3 x4 : Value} (h : Cells5 V D x0 x1 x2 x3 x4) (hb : Below B V V') (hD : D < B) : Cells5 V' D x0 x1 x2 x3 x4 := by
  obtain ⟨h0, h1, h2, h3, h4, z0, z1, z2, z3, z4, hs⟩ := h
  exact ⟨(hb.cell (p := ⟨D, 0, none⟩) hD).trans h0, (hb.cell (p := ⟨D, 1, none⟩) hD).trans h1, (hb.cell (p := ⟨D, 2, none⟩) hD).trans h2, (hb.cell (p := ⟨D, 3, none⟩) hD).trans h3, (hb.cell (p := ⟨D, 4, none⟩) hD).trans h4, (hb.frozen (p := ⟨D, 0, none⟩) hD).trans z0, (hb.frozen (p := ⟨D, 1, none⟩) hD).trans z1, (hb.frozen (p := ⟨D, 2, none⟩) hD).trans z2, (hb.frozen (p := ⟨D, 3, none⟩) hD).trans z3, (hb.frozen (p := ⟨D, 4, none⟩) hD).trans z4, Nat.lt_of_lt_of_le hs hb.size⟩
theorem Cells5.below {V V' : World} {D : Nat} {x0 x1 x2 x3 x4 : Value} (h : Cells5 V D x0 x1 x2 x3 x4) (hb : Below V.heap.size V V') : Cells5 V' D x0 x1 x2 x3 x4 := h.low hb h.2.2.2.2.2.2.2.2.2.2
set_option maxRecDepth 100000 in
set_option maxHeartbeats 4000000 in
theorem checkW_any (d : Dk) (r : Rq) (w : World) (hd : d.In w w.heap.size) (hr : r.In w w.heap.size) (hT : Nn.Tab w) : Calls Tryd.prog 10 #[d.v, r.val] w fun e w' => e = .returned (rsv (refV d r)) ∧ Below w.heap.size w w' := by
  obtain ⟨w0, hw0⟩ : ∃ w0, w0 = ((w.alloc (.cells #[.slice d.bA d.bn d.bc, .slice d.pA d.pn d.pc, .slice d.rA d.rn d.rc, .int .i64 d.arms] 26)).alloc (.cells r.ob 30)).alloc (.cells #[.int .i64 0, .int .i64 0, .int .i64 0, .int .i64 0, .slice none 0 0] 39) := ⟨_, rfl⟩
  have HB0 := Lib.hid (show Below w.heap.size w w0 by rw [hw0]; exact Below.al (Below.al (Below.al (Below.refl _ _) _) _) _)
  have HRF := Lib.hid (refused_any d r w0 (hd.then HB0.out) (hr.then HB0.out) (hT.below HB0.out))
  generalize refV d r = V at *
  obtain ⟨v1, v2⟩ := V
  unfold rfv at HRF
  unfold rsv
  dsimp only at *
  have HC := Lib.hid (show Cells5 w0 (w.heap.size + 2) (.int .i64 0) (.int .i64 0) (.int .i64 0) (.int .i64 0) (.slice none 0 0) by
    have h := Cells5.new ((w.alloc (.cells #[.slice d.bA d.bn d.bc, .slice d.pA d.pn d.pc, .slice d.rA d.rn d.rc, .int .i64 d.arms] 26)).alloc (.cells r.ob 30)) 39 (.int .i64 0) (.int .i64 0) (.int .i64 0) (.int .i64 0) (.slice none 0 0)
    rw [World.size_alloc, World.size_alloc] at h
    rw [hw0]; exact h)
  clear hd hr hT
  go_enter Tryd.func10, Tryd.ntmps10
  go_wp2_with fail
  rw [← hw0]
  clear hw0
  refine HRF.out.mono ?_
  rintro e w1 ⟨rfl, hb1⟩
  have hz := (HC.out.below hb1).2.2.2.2.2.2.2.2.2.2
  obtain ⟨v3, hv3⟩ : ∃ v3, v3 = w1.alloc (.cells #[.int .i64 v1, .int .i64 v2] 55) := ⟨_, rfl⟩
  have hba := Below.al (Below.refl w1.heap.size w1) (.cells #[.int .i64 v1, .int .i64 v2] 55)
  rw [← hv3] at hba
  obtain ⟨c0, c1, c2, c3, c4, y0, y1, y2, y3, y4, -⟩ := (HC.out.below hb1).below hba
  have HV3 := Lib.hid (Below.call HB0.out (Below.call hb1 hba))
  obtain ⟨n0, n1, -⟩ : Cells2 v3 w1.heap.size (.int .i64 v1) (.int .i64 v2) := by rw [hv3]; exact Cells2.new w1 _ _ _
  have hne : w1.heap.size ≠ w.heap.size + 2 := by omega
  clear hb1 hba
  go_upto_region 2 with (fail)
  rw [← hv3]
  clear hv3
  go_wp2
  refine bodyPost_ret (v := .agg #[.int .i64 v1, .int .i64 v2, .int .i64 0, .int .i64 0, .slice none 0 0]) ?_ rfl ⟨rfl, ?_⟩
  · simp [results, Tryd.results10, go_sem, c0, c1, c2, c3, c4]
  · refine Below.st (Below.st (Below.st (Below.st (Below.st HV3.out ?_) ?_) ?_) ?_) ?_ <;> (simp; omega)
set_option maxRecDepth 100000 in
set_option maxHeartbeats 4000000 in
theorem may_any (d : Dk) (r : Rq) (w : World) (hd : d.In w w.heap.size) (hr : r.In w w.heap.size) (hT : Nn.Tab w) : Calls Tryd.prog 29 #[d.v, r.val] w fun e w' => e = .returned (.bool (decide (refV d r = (0, 0)))) ∧ Below w.heap.size w w' := by
  obtain ⟨w0, hw0⟩ : ∃ w0, w0 = (w.alloc (.cells #[.slice d.bA d.bn d.bc, .slice d.pA d.pn d.pc, .slice d.rA d.rn d.rc, .int .i64 d.arms] 26)).alloc (.cells r.ob 30) := ⟨_, rfl⟩
  have HB0 := Lib.hid (show Below w.heap.size w w0 by rw [hw0]; exact Below.al (Below.al (Below.refl _ _) _) _)
  have HRF := Lib.hid (refused_any d r w0 (hd.then HB0.out) (hr.then HB0.out) (hT.below HB0.out))
  generalize refV d r = V at *
  obtain ⟨v1, v2⟩ := V
  unfold rfv at HRF
  dsimp only at *
  clear hd hr hT
  go_enter Tryd.func29, Tryd.ntmps29
  go_wp2_with fail
  rw [← hw0]
  clear hw0
  refine HRF.out.mono ?_
  rintro e w1 ⟨rfl, hb1⟩
  have HB1 := Lib.hid (Below.call HB0.out hb1)
  clear hb1
  go_wp2
  all_goals
    go_ret
    exact ⟨ret_b (by simp [*]), HB1.out⟩
end Go.Proofs.YtmecohdedghiaaaDoor
namespace Go.Proofs.YtmecohdedghiaaaDoor
open Go.RowKit
/-- What must be owned for a request that is not refused. -/
noncomputable def muL (d : Dk) (r : Rq) : List Int := if r.k = 4 then Two.mk ([r.a, r.b] ++ pathV d r.a r.b) else if r.k = 5 ∨ r.k = 6 ∨ r.k = 7 then Two.mk ([r.a] ++ setV d [r.a]) else if r.k = 2 then Two.mk r.il else []
noncomputable def muV (d : Dk) (r : Rq) : List Int := if refV d r = (0, 0) then muL d r else []
/-- What is locked meanwhile. -/
noncomputable def lkW (d : Dk) (r : Rq) (own : List Int) (hand : Int) : List Int := if refV d r = (0, 0) then (if r.k = 1 then Two.mk r.il else if r.k = 3 then Two.mk own else if r.k = 8 then (if hand < 0 then [] else [hand]) else if r.k = 9 ∨ r.k = 10 then [r.a] else muL d r) else []
theorem mk_mk (x y : List Int) : Two.mk (Two.mk x ++ y) = Two.mk (x ++ y) := Two.mk_of (Two.inc_mk _) fun z => by rw [Two.mem_mk, List.mem_append, Two.mem_mk, List.mem_append]
theorem mb_len (l : List Int) (h : mbV l = (0, 0)) : l.length ≤ 16 := by
  unfold mbV at h
  by_cases h0 : l = []
  · rw [h0]; simp
  rw [if_neg h0] at h
  by_cases h1 : 16 < l.length
  · rw [if_pos h1] at h; cases h
  · omega
theorem mf_0 {d : Dk} {r : Rq} (h : refV d r = (0, 0)) : mfV r = (0, 0) := by
  unfold refV at h
  by_cases hz : zchk d = 0
  · rw [if_neg (by simpa using hz)] at h
    by_cases hm : mfV r = (0, 0)
    · exact hm
    · rw [if_pos hm] at h; exact h
  · rw [if_pos hz] at h
    injection h with h1 _
    exact absurd h1 hz
theorem mf_len {r : Rq} (h : mfV r = (0, 0)) : r.il.length ≤ 16 := by
  unfold mfV at h
  by_cases h0 : r.k < 1 ∨ 10 < r.k
  · rw [if_pos h0] at h; cases h
  rw [if_neg h0] at h
  by_cases h1 : unO r = false
  · rw [if_pos h1] at h; cases h
  rw [if_neg h1] at h
  by_cases h2 : r.k = 1 ∨ r.k = 2
  · rw [if_pos h2] at h; exact mb_len _ h
  · have hu : unO r = true := by simpa using h1
    unfold unO at hu
    rw [Bool.and_eq_true, decide_eq_true_eq] at hu
    have := hu.1
    unfold unN at this
    rw [if_neg h2] at this
    omega
theorem path_inc (d : Dk) (a b : Int) : Two.Inc (pathV d a b) := by
  unfold pathV
  split
  · exact lanes_inc _ _ _
  · exact Two.inc_nil
theorem path_len (d : Dk) {w : World} (hd : d.In w w.heap.size) (a b : Int) : (pathV d a b).length ≤ 24 := by
  unfold pathV
  split
  · rename_i h
    have hg := sps_good d hd [a, b]
    rw [sps2 d a b h] at hg
    have h1 := hg (spA d a) (by simp)
    have h2 := hg (spA d b) (by simp)
    rw [lanes_len]
    omega
  · simp
set_option maxRecDepth 100000 in
set_option maxHeartbeats 4000000 in
theorem must_any (d : Dk) (r : Rq) (w : World) (hd : d.In w w.heap.size) (hr : r.In w w.heap.size) (hl : r.il.length ≤ 900) : Calls Tryd.prog 30 #[d.v, r.val] w fun e w' => ∃ v, e = .returned v ∧ KI.IsL w' w'.heap.size v (muL d r) ∧ Below w.heap.size w w' := by
  obtain ⟨w0, hw0⟩ : ∃ w0, w0 = (w.alloc (.cells #[.slice d.bA d.bn d.bc, .slice d.pA d.pn d.pc, .slice d.rA d.rn d.rc, .int .i64 d.arms] 26)).alloc (.cells r.ob 30) := ⟨_, rfl⟩
  have HB0 := Lib.hid (show Below w.heap.size w w0 by rw [hw0]; exact Below.al (Below.al (Below.refl _ _) _) _)
  have HD0 := Lib.hid (hd.then HB0.out)
  have HR0 := Lib.hid (hr.then HB0.out)
  have HS0 := Lib.hid (show w0.heap.size = w.heap.size + 2 by rw [hw0]; simp)
  have HK0 := Lib.hid (show DkAt w0 w.heap.size d by rw [hw0]; exact (Cells4.new w _ _ _ _ _).below (Below.al (Below.refl _ _) _))
  have HQ0 := Lib.hid (show RqAt w0 (w.heap.size + 1) r by
    have h := Cells6.new (w.alloc (.cells #[.slice d.bA d.bn d.bc, .slice d.pA d.pn d.pc, .slice d.rA d.rn d.rc, .int .i64 d.arms] 26)) 30 (.int .i64 r.k) (.slice r.iA r.il.length r.ic) (.int .i64 r.a) (.int .i64 r.b) (.int .i64 r.u) (.int .u64 r.v)
    rw [World.size_alloc] at h
    rw [hw0]; exact h)
  have HPT := Lib.hid (partsW_any r w0 HR0.out hl)
  have HMU := Lib.hid (show muL d r = if r.k = 4 then Two.mk ([r.a, r.b] ++ pathV d r.a r.b) else if r.k = 5 ∨ r.k = 6 ∨ r.k = 7 then Two.mk ([r.a] ++ setV d [r.a]) else if r.k = 2 then Two.mk r.il else [] from rfl)
  have HPL := Lib.hid (show ptL r = Two.mk ((nmL r).map Prod.snd) from rfl)
  have HNM := Lib.hid (show nmL r = if r.k = 1 ∨ r.k = 2 then r.il.map (fun x => (0, x)) else if r.k = 4 then [(1, r.a), (1, r.b)] else if r.k = 5 ∨ r.k = 6 ∨ r.k = 9 ∨ r.k = 10 then [(1, r.a)] else if r.k = 7 then [(2, r.a)] else [] from rfl)
  have HPI := Lib.hid (path_inc d r.a r.b)
  have HPN := Lib.hid (path_len d hd r.a r.b)
  have HSG := Lib.hid (fold_good d (spsL d [r.a]) (sps_good d hd [r.a]))
  have HSN := Lib.hid (show (setV d [r.a]).length ≤ 24 from fold_len d (spsL d [r.a]) (sps_good d hd [r.a]))
  have HPA := Lib.hid (fun w h => path_any d r.a r.b hr.a hr.b w h)
  have HNE := Lib.hid (fun v w h h1 => needs_any d v [r.a] w h h1 (by simp))
  have HLL := Lib.hid hl
  have hk : (r.k == 4) = true ∨ ((r.k == 4) = false ∧ ((r.k == 5) = true ∨ ((r.k == 5) = false ∧ ((r.k == 6) = true ∨ ((r.k == 6) = false ∧ (r.k == 7) = true))))) ∨ ((r.k == 4) = false ∧ (r.k == 5) = false ∧ (r.k == 6) = false ∧ (r.k == 7) = false ∧ (r.k == 2) = true) ∨ ((r.k == 4) = false ∧ (r.k == 5) = false ∧ (r.k == 6) = false ∧ (r.k == 7) = false ∧ (r.k == 2) = false) := by
    simp only [kEq, decide_eq_true_eq, decide_eq_false_iff_not]; omega
  have hlen : (ptL r).length ≤ 902 := by
    rw [HPL.out]
    have h1 := Two.mk_len_le ((nmL r).map Prod.snd)
    have h2 := nm_len r
    rw [List.length_map] at h1
    omega
  have HLP := Lib.hid hlen
  have HIP := Lib.hid (show Two.Inc (ptL r) by rw [HPL.out]; exact Two.inc_mk _)
  clear hd hr hl hlen
  obtain ⟨M, hM⟩ : ∃ M, muL d r = M := ⟨_, rfl⟩
  obtain ⟨PT, hPT⟩ : ∃ PT, ptL r = PT := ⟨_, rfl⟩
  rw [hM] at HMU ⊢
  rw [hPT] at HPT HPL HLP HIP
  clear hM hPT
  go_enter Tryd.func30, Tryd.ntmps30
  go_wp2_with fail
  rw [← hw0]
  clear hw0
  refine HPT.out.mono ?_
  rintro e w1 ⟨pv, rfl, hpv, hb1⟩
  have HPV := Lib.hid hpv
  have HB1 := Lib.hid hb1
  obtain ⟨q0, q1, q2, q3, q4, q5, -⟩ := HQ0.out.below hb1
  obtain ⟨d0, d1, d2, d3, -⟩ := HK0.out.below hb1
  clear hpv hb1
  rcases hk with k4 | ⟨k4, hk⟩ | ⟨k4, k5, k6, k7, k2⟩ | ⟨k4, k5, k6, k7, k2⟩
  case inl =>
    have HM2 := Lib.hid (show M = Two.mk (PT ++ pathV d r.a r.b) by
      simp only [kEq, decide_eq_true_eq] at k4
      rw [HMU.out, if_pos k4, HPL.out, HNM.out, if_neg (by omega), if_pos k4, mk_mk]; rfl)
    go_wp2_with fail
    refine (HPA.out w1 (HD0.out.then HB1.out)).mono ?_
    rintro e w2 ⟨lv, rfl, hlv, hb2⟩
    have HB2 := Lib.hid (Below.call HB0.out (Below.call HB1.out hb2))
    have HLV := Lib.hid hlv
    have HPW := Lib.hid (HPV.out.then hb2)
    clear hlv hb2
    go_wp2_with fail
    refine (Two.either_any _ _ PT (pathV d r.a r.b) w2 (two_of HPW.out) (two_of HLV.out) (by have := HLP.out; have := HPN.out; omega) HIP.out HPI.out).mono ?_
    rintro e w3 ⟨nv, rfl, hnv, hb3⟩
    go_wp2
    go_ret
    exact ⟨_, rfl, by rw [HM2.out]; exact of_two hnv, Below.call HB2.out hb3⟩
  case inr.inr.inr =>
    have HM2 := Lib.hid (show M = [] by
      simp only [kEq, decide_eq_false_iff_not] at k4 k5 k6 k7 k2
      rw [HMU.out, if_neg k4, if_neg (by omega), if_neg k2])
    go_wp2
    go_ret
    exact ⟨_, rfl, by rw [HM2.out]; exact Lk.IsL.nil _ _ _ _, Below.call HB0.out HB1.out⟩
  case inr.inr.inl =>
    have HM2 := Lib.hid (show M = Two.mk (PT ++ []) by
      simp only [kEq, decide_eq_false_iff_not, decide_eq_true_eq] at k4 k5 k6 k7 k2
      rw [HMU.out, if_neg k4, if_neg (by omega), if_pos k2, HPL.out, HNM.out, if_pos (.inr k2), List.map_map, mk_mk, List.append_nil]
      congr 1
      exact (List.map_id _).symm)
    go_wp2_with fail
    refine (Two.either_any _ _ PT [] w1 (two_of HPV.out) (two_of (Lk.IsL.nil _ _ _ _)) (by have := HLP.out; simp; omega) HIP.out Two.inc_nil).mono ?_
    rintro e w3 ⟨nv, rfl, hnv, hb3⟩
    go_wp2
    go_ret
    exact ⟨_, rfl, by rw [HM2.out]; exact of_two hnv, Below.call HB0.out (Below.call HB1.out hb3)⟩
  have HP1 := Lib.hid (show PT = [r.a] by
    have hk2 : r.k ≠ 4 ∧ (r.k = 5 ∨ r.k = 6 ∨ r.k = 7) := by
      simp only [kEq, decide_eq_true_eq, decide_eq_false_iff_not] at k4 hk; omega
    rw [HPL.out, HNM.out, if_neg (by omega), if_neg hk2.1]
    by_cases h7 : r.k = 7
    · rw [if_neg (by omega), if_pos h7]; rfl
    · rw [if_pos (by omega)]; rfl)
  have HM2 := Lib.hid (show M = Two.mk (PT ++ setV d [r.a]) by
    have hk2 : r.k ≠ 4 ∧ (r.k = 5 ∨ r.k = 6 ∨ r.k = 7) := by
      simp only [kEq, decide_eq_true_eq, decide_eq_false_iff_not] at k4 hk; omega
    rw [HMU.out, if_neg hk2.1, if_pos hk2.2, HP1.out])
  rcases hk with k5 | ⟨k5, k6 | ⟨k6, k7⟩⟩
  all_goals
    go_wp2_with fail
    refine (HNE.out pv w1 (HD0.out.then HB1.out) (by rw [← HP1.out]; exact HPV.out)).mono ?_
    rintro e w2 ⟨lv, rfl, hlv, hb2⟩
    have HB2 := Lib.hid (Below.call HB0.out (Below.call HB1.out hb2))
    have HLV := Lib.hid hlv
    have HPW := Lib.hid (HPV.out.then hb2)
    clear hlv hb2
    go_wp2_with fail
    refine (Two.either_any _ _ PT (setV d [r.a]) w2 (two_of HPW.out) (two_of HLV.out) (by have := HLP.out; have := HSN.out; omega) HIP.out HSG.out.1).mono ?_
    rintro e w3 ⟨nv, rfl, hnv, hb3⟩
    go_wp2
    go_ret
    exact ⟨_, rfl, by rw [HM2.out]; exact of_two hnv, Below.call HB2.out hb3⟩
end Go.Proofs.YtmecohdedghiaaaDoor
namespace Go.Proofs.YtmecohdedghiaaaDoor
open Go.RowKit
set_option maxRecDepth 100000 in
set_option maxHeartbeats 4000000 in
theorem Must_any (d : Dk) (r : Rq) (w : World) (hd : d.In w w.heap.size) (hr : r.In w w.heap.size) (hT : Nn.Tab w) : Calls Tryd.prog 12 #[d.v, r.val] w fun e w' => ∃ v, e = .returned v ∧ KI.IsL w' w'.heap.size v (muV d r) ∧ Below w.heap.size w w' := by
  obtain ⟨w0, hw0⟩ : ∃ w0, w0 = (w.alloc (.cells #[.slice d.bA d.bn d.bc, .slice d.pA d.pn d.pc, .slice d.rA d.rn d.rc, .int .i64 d.arms] 26)).alloc (.cells r.ob 30) := ⟨_, rfl⟩
  have HB0 := Lib.hid (show Below w.heap.size w w0 by rw [hw0]; exact Below.al (Below.al (Below.refl _ _) _) _)
  have HD0 := Lib.hid (hd.then HB0.out)
  have HR0 := Lib.hid (hr.then HB0.out)
  have HS0 := Lib.hid (show w0.heap.size = w.heap.size + 2 by rw [hw0]; simp)
  have HK0 := Lib.hid (show DkAt w0 w.heap.size d by rw [hw0]; exact (Cells4.new w _ _ _ _ _).below (Below.al (Below.refl _ _) _))
  have HQ0 := Lib.hid (show RqAt w0 (w.heap.size + 1) r by
    have h := Cells6.new (w.alloc (.cells #[.slice d.bA d.bn d.bc, .slice d.pA d.pn d.pc, .slice d.rA d.rn d.rc, .int .i64 d.arms] 26)) 30 (.int .i64 r.k) (.slice r.iA r.il.length r.ic) (.int .i64 r.a) (.int .i64 r.b) (.int .i64 r.u) (.int .u64 r.v)
    rw [World.size_alloc] at h
    rw [hw0]; exact h)
  have HMY := Lib.hid (may_any d r w0 HD0.out HR0.out (hT.below HB0.out))
  have HMU := Lib.hid (show muV d r = if refV d r = (0, 0) then muL d r else [] from rfl)
  have HMS := Lib.hid (fun w h1 h2 h3 => must_any d r w h1 h2 h3)
  have HLL := Lib.hid (fun h : refV d r = (0, 0) => mf_len (mf_0 h))
  obtain ⟨V, hV⟩ : ∃ V, refV d r = V := ⟨_, rfl⟩
  rw [hV] at HMY HMU HLL
  obtain ⟨M, hM⟩ : ∃ M, muV d r = M := ⟨_, rfl⟩
  rw [hM] at HMU ⊢
  clear hd hr hT hV hM
  by_cases h : V = (0, 0)
  · have HMV := Lib.hid (show M = muL d r by rw [HMU.out, if_pos h])
    have HL := Lib.hid (HLL.out h)
    rw [decide_eq_true h] at HMY
    clear h
    go_enter Tryd.func12, Tryd.ntmps12
    go_wp2_with fail
    rw [← hw0]
    clear hw0
    refine HMY.out.mono ?_
    rintro e w1 ⟨rfl, hb1⟩
    have HB1 := Lib.hid hb1
    obtain ⟨q0, q1, q2, q3, q4, q5, -⟩ := HQ0.out.below hb1
    obtain ⟨d0, d1, d2, d3, -⟩ := HK0.out.below hb1
    clear hb1
    go_wp2_with fail
    refine (HMS.out w1 (HD0.out.then HB1.out) (HR0.out.then HB1.out) (by have := HL.out; omega)).mono ?_
    rintro e w2 ⟨v, rfl, hv, hb2⟩
    go_wp2
    go_ret
    exact ⟨_, rfl, by rw [HMV.out]; exact hv, Below.call HB0.out (Below.call HB1.out hb2)⟩
  · have HMV := Lib.hid (show M = [] by rw [HMU.out, if_neg h])
    rw [decide_eq_false h] at HMY
    clear h
    go_enter Tryd.func12, Tryd.ntmps12
    go_wp2_with fail
    rw [← hw0]
    clear hw0
    refine HMY.out.mono ?_
    rintro e w1 ⟨rfl, hb1⟩
    go_wp2
    go_ret
    exact ⟨_, rfl, by rw [HMV.out]; exact Lk.IsL.nil _ _ _ _, Below.call HB0.out hb1⟩
end Go.Proofs.YtmecohdedghiaaaDoor
namespace Go.Proofs.YtmecohdedghiaaaDoor
open Go.RowKit
theorem pt_1 {r : Rq} (h : r.k = 1) : ptL r = Two.mk r.il := by
  unfold ptL nmL
  rw [if_pos (.inl h), List.map_map]
  congr 1
  exact List.map_id _
theorem pt_9 {r : Rq} (h : r.k = 9 ∨ r.k = 10) : ptL r = [r.a] := by
  unfold ptL nmL
  rw [if_neg (by omega), if_neg (by omega), if_pos (by omega)]
  rfl
set_option maxRecDepth 100000 in
set_option maxHeartbeats 4000000 in
theorem locks_any (d : Dk) (r : Rq) (ov : Value) (own : List Int) (hand : Int) (w : World) (hd : d.In w w.heap.size) (hr : r.In w w.heap.size) (hT : Nn.Tab w) (ho : KI.IsL w w.heap.size ov own) (hol : own.length ≤ 1000) (hh : fits hand) : Calls Tryd.prog 13 #[d.v, r.val, ov, .int .i64 hand] w fun e w' => ∃ v, e = .returned v ∧ KI.IsL w' w'.heap.size v (lkW d r own hand) ∧ Below w.heap.size w w' := by
  obtain ⟨w0, hw0⟩ : ∃ w0, w0 = (w.alloc (.cells #[.slice d.bA d.bn d.bc, .slice d.pA d.pn d.pc, .slice d.rA d.rn d.rc, .int .i64 d.arms] 26)).alloc (.cells r.ob 30) := ⟨_, rfl⟩
  have HB0 := Lib.hid (show Below w.heap.size w w0 by rw [hw0]; exact Below.al (Below.al (Below.refl _ _) _) _)
  have HD0 := Lib.hid (hd.then HB0.out)
  have HR0 := Lib.hid (hr.then HB0.out)
  have HS0 := Lib.hid (show w0.heap.size = w.heap.size + 2 by rw [hw0]; simp)
  have HK0 := Lib.hid (show DkAt w0 w.heap.size d by rw [hw0]; exact (Cells4.new w _ _ _ _ _).below (Below.al (Below.refl _ _) _))
  have HQ0 := Lib.hid (show RqAt w0 (w.heap.size + 1) r by
    have h := Cells6.new (w.alloc (.cells #[.slice d.bA d.bn d.bc, .slice d.pA d.pn d.pc, .slice d.rA d.rn d.rc, .int .i64 d.arms] 26)) 30 (.int .i64 r.k) (.slice r.iA r.il.length r.ic) (.int .i64 r.a) (.int .i64 r.b) (.int .i64 r.u) (.int .u64 r.v)
    rw [World.size_alloc] at h
    rw [hw0]; exact h)
  have HMY := Lib.hid (may_any d r w0 HD0.out HR0.out (hT.below HB0.out))
  have HMU := Lib.hid (show lkW d r own hand = if refV d r = (0, 0) then (if r.k = 1 then Two.mk r.il else if r.k = 3 then Two.mk own else if r.k = 8 then (if hand < 0 then [] else [hand]) else if r.k = 9 ∨ r.k = 10 then [r.a] else muL d r) else [] from rfl)
  have HMS := Lib.hid (fun w h1 h2 h3 => must_any d r w h1 h2 h3)
  have HPS := Lib.hid (fun w h1 h2 => partsW_any r w h1 h2)
  have HLL := Lib.hid (fun h : refV d r = (0, 0) => mf_len (mf_0 h))
  have HP1 := Lib.hid (fun h => pt_1 (r := r) h)
  have HP9 := Lib.hid (fun h => pt_9 (r := r) h)
  have HO := Lib.hid (ho.then HB0.out)
  have HOL := Lib.hid hol
  have HH := Lib.hid hh
  obtain ⟨V, hV⟩ : ∃ V, refV d r = V := ⟨_, rfl⟩
  rw [hV] at HMY HMU HLL
  obtain ⟨M, hM⟩ : ∃ M, lkW d r own hand = M := ⟨_, rfl⟩
  rw [hM] at HMU ⊢
  clear hd hr hT hV hM ho hol hh
  by_cases h : V = (0, 0)
  case neg =>
    have HMV := Lib.hid (show M = [] by rw [HMU.out, if_neg h])
    rw [decide_eq_false h] at HMY
    clear h
    go_enter Tryd.func13, Tryd.ntmps13
    go_wp2_with fail
    rw [← hw0]
    clear hw0
    refine HMY.out.mono ?_
    rintro e w1 ⟨rfl, hb1⟩
    go_wp2
    go_ret
    exact ⟨_, rfl, by rw [HMV.out]; exact Lk.IsL.nil _ _ _ _, Below.call HB0.out hb1⟩
  have HMV := Lib.hid (show M = if r.k = 1 then Two.mk r.il else if r.k = 3 then Two.mk own else if r.k = 8 then (if hand < 0 then [] else [hand]) else if r.k = 9 ∨ r.k = 10 then [r.a] else muL d r by rw [HMU.out, if_pos h])
  have HL := Lib.hid (HLL.out h)
  rw [decide_eq_true h] at HMY
  have hk : ((r.k == 1) = true ∨ ((r.k == 1) = false ∧ ((r.k == 9) = true ∨ ((r.k == 9) = false ∧ (r.k == 10) = true)))) ∨ ((r.k == 1) = false ∧ (r.k == 9) = false ∧ (r.k == 10) = false ∧ (r.k == 3) = true) ∨ ((r.k == 1) = false ∧ (r.k == 9) = false ∧ (r.k == 10) = false ∧ (r.k == 3) = false ∧ (r.k == 8) = true) ∨ ((r.k == 1) = false ∧ (r.k == 9) = false ∧ (r.k == 10) = false ∧ (r.k == 3) = false ∧ (r.k == 8) = false) := by
    simp only [kEq, decide_eq_true_eq, decide_eq_false_iff_not]; omega
  clear h HMU
  go_enter Tryd.func13, Tryd.ntmps13
  go_wp2_with fail
  rw [← hw0]
  clear hw0
  refine HMY.out.mono ?_
  rintro e w1 ⟨rfl, hb1⟩
  have HB1 := Lib.hid hb1
  have HO1 := Lib.hid (HO.out.then hb1)
  obtain ⟨q0, q1, q2, q3, q4, q5, -⟩ := HQ0.out.below hb1
  obtain ⟨d0, d1, d2, d3, -⟩ := HK0.out.below hb1
  clear hb1
  rcases hk with hk | ⟨k1, k9, k10, k3⟩ | ⟨k1, k9, k10, k3, k8⟩ | ⟨k1, k9, k10, k3, k8⟩
  · have HM2 := Lib.hid (show M = ptL r by
      simp only [kEq, decide_eq_true_eq, decide_eq_false_iff_not] at hk
      rw [HMV.out]
      by_cases h1 : r.k = 1
      · rw [if_pos h1, HP1.out h1]
      · rw [if_neg h1, if_neg (by omega), if_neg (by omega), if_pos (by omega), HP9.out (by omega)])
    rcases hk with k1 | ⟨k1, k9 | ⟨k9, k10⟩⟩
    all_goals
      go_wp2_with fail
      refine (HPS.out w1 (HR0.out.then HB1.out) (by have := HL.out; omega)).mono ?_
      rintro e w2 ⟨v, rfl, hv, hb2⟩
      go_wp2
      go_ret
      exact ⟨_, rfl, by rw [HM2.out]; exact hv, Below.call HB0.out (Below.call HB1.out hb2)⟩
  · have HM2 := Lib.hid (show M = Two.mk own by
      simp only [kEq, decide_eq_true_eq, decide_eq_false_iff_not] at k1 k9 k10 k3
      rw [HMV.out, if_neg k1, if_pos k3])
    go_wp2_with fail
    refine (Two.from_any _ own w1 (two_of HO1.out) HOL.out).mono ?_
    rintro e w2 ⟨v, rfl, hv, hb2⟩
    go_wp2
    go_ret
    exact ⟨_, rfl, by rw [HM2.out]; exact of_two hv, Below.call HB0.out (Below.call HB1.out hb2)⟩
  · by_cases hn : hand < 0
    · have HM2 := Lib.hid (show M = [] by
        simp only [kEq, decide_eq_true_eq, decide_eq_false_iff_not] at k1 k9 k10 k3 k8
        rw [HMV.out, if_neg k1, if_neg k3, if_pos k8, if_pos hn])
      go_wp2
      go_ret
      exact ⟨_, rfl, by rw [HM2.out]; exact Lk.IsL.nil _ _ _ _, Below.call HB0.out HB1.out⟩
    · have HM2 := Lib.hid (show M = [hand] by
        simp only [kEq, decide_eq_true_eq, decide_eq_false_iff_not] at k1 k9 k10 k3 k8
        rw [HMV.out, if_neg k1, if_neg k3, if_pos k8, if_neg hn])
      go_wp2
      go_ret
      refine ⟨_, rfl, ?_, Below.al (Below.call HB0.out HB1.out) _⟩
      rw [HM2.out, World.size_alloc]
      exact Lk.IsL.lit (K := KI) w1 hand #[.int .i64 hand] HH.out rfl w1.heap.size rfl
  · have HM2 := Lib.hid (show M = muL d r by
      simp only [kEq, decide_eq_false_iff_not] at k1 k9 k10 k3 k8
      rw [HMV.out, if_neg k1, if_neg k3, if_neg k8, if_neg (by omega)])
    go_wp2_with fail
    refine (HMS.out w1 (HD0.out.then HB1.out) (HR0.out.then HB1.out) (by have := HL.out; omega)).mono ?_
    rintro e w2 ⟨v, rfl, hv, hb2⟩
    go_wp2
    go_ret
    exact ⟨_, rfl, by rw [HM2.out]; exact hv, Below.call HB0.out (Below.call HB1.out hb2)⟩
end Go.Proofs.YtmecohdedghiaaaDoor
namespace Go.Proofs.YtmecohdedghiaaaDoor
open Go.RowKit
theorem sameList0_any (w : World) : Calls Tryd.prog 22 #[.slice none 0 0, .slice none 0 0] w fun e w' => e = .returned (.bool true) ∧ w = w' := by
  go_enter Tryd.func22, Tryd.ntmps22
  go_wp2
  go_loopw [5] (fun i wr => i = .int .i64 0 ∧ w = wr) (fun _ _ => 0)
  case atStart => exact ⟨rfl, rfl⟩
  case round =>
    obtain ⟨rfl, rfl⟩ := hrel
    go_wp2
    go_ret
    exact ⟨rfl, rfl⟩
set_option maxRecDepth 100000 in
set_option maxHeartbeats 4000000 in
theorem same15_any (p q : Int × Int) (w : World) : Calls Tryd.prog 9 #[rsv p, rsv q] w fun e w' => e = .returned (.bool (decide (p = q))) ∧ Below w.heap.size w w' := by
  obtain ⟨p1, p2⟩ := p
  obtain ⟨q1, q2⟩ := q
  unfold rsv
  dsimp only
  by_cases h1 : p1 = q1
  · by_cases h2 : p2 = q2
    · go_enter Tryd.func9, Tryd.ntmps9
      go_wp2_with fail
      refine (sameList0_any _).mono ?_
      rintro e w1 ⟨rfl, rfl⟩
      go_wp2
      go_ret
      exact ⟨ret_b (by rw [h1, h2]; simp), Below.al (Below.al (Below.refl _ _) _) _⟩
    · go_enter Tryd.func9, Tryd.ntmps9
      go_wp2
      go_ret
      exact ⟨ret_b (by simp [h2]), Below.al (Below.al (Below.refl _ _) _) _⟩
  · go_enter Tryd.func9, Tryd.ntmps9
    go_wp2
    go_ret
    exact ⟨ret_b (by simp [h1]), Below.al (Below.al (Below.refl _ _) _) _⟩
end Go.Proofs.YtmecohdedghiaaaDoor
namespace Go.Proofs.YtmecohdedghiaaaDoor
open Go.RowKit
noncomputable def kdV (d : Dk) (id : Int) : Int := if (partV d id).2 = 0 then (partV d id).1.a else 0
theorem kd_pos (d : Dk) (id : Int) (h : (partV d id).2 = 0) : (partV d id).1.a = 1 ∨ (partV d id).1.a = 2 ∨ (partV d id).1.a = 3 := by
  unfold partV at h ⊢
  by_cases hz : dchk d = 0
  · rw [if_pos hz] at h ⊢
    obtain ⟨A, B, C, e, -, -, kA, kB, kC⟩ := parts_split d (dchk_ok d hz)
    unfold partR at h ⊢
    by_cases h0 : id < 0 ∨ ((partsL d).length : Int) ≤ id
    · rw [if_pos h0] at h; exact absurd h (by show ¬ (3 : Int) = 0; decide)
    · rw [if_neg h0]
      have hm : (partsL d).getD id.toNat ⟨0, 0, 0, 0⟩ ∈ partsL d := getD_mem' _ _ _ (by omega)
      rw [e] at hm
      rw [← e] at hm
      have hm2 : (partsL d).getD id.toNat ⟨0, 0, 0, 0⟩ ∈ A ++ (B ++ C) := by rw [← e]; exact hm
      rcases List.mem_append.1 hm2 with h | h
      · exact .inl (kA _ h)
      rcases List.mem_append.1 h with h | h
      · exact .inr (.inl (kB _ h))
      · exact .inr (.inr (kC _ h))
  · rw [if_neg hz] at h
    exact absurd h hz
theorem iw_0 (d : Dk) (id : Int) : iwP d 0 id = !(kdV d id == 0) := by
  unfold iwP kdV
  by_cases h : (partV d id).2 = 0
  · have hp := kd_pos d id h
    rw [if_pos h, decide_eq_true h]
    have : ((partV d id).1.a == 0) = false := by rw [beq_eq_false_iff_ne]; omega
    rw [this]; rfl
  · rw [if_neg h, decide_eq_false h]; rfl
theorem iw_k (d : Dk) (k id : Int) (hk : k = 1 ∨ k = 2) : iwP d k id = (kdV d id == k) := by
  unfold iwP kdV
  have h0 : decide (k = 0) = false := decide_eq_false (by omega)
  rw [h0, Bool.false_or]
  by_cases h : (partV d id).2 = 0
  · rw [if_pos h, decide_eq_true h, Bool.true_and, kEq]
  · rw [if_neg h, decide_eq_false h, Bool.false_and, kEq]
    exact (decide_eq_false (by omega)).symm
theorem no_any (e id : Int) (w : World) : Calls Tryd.prog 25 #[.int .i64 e, .int .i64 id] w fun e' w' => e' = .returned (rsv (e, id)) ∧ Below w.heap.size w w' := by
  go_enter Tryd.func25, Tryd.ntmps25
  go_wp2
  refine bodyPost_ret (v := rsv (e, id)) ?_ rfl ⟨rfl, ?_⟩
  · simp [results, Tryd.results25, go_sem, rsv]
  · repeat (first | exact Below.refl _ _ | refine Below.al ?_ _ | refine Below.st ?_ (by simp))
set_option maxRecDepth 100000 in
set_option maxHeartbeats 4000000 in
theorem kind_any (d : Dk) (id : Int) (hid : fits id) (w : World) (hd : d.In w w.heap.size) : Calls Tryd.prog 28 #[d.v, .int .i64 id] w fun e w' => e = .returned (.int .i64 (kdV d id)) ∧ Below w.heap.size w w' := by
  obtain ⟨w0, hw0⟩ : ∃ w0, w0 = w.alloc (.cells #[.slice d.bA d.bn d.bc, .slice d.pA d.pn d.pc, .slice d.rA d.rn d.rc, .int .i64 d.arms] 26) := ⟨_, rfl⟩
  have HB0 := Lib.hid (show Below w.heap.size w w0 by rw [hw0]; exact Below.al (Below.refl _ _) _)
  have HP := Lib.hid (rpart_any d id hid w0 (hd.then HB0.out))
  have e : kdV d id = if (partV d id).2 = 0 then (partV d id).1.a else 0 := rfl
  generalize partV d id = t at *
  obtain ⟨⟨qa, qb, qc, qd⟩, er⟩ := t
  rw [e]
  clear e hd
  unfold partVal at HP
  dsimp only at HP ⊢
  by_cases h0 : er = 0
  · subst h0
    rw [if_pos rfl]
    go_enter Tryd.func28, Tryd.ntmps28
    go_wp2_with fail
    rw [← hw0]
    clear hw0
    refine HP.out.mono ?_
    rintro e w1 ⟨rfl, hb1⟩
    have HB1 := Lib.hid (Below.call HB0.out hb1)
    clear hb1
    go_wp2
    go_ret
    exact ⟨rfl, by first | exact Below.al HB1.out _ | (exact Below.al (Below.al HB1.out _) _)⟩
  · rw [if_neg h0]
    have h0' : (er != 0) = true := by simpa using h0
    clear h0
    go_enter Tryd.func28, Tryd.ntmps28
    go_wp2_with fail
    rw [← hw0]
    clear hw0
    refine HP.out.mono ?_
    rintro e w1 ⟨rfl, hb1⟩
    have HB1 := Lib.hid (Below.call HB0.out hb1)
    clear hb1
    go_wp2
    go_ret
    exact ⟨rfl, by first | exact Below.al HB1.out _ | (exact Below.al (Below.al HB1.out _) _)⟩
def nm0 (k : Int) : Bool := decide (k = 1 ∨ k = 2)
def nm1 (k : Int) : Bool := decide (k = 4 ∨ k = 5 ∨ k = 6 ∨ k = 7 ∨ k = 9 ∨ k = 10)
def nm2 (k : Int) : Bool := decide (k = 4)
def nm3 (k : Int) : Bool := decide (k = 10)
def nm4 (k : Int) : Bool := decide (k = 4 ∨ k = 5 ∨ k = 6)
set_option maxRecDepth 100000 in
set_option maxHeartbeats 4000000 in
theorem names_any (k : Int) (w : World) : Calls Tryd.prog 26 #[.int .i64 k] w fun e w' => e = .returned (.agg #[.bool (nm0 k), .bool (nm1 k), .bool (nm2 k), .bool (nm3 k), .bool (nm4 k)]) ∧ Below w.heap.size w w' := by
  rcases kinds k with rfl | rfl | rfl | rfl | rfl | rfl | rfl | rfl | ⟨k1, k2, k4, k5, k6, k7, k9, k10⟩
  all_goals
    go_enter Tryd.func26, Tryd.ntmps26
    go_wp2
    refine bodyPost_ret (v := .agg #[.bool (nm0 _), .bool (nm1 _), .bool (nm2 _), .bool (nm3 _), .bool (nm4 _)]) ?_ rfl ⟨rfl, ?_⟩
    · first
        | (simp [results, Tryd.results26, go_sem, nm0, nm1, nm2, nm3, nm4]; done)
        | (simp only [beq_eq_false_iff_ne, ne_eq] at k1 k2 k4 k5 k6 k7 k9 k10; simp [results, Tryd.results26, go_sem, nm0, nm1, nm2, nm3, nm4, k1, k2, k4, k5, k6, k7, k9, k10])
    · repeat (first | exact Below.refl _ _ | refine Below.al ?_ _ | refine Below.st ?_ (by simp))
end Go.Proofs.YtmecohdedghiaaaDoor

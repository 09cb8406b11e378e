/- Units: how many parts lie on one, and whether a part does. -/
import Derived.Test.YtmecohdedghiaaaGreatDoorPl01
namespace Go.Proofs.YtmecohdedghiaaaGreatDoor
open Go.RowKit
/-- A plate: its numbers, where its volumes lie, and what they are. -/
structure Pl where
 rows : Int
 cols : Int
 x : Nat
 p : Nat
 r : Nat
 cap : Int
 sA : Option Addr
 sn : Nat
 sc : Nat
 st : List Int
structure Rk where
 rows : Int
 cols : Int
 x : Nat
 p : Nat
 r : Nat
/-- Four numbers. -/
structure Q4 where
 a : Int
 b : Int
 c : Int
 d : Int
 deriving DecidableEq
def plCells (q : Pl) : List Value := [.int .i64 q.rows, .int .i64 q.cols, .float .f64 q.x, .float .f64 q.p, .float .f64 q.r, .int .i64 q.cap, .slice q.sA q.sn q.sc]
def rkCells (q : Rk) : List Value := [.int .i64 q.rows, .int .i64 q.cols, .float .f64 q.x, .float .f64 q.p, .float .f64 q.r]
def q4Cells (q : Q4) : List Value := [.int .i64 q.a, .int .i64 q.b, .int .i64 q.c, .int .i64 q.d]
noncomputable def KP : Lk Tryz.prog Pl where
 S := 23
 E := 86
 n := 7
 zero := .agg #[.int .i64 0, .int .i64 0, .float .f64 0, .float .f64 0, .float .f64 0, .int .i64 0, .slice none 0 0]
 bytes := 72
 cells := plCells
 dflt := ⟨0, 0, 0, 0, 0, 0, none, 0, 0, []⟩
 ok q := fits q.rows ∧ fits q.cols ∧ q.x < 18446744073709551616 ∧ q.p < 18446744073709551616 ∧ q.r < 18446744073709551616 ∧ fits q.cap
 und := Tryz.underlying23
 info := by kernel_rfl
 zs := rfl
 pos := by decide
 small := by decide
 len _ := rfl
 one x u hu := by
  simp only [plCells, List.mem_cons, List.not_mem_nil, or_false] at hu
  rcases hu with rfl | rfl | rfl | rfl | rfl | rfl | rfl <;> rfl
noncomputable def KR : Lk Tryz.prog Rk where
 S := 24
 E := 118
 n := 5
 zero := .agg #[.int .i64 0, .int .i64 0, .float .f64 0, .float .f64 0, .float .f64 0]
 bytes := 40
 cells := rkCells
 dflt := ⟨0, 0, 0, 0, 0⟩
 ok q := fits q.rows ∧ fits q.cols ∧ q.x < 18446744073709551616 ∧ q.p < 18446744073709551616 ∧ q.r < 18446744073709551616
 und := Tryz.underlying24
 info := by kernel_rfl
 zs := rfl
 pos := by decide
 small := by decide
 len _ := rfl
 one x u hu := by
  simp only [rkCells, List.mem_cons, List.not_mem_nil, or_false] at hu
  rcases hu with rfl | rfl | rfl | rfl | rfl <;> rfl
noncomputable def KU : Lk Tryz.prog Q4 where
 S := 255
 E := 258
 n := 4
 zero := .agg #[.int .i64 0, .int .i64 0, .int .i64 0, .int .i64 0]
 bytes := 32
 cells := q4Cells
 dflt := ⟨0, 0, 0, 0⟩
 ok q := fits q.a ∧ fits q.b ∧ fits q.c ∧ fits q.d
 und := Tryz.underlying255
 info := by kernel_rfl
 zs := rfl
 pos := by decide
 small := by decide
 len _ := rfl
 one x u hu := by
  simp only [q4Cells, List.mem_cons, List.not_mem_nil, or_false] at hu
  rcases hu with rfl | rfl | rfl | rfl <;> rfl
noncomputable def KQ : Lk Tryz.prog Q4 where
 S := 93
 E := 153
 n := 4
 zero := .agg #[.int .i64 0, .int .i64 0, .int .i64 0, .int .i64 0]
 bytes := 32
 cells := q4Cells
 dflt := ⟨0, 0, 0, 0⟩
 ok q := fits q.a ∧ fits q.b ∧ fits q.c ∧ fits q.d
 und := Tryz.underlying93
 info := by kernel_rfl
 zs := rfl
 pos := by decide
 small := by decide
 len _ := rfl
 one x u hu := by
  simp only [q4Cells, List.mem_cons, List.not_mem_nil, or_false] at hu
  rcases hu with rfl | rfl | rfl | rfl <;> rfl
/-- A list's length is the slice's. -/
theorem Lk.IsL.len {P : Program} {α : Type} {K : Lk P α} {w : World} {B : Nat} {A : Option Addr} {n c : Nat} {xs : List α} (h : K.IsL w B (.slice A n c) xs) : n = xs.length := by
 obtain ⟨⟨A', c', hv, _⟩, _⟩ := h
 injection hv
/-- An element's cells. -/
theorem Lk.IsL.elem {P : Program} {α : Type} {K : Lk P α} {w : World} {B : Nat} {A : Option Addr} {n c : Nat} {xs : List α} (h : K.IsL w B (.slice A n c) xs) (h0 : 0 < xs.length) : ∃ b off, A = some ⟨b, off, none⟩ ∧ b < B ∧ xs.length ≤ c ∧
  ∀ i, i < xs.length → ∀ j u, (K.cells (xs.getD i K.dflt))[j]? = some u → w.cell? ⟨b, off + (i * K.n + j), none⟩ = some u := by
 obtain ⟨⟨A', c', hv, hc, hA⟩, _⟩ := h
 obtain ⟨b, off, rfl, hb, hcell⟩ := hA h0
 injection hv with e1 e2 e3
 exact ⟨b, off, e1, hb, by omega, hcell⟩
theorem Lk.IsL.okAt {P : Program} {α : Type} {K : Lk P α} {w : World} {B : Nat} {v : Value} {xs : List α} (h : K.IsL w B v xs) (i : Nat) (hi : i < xs.length) : K.ok (xs.getD i K.dflt) := h.2.1 _ (getD_mem' xs i _ hi)
/-- A deck: where its lists lie, and what they are. -/
structure Dk where
 bA : Option Addr
 bn : Nat
 bc : Nat
 bl : List Nat
 pA : Option Addr
 pn : Nat
 pc : Nat
 pl : List Pl
 rA : Option Addr
 rn : Nat
 rc : Nat
 rl : List Rk
 arms : Int
/-- A deck's value. -/
abbrev Dk.v (d : Dk) : Value := .agg #[.slice d.bA d.bn d.bc, .slice d.pA d.pn d.pc, .slice d.rA d.rn d.rc, .int .i64 d.arms]
/-- A deck that lies in memory below a block. -/
structure Dk.In (w : World) (B : Nat) (d : Dk) : Prop where
 b : KF.IsL w B (.slice d.bA d.bn d.bc) d.bl
 p : KP.IsL w B (.slice d.pA d.pn d.pc) d.pl
 r : KR.IsL w B (.slice d.rA d.rn d.rc) d.rl
 s : ∀ q ∈ d.pl, KI.IsL w B (.slice q.sA q.sn q.sc) q.st
 a : fits d.arms
theorem Dk.In.below {w w' : World} {B : Nat} {d : Dk} (h : d.In w B) (hb : Below B w w') : d.In w' B := ⟨h.b.below hb, h.p.below hb, h.r.below hb, fun q hq => (h.s q hq).below hb, h.a⟩
theorem Dk.In.more {w : World} {B B' : Nat} {d : Dk} (h : d.In w B) (hB : B ≤ B') : d.In w B' := ⟨h.b.more hB, h.p.more hB, h.r.more hB, fun q hq => (h.s q hq).more hB, h.a⟩
theorem Dk.In.then {w w' : World} {d : Dk} (h : d.In w w.heap.size) (hb : Below w.heap.size w w') : d.In w' w'.heap.size := (h.below hb).more hb.size
theorem Dk.In.drewN {w : World} {B : Nat} {d : Dk} (h : d.In w B) (n : Nat) : d.In (w.drewN n) B := ⟨h.b, h.p, h.r, h.s, h.a⟩
/-- May so many rows and columns be? -/
def sizeB (r c : Int) : Bool := decide (1 ≤ r ∧ r ≤ 32 ∧ 1 ≤ c ∧ c ≤ 48)
set_option maxHeartbeats 1000000 in
theorem rightSize_any (r c : Int) (w : World) : Calls Tryz.prog 216 #[.int .i64 r, .int .i64 c] w fun e w' => e = .returned (.bool (sizeB r c)) ∧ w = w' := by
 by_cases h1 : 1 ≤ r <;> by_cases h2 : r ≤ 32 <;> by_cases h3 : 1 ≤ c
 all_goals (try (exfalso; omega; done))
 all_goals
  go_enter Tryz.func216, Tryz.ntmps216
  go_wp2
  go_ret
  exact ⟨ret_b (by first | exact (decide_eq_false (by omega)).symm | exact (decide_eq_true (by omega)).symm | (rw [sizeB, Bool.eq_iff_iff]; simp only [decide_eq_true_eq]; omega)), rfl⟩
set_option maxHeartbeats 1000000 in
theorem box_any (r c : Int) (w : World) : Calls Tryz.prog 163 #[.int .i64 r, .int .i64 c] w fun e w' => e = .returned (.bool (sizeB r c)) ∧ w = w' := by
 by_cases h1 : 1 ≤ r <;> by_cases h2 : r ≤ 32 <;> by_cases h3 : 1 ≤ c
 all_goals (try (exfalso; omega; done))
 all_goals
  go_enter Tryz.func163, Tryz.ntmps163
  go_wp2
  go_ret
  exact ⟨ret_b (by first | exact (decide_eq_false (by omega)).symm | exact (decide_eq_true (by omega)).symm | (rw [sizeB, Bool.eq_iff_iff]; simp only [decide_eq_true_eq]; omega)), rfl⟩
theorem size_of {r c : Int} (h : sizeB r c = true) : 1 ≤ r ∧ r ≤ 32 ∧ 1 ≤ c ∧ c ≤ 48 := by unfold sizeB at h; simpa using h
theorem size_mul {r c : Int} (h : sizeB r c = true) : 1 ≤ r * c ∧ r * c ≤ 1536 := by
 obtain ⟨h1, h2, h3, h4⟩ := size_of h
 have a := Int.mul_le_mul h2 h4 (by omega) (by omega)
 have b := Int.mul_le_mul h1 h3 (by omega) (by omega)
 omega
end Go.Proofs.YtmecohdedghiaaaGreatDoor
namespace Go.Proofs.YtmecohdedghiaaaGreatDoor
open Go.RowKit
def okN (cap n : Int) : Bool := decide (0 ≤ n ∧ n ≤ cap)
def plateB (q : Pl) : Bool := sizeB q.rows q.cols && decide (1 ≤ q.cap ∧ q.cap ≤ 1099511627776 ∧ (q.st.length : Int) ≤ q.rows * q.cols) && q.st.all (okN q.cap)
/-- A plate's value. -/
abbrev Pl.v (q : Pl) : Value := .agg #[.int .i64 q.rows, .int .i64 q.cols, .float .f64 q.x, .float .f64 q.p, .float .f64 q.r, .int .i64 q.cap, .slice q.sA q.sn q.sc]
theorem plate_no1 (q : Pl) (h : sizeB q.rows q.cols = false) : plateB q = false := by unfold plateB; rw [h]; rfl
theorem plate_no2 (q : Pl) (h : ¬ (1 ≤ q.cap ∧ q.cap ≤ 1099511627776 ∧ (q.st.length : Int) ≤ q.rows * q.cols)) : plateB q = false := by unfold plateB; rw [decide_eq_false h]; simp
theorem plate_is (q : Pl) (h : sizeB q.rows q.cols = true) (h2 : 1 ≤ q.cap ∧ q.cap ≤ 1099511627776 ∧ (q.st.length : Int) ≤ q.rows * q.cols) : plateB q = q.st.all (okN q.cap) := by unfold plateB; rw [h, decide_eq_true h2]; simp
theorem all_no (l : List Int) (f : Int → Bool) (k : Nat) (h : k < l.length) (hf : f (l.getD k 0) = false) : l.all f = false := by
 rw [← Bool.not_eq_true, List.all_eq_true]
 intro hh
 have := hh _ (getD_mem' l k 0 h)
 rw [hf] at this
 cases this
theorem all_yes (l : List Int) (f : Int → Bool) (h : ∀ i, i < l.length → f (l.getD i 0) = true) : l.all f = true := by
 rw [List.all_eq_true]
 intro x hx
 obtain ⟨i, hi, rfl⟩ := List.mem_iff_getElem.1 hx
 have := h i hi
 rw [List.getD_eq_getElem?_getD, List.getElem?_eq_getElem hi] at this
 exact this
set_option maxRecDepth 100000 in
set_option maxHeartbeats 4000000 in
theorem rightPlate_any (q : Pl) (w : World) (hs : KI.IsL w w.heap.size (.slice q.sA q.sn q.sc) q.st) (hok : KP.ok q) : Calls Tryz.prog 215 #[q.v] w fun e w' => e = .returned (.bool (plateB q)) ∧ Below w.heap.size w w' := by
 have N1 := Lib.hid (plate_no1 q)
 have N2 := Lib.hid (plate_no2 q)
 have N3 := Lib.hid (plate_is q)
 have hn := hs.len
 have hl := hs.2.2
 have HCL := Lib.hid (fun h0 : 0 < q.st.length => KI.cells hs h0)
 obtain ⟨_, _, _, _, _, hcap⟩ := hok
 obtain ⟨B, hB⟩ : ∃ B, B = plateB q := ⟨_, rfl⟩
 rw [← hB] at N1 N2 N3 ⊢
 clear hB
 obtain ⟨rows, cols, x, p, r, cap, sA, sn, sc, st⟩ := q
 dsimp only at *
 subst hn
 clear hs
 unfold fits at hcap
 rcases Bool.eq_false_or_eq_true (sizeB rows cols) with h1 | h1
 ·obtain ⟨m1, m2⟩ := size_mul h1
  by_cases hc : 1 ≤ cap ∧ cap ≤ 1099511627776 ∧ (st.length : Int) ≤ rows * cols
  ·have hB := N3.out h1 hc
   obtain ⟨c1, c2, c3⟩ := hc
   have HB := Lib.hid hB
   have HN := Lib.hid (all_no st (okN cap))
   have HY := Lib.hid (all_yes st (okN cap))
   clear N1 N2 N3 hB
   go_enter Tryz.func215, Tryz.ntmps215
   go_wp2_with fail
   refine (rightSize_any _ _ _).mono ?_
   rintro e w' ⟨rfl, rfl⟩
   go_wp2
   go_loop [35] (fun i => ∃ k : Nat, k ≤ st.length ∧ i = .int .i64 k ∧ ∀ i, i < k → okN cap (st.getD i 0) = true) (fun i => st.length - (intOf i).toNat)
   case atStart => exact ⟨0, Nat.zero_le _, rfl, fun i hi => by omega⟩
   case round =>
    obtain ⟨k, hk, rfl, hall⟩ := hrel
    have HL := Lib.hid hall
    clear hall
    by_cases hlt : k < st.length
    ·obtain ⟨b, off, cp, hv, hc2, hbB, _, hcell, _⟩ := HCL.out (by omega)
     injection hv with e1 e2 e3
     subst e1 e3
     have hx := hcell k hlt
     have HN' := Lib.hid (HN.out k hlt)
     have HLS := Lib.hid (show ∀ (h : okN cap (st.getD k 0) = true) (i : Nat), i < k + 1 → okN cap (st.getD i 0) = true from fun h i hi => by
      by_cases e : i = k
      ·rw [e]; exact h
      ·exact HL.out i (by omega))
     clear hcell
     generalize st.getD k 0 = n at *
     by_cases g : 0 ≤ n ∧ n ≤ cap
     ·have HR := Lib.hid (HLS.out (decide_eq_true g))
      obtain ⟨g1, g2⟩ := g
      go_wp2
      go_round
      case rel => exact ⟨k + 1, by omega, num_i (by omega), HR.out⟩
      case measure => simp [intOf]; omega
     ·have HR := Lib.hid (HN'.out (decide_eq_false g))
      by_cases g1 : n < 0
      ·go_wp2
       go_ret
       exact ⟨ret_b (by rw [HB.out, HR.out]), Below.al (Below.refl _ _) _⟩
      ·have g2 : cap < n := by omega
       clear g
       go_wp2
       go_ret
       exact ⟨ret_b (by rw [HB.out, HR.out]), Below.al (Below.refl _ _) _⟩
    ·obtain rfl : k = st.length := by omega
     go_wp2
     go_ret
     exact ⟨ret_b (by rw [HB.out, HY.out HL.out]), Below.al (Below.refl _ _) _⟩
  ·obtain rfl := N2.out hc
   by_cases c1 : cap < 1
   ·clear hc
    go_enter Tryz.func215, Tryz.ntmps215
    go_wp2_with fail
    refine (rightSize_any _ _ _).mono ?_
    rintro e w' ⟨rfl, rfl⟩
    go_wp2
    go_ret
    exact ⟨rfl, Below.al (Below.refl _ _) _⟩
   ·by_cases c2 : 1099511627776 < cap
    ·clear hc
     go_enter Tryz.func215, Tryz.ntmps215
     go_wp2_with fail
     refine (rightSize_any _ _ _).mono ?_
     rintro e w' ⟨rfl, rfl⟩
     go_wp2
     go_ret
     exact ⟨rfl, Below.al (Below.refl _ _) _⟩
    ·have c3 : rows * cols < (st.length : Int) := by omega
     clear hc
     go_enter Tryz.func215, Tryz.ntmps215
     go_wp2_with fail
     refine (rightSize_any _ _ _).mono ?_
     rintro e w' ⟨rfl, rfl⟩
     go_wp2
     go_ret
     exact ⟨rfl, Below.al (Below.refl _ _) _⟩
 ·obtain rfl := N1.out h1
  go_enter Tryz.func215, Tryz.ntmps215
  go_wp2_with fail
  refine (rightSize_any _ _ _).mono ?_
  rintro e w' ⟨rfl, rfl⟩
  go_wp2
  go_ret
  exact ⟨rfl, Below.al (Below.refl _ _) _⟩
set_option maxRecDepth 100000 in
set_option maxHeartbeats 4000000 in
theorem rplate_any (q : Pl) (w : World) (hs : KI.IsL w w.heap.size (.slice q.sA q.sn q.sc) q.st) (hok : KP.ok q) : Calls Tryz.prog 162 #[q.v] w fun e w' => e = .returned (.bool (plateB q)) ∧ Below w.heap.size w w' := by
 have N1 := Lib.hid (plate_no1 q)
 have N2 := Lib.hid (plate_no2 q)
 have N3 := Lib.hid (plate_is q)
 have hn := hs.len
 have hl := hs.2.2
 have HCL := Lib.hid (fun h0 : 0 < q.st.length => KI.cells hs h0)
 obtain ⟨_, _, _, _, _, hcap⟩ := hok
 obtain ⟨B, hB⟩ : ∃ B, B = plateB q := ⟨_, rfl⟩
 rw [← hB] at N1 N2 N3 ⊢
 clear hB
 obtain ⟨rows, cols, x, p, r, cap, sA, sn, sc, st⟩ := q
 dsimp only at *
 subst hn
 clear hs
 unfold fits at hcap
 rcases Bool.eq_false_or_eq_true (sizeB rows cols) with h1 | h1
 ·obtain ⟨m1, m2⟩ := size_mul h1
  by_cases hc : 1 ≤ cap ∧ cap ≤ 1099511627776 ∧ (st.length : Int) ≤ rows * cols
  ·have hB := N3.out h1 hc
   obtain ⟨c1, c2, c3⟩ := hc
   have HB := Lib.hid hB
   have HN := Lib.hid (all_no st (okN cap))
   have HY := Lib.hid (all_yes st (okN cap))
   clear N1 N2 N3 hB
   go_enter Tryz.func162, Tryz.ntmps162
   go_wp2_with fail
   refine (box_any _ _ _).mono ?_
   rintro e w' ⟨rfl, rfl⟩
   go_wp2
   obtain ⟨w0, hw0⟩ : ∃ w0, w0 = w.alloc (.cells #[.int .i64 rows, .int .i64 cols, .float .f64 x, .float .f64 p, .float .f64 r, .int .i64 cap, .slice sA st.length sc] 86) := ⟨_, rfl⟩
   rw [← hw0]
   have f5 : w0.cell? ⟨w.heap.size, 5, none⟩ = some (.int .i64 cap) := by rw [hw0]; simp
   have f6 : w0.cell? ⟨w.heap.size, 6, none⟩ = some (.slice sA st.length sc) := by rw [hw0]; simp
   have HB0 := Lib.hid (show Below w.heap.size w w0 by rw [hw0]; exact Below.al (Below.refl _ _) _)
   clear hw0
   go_loopw [3] (fun i wr => ∃ k d : Nat, k ≤ st.length ∧ i = .int .i64 k ∧ wr = w0.drewN d ∧ ∀ i, i < k → okN cap (st.getD i 0) = true) (fun i _ => st.length - (intOf i).toNat)
   case atStart => exact ⟨0, 0, Nat.zero_le _, rfl, rfl, fun i hi => by omega⟩
   case round =>
    obtain ⟨k, d, hk, rfl, hw, hall⟩ := hrel
    have HL := Lib.hid hall
    have HW := Lib.hid hw
    have g5 : wr.cell? ⟨w.heap.size, 5, none⟩ = some (.int .i64 cap) := by rw [hw]; exact f5
    have g6 : wr.cell? ⟨w.heap.size, 6, none⟩ = some (.slice sA st.length sc) := by rw [hw]; exact f6
    have HBW := Lib.hid (show Below w.heap.size w wr by rw [hw]; exact below_drewN HB0.out _)
    clear hall hw
    by_cases hlt : k < st.length
    ·obtain ⟨b, off, cp, hv, hc2, hbB, _, hcell, _⟩ := HCL.out (by omega)
     injection hv with e1 e2 e3
     subst e1 e3
     have hx := (HBW.out.cell (p := ⟨b, off + k, none⟩) hbB).trans (hcell k hlt)
     have HN' := Lib.hid (HN.out k hlt)
     have HLS := Lib.hid (show ∀ (h : okN cap (st.getD k 0) = true) (i : Nat), i < k + 1 → okN cap (st.getD i 0) = true from fun h i hi => by
      by_cases e : i = k
      ·rw [e]; exact h
      ·exact HL.out i (by omega))
     clear hcell f5 f6
     generalize st.getD k 0 = n at *
     by_cases g : 0 ≤ n ∧ n ≤ cap
     ·have HR := Lib.hid (HLS.out (decide_eq_true g))
      obtain ⟨g1, g2⟩ := g
      have d1 : decide (n < 0) = false := decide_eq_false (by omega)
      have d2 : decide (cap < n) = false := decide_eq_false (by omega)
      go_wp2_with fail
      go_quiet (fail)
      go_wp2
      go_roundw
      case rel => obtain ⟨d2, hd2⟩ := drewN_two w0 d nq; exact ⟨k + 1, d2, by omega, num_i (by omega), by rw [HW.out]; exact hd2, HR.out⟩
      case measure => simp [intOf]; omega
     ·have HR := Lib.hid (HN'.out (decide_eq_false g))
      by_cases g1 : n < 0
      ·have d1 : decide (n < 0) = true := decide_eq_true g1
       go_wp2_with fail
       go_quiet (fail)
       go_wp2
       go_ret
       exact ⟨ret_b (by rw [HB.out, HR.out]), below_drewN HBW.out _⟩
      ·have d1 : decide (n < 0) = false := decide_eq_false (by omega)
       have d2 : decide (cap < n) = true := decide_eq_true (by omega)
       clear g
       go_wp2_with fail
       go_quiet (fail)
       go_wp2
       go_ret
       exact ⟨ret_b (by rw [HB.out, HR.out]), below_drewN HBW.out _⟩
    ·obtain rfl : k = st.length := by omega
     go_wp2
     go_ret
     exact ⟨ret_b (by rw [HB.out, HY.out HL.out]), HBW.out⟩
  ·obtain rfl := N2.out hc
   by_cases c1 : cap < 1
   ·clear hc
    go_enter Tryz.func162, Tryz.ntmps162
    go_wp2_with fail
    refine (box_any _ _ _).mono ?_
    rintro e w' ⟨rfl, rfl⟩
    go_wp2
    go_ret
    exact ⟨rfl, Below.al (Below.refl _ _) _⟩
   ·by_cases c2 : 1099511627776 < cap
    ·clear hc
     go_enter Tryz.func162, Tryz.ntmps162
     go_wp2_with fail
     refine (box_any _ _ _).mono ?_
     rintro e w' ⟨rfl, rfl⟩
     go_wp2
     go_ret
     exact ⟨rfl, Below.al (Below.refl _ _) _⟩
    ·have c3 : rows * cols < (st.length : Int) := by omega
     clear hc
     go_enter Tryz.func162, Tryz.ntmps162
     go_wp2_with fail
     refine (box_any _ _ _).mono ?_
     rintro e w' ⟨rfl, rfl⟩
     go_wp2
     go_ret
     exact ⟨rfl, Below.al (Below.refl _ _) _⟩
 ·obtain rfl := N1.out h1
  go_enter Tryz.func162, Tryz.ntmps162
  go_wp2_with fail
  refine (box_any _ _ _).mono ?_
  rintro e w' ⟨rfl, rfl⟩
  go_wp2
  go_ret
  exact ⟨rfl, Below.al (Below.refl _ _) _⟩
end Go.Proofs.YtmecohdedghiaaaGreatDoor
namespace Go.Proofs.YtmecohdedghiaaaGreatDoor
open Go.RowKit
/-- A plate's cells. -/
theorem plate_cells {w : World} {B : Nat} {A : Option Addr} {n c : Nat} {xs : List Pl} (h : KP.IsL w B (.slice A n c) xs) (h0 : 0 < xs.length) : ∃ b off, A = some ⟨b, off, none⟩ ∧ b < B ∧ xs.length ≤ c ∧
  ∀ i, i < xs.length → w.cell? ⟨b, off + i * 7, none⟩ = some (.int .i64 (xs.getD i KP.dflt).rows) ∧ w.cell? ⟨b, off + i * 7 + 1, none⟩ = some (.int .i64 (xs.getD i KP.dflt).cols) ∧ w.cell? ⟨b, off + i * 7 + 2, none⟩ = some (.float .f64 (xs.getD i KP.dflt).x) ∧
   w.cell? ⟨b, off + i * 7 + 3, none⟩ = some (.float .f64 (xs.getD i KP.dflt).p) ∧ w.cell? ⟨b, off + i * 7 + 4, none⟩ = some (.float .f64 (xs.getD i KP.dflt).r) ∧ w.cell? ⟨b, off + i * 7 + 5, none⟩ = some (.int .i64 (xs.getD i KP.dflt).cap) ∧
   w.cell? ⟨b, off + i * 7 + 6, none⟩ = some (.slice (xs.getD i KP.dflt).sA (xs.getD i KP.dflt).sn (xs.getD i KP.dflt).sc) := by
 obtain ⟨b, off, e, hb, hc, hcell⟩ := h.elem h0
 refine ⟨b, off, e, hb, hc, fun i hi => ?_⟩
 have q := fun j u hu => hcell i hi j u hu
 have hn : KP.n = 7 := rfl
 simp only [hn, ← Nat.add_assoc] at q
 exact ⟨q 0 _ rfl, q 1 _ rfl, q 2 _ rfl, q 3 _ rfl, q 4 _ rfl, q 5 _ rfl, q 6 _ rfl⟩
theorem rack_cells {w : World} {B : Nat} {A : Option Addr} {n c : Nat} {xs : List Rk} (h : KR.IsL w B (.slice A n c) xs) (h0 : 0 < xs.length) : ∃ b off, A = some ⟨b, off, none⟩ ∧ b < B ∧ xs.length ≤ c ∧
  ∀ i, i < xs.length → w.cell? ⟨b, off + i * 5, none⟩ = some (.int .i64 (xs.getD i KR.dflt).rows) ∧ w.cell? ⟨b, off + i * 5 + 1, none⟩ = some (.int .i64 (xs.getD i KR.dflt).cols) ∧ w.cell? ⟨b, off + i * 5 + 2, none⟩ = some (.float .f64 (xs.getD i KR.dflt).x) ∧
   w.cell? ⟨b, off + i * 5 + 3, none⟩ = some (.float .f64 (xs.getD i KR.dflt).p) ∧ w.cell? ⟨b, off + i * 5 + 4, none⟩ = some (.float .f64 (xs.getD i KR.dflt).r) := by
 obtain ⟨b, off, e, hb, hc, hcell⟩ := h.elem h0
 refine ⟨b, off, e, hb, hc, fun i hi => ?_⟩
 have q := fun j u hu => hcell i hi j u hu
 have hn : KR.n = 5 := rfl
 simp only [hn, ← Nat.add_assoc] at q
 exact ⟨q 0 _ rfl, q 1 _ rfl, q 2 _ rfl, q 3 _ rfl, q 4 _ rfl⟩
theorem q4_cells {K : Lk Tryz.prog Q4} (hK : K.n = 4) (hC : K.cells = q4Cells) (hD : K.dflt = ⟨0, 0, 0, 0⟩) {w : World} {B : Nat} {A : Option Addr} {n c : Nat} {xs : List Q4} (h : K.IsL w B (.slice A n c) xs) (h0 : 0 < xs.length) : ∃ b off, A = some ⟨b, off, none⟩ ∧ b < B ∧ xs.length ≤ c ∧
  ∀ i, i < xs.length → w.cell? ⟨b, off + i * 4, none⟩ = some (.int .i64 (xs.getD i ⟨0, 0, 0, 0⟩).a) ∧ w.cell? ⟨b, off + i * 4 + 1, none⟩ = some (.int .i64 (xs.getD i ⟨0, 0, 0, 0⟩).b) ∧
   w.cell? ⟨b, off + i * 4 + 2, none⟩ = some (.int .i64 (xs.getD i ⟨0, 0, 0, 0⟩).c) ∧ w.cell? ⟨b, off + i * 4 + 3, none⟩ = some (.int .i64 (xs.getD i ⟨0, 0, 0, 0⟩).d) := by
 obtain ⟨b, off, e, hb, hc, hcell⟩ := h.elem h0
 refine ⟨b, off, e, hb, hc, fun i hi => ?_⟩
 have q := fun j u hu => hcell i hi j u hu
 rw [hK, hC, hD] at q
 simp only [← Nat.add_assoc] at q
 exact ⟨q 0 _ rfl, q 1 _ rfl, q 2 _ rfl, q 3 _ rfl⟩
/-- How many places there are. -/
def wellsV (l : List Pl) : Int := (l.map fun q => q.rows * q.cols).sum
def tipsV (l : List Rk) : Int := (l.map fun q => q.rows * q.cols).sum
theorem wells_snoc (l : List Pl) (k : Nat) (h : k < l.length) : wellsV (l.take (k + 1)) = wellsV (l.take k) + (l.getD k KP.dflt).rows * (l.getD k KP.dflt).cols := by
 rw [take_snoc l k KP.dflt h]
 unfold wellsV
 rw [List.map_append, List.sum_append]
 simp
theorem tips_snoc (l : List Rk) (k : Nat) (h : k < l.length) : tipsV (l.take (k + 1)) = tipsV (l.take k) + (l.getD k KR.dflt).rows * (l.getD k KR.dflt).cols := by
 rw [take_snoc l k KR.dflt h]
 unfold tipsV
 rw [List.map_append, List.sum_append]
 simp
theorem wells_bd (l : List Pl) (h : ∀ i, i < l.length → sizeB (l.getD i KP.dflt).rows (l.getD i KP.dflt).cols = true) : ∀ k, k ≤ l.length → (k : Int) ≤ wellsV (l.take k) ∧ wellsV (l.take k) ≤ 1536 * k := by
 intro k
 induction k with
 | zero => intro _; simp [wellsV]
 | succ k ih =>
  intro hk
  obtain ⟨i1, i2⟩ := ih (by omega)
  rw [wells_snoc l k (by omega)]
  obtain ⟨m1, m2⟩ := size_mul (h k (by omega))
  omega
theorem tips_bd (l : List Rk) (h : ∀ i, i < l.length → sizeB (l.getD i KR.dflt).rows (l.getD i KR.dflt).cols = true) : ∀ k, k ≤ l.length → (k : Int) ≤ tipsV (l.take k) ∧ tipsV (l.take k) ≤ 1536 * k := by
 intro k
 induction k with
 | zero => intro _; simp [tipsV]
 | succ k ih =>
  intro hk
  obtain ⟨i1, i2⟩ := ih (by omega)
  rw [tips_snoc l k (by omega)]
  obtain ⟨m1, m2⟩ := size_mul (h k (by omega))
  omega
theorem alloc_cell (w : World) (c : Array Value) (t : TypeId) (i : Nat) (v : Value) (h : c[i]? = some v) : (w.alloc (.cells c t)).cell? ⟨w.heap.size, i, none⟩ = some v := by rw [World.cell?_alloc_at (hn := rfl), h]
theorem run_store_float {P : Program} {w : World} {a : Addr} {m : Mode} (k : FloatKind) (b : Nat) : (store a (.float k b) m).run P w = stored P w a (.float k b) m := run_store P w a _ m rfl
set_option maxRecDepth 100000 in
set_option maxHeartbeats 4000000 in
theorem places_any (d : Dk) (w : World) (hd : d.In w w.heap.size) (hp : d.pl.length ≤ 4) (hr : d.rl.length ≤ 4) (h1 : ∀ i, i < d.pl.length → sizeB (d.pl.getD i KP.dflt).rows (d.pl.getD i KP.dflt).cols = true)
  (h2 : ∀ i, i < d.rl.length → sizeB (d.rl.getD i KR.dflt).rows (d.rl.getD i KR.dflt).cols = true) :
  Calls Tryz.prog 157 #[d.v] w fun e w' => e = .returned (.tuple #[.int .i64 (wellsV d.pl), .int .i64 (tipsV d.rl)]) ∧ Below w.heap.size w w' := by
 have HW := Lib.hid (wells_bd d.pl h1)
 have HT := Lib.hid (tips_bd d.rl h2)
 have H1 := Lib.hid h1
 have H2 := Lib.hid h2
 have HD := Lib.hid hd
 have HSW := Lib.hid (wells_snoc d.pl)
 have HST := Lib.hid (tips_snoc d.rl)
 have e1 := hd.p.len
 have e2 := hd.r.len
 obtain ⟨bA, bn, bc, bl, pA, pn, pc, pl, rA, rn, rc, rl, arms⟩ := d
 dsimp only at *
 subst e1 e2
 clear h1 h2 hd
 have hsf := fun (w : World) (a : Addr) (m : Mode) (b : Nat) => run_store_float (P := Tryz.prog) (w := w) (a := a) (m := m) .f64 b
 go_enter Tryz.func157, Tryz.ntmps157
 go_wp2
 obtain ⟨w0, hw0⟩ : ∃ w0, w0 = w.alloc (.cells #[.slice bA bn bc, .slice pA pl.length pc, .slice rA rl.length rc, .int .i64 arms] 26) := ⟨_, rfl⟩
 rw [← hw0]
 have f2 : w0.cell? ⟨w.heap.size, 2, none⟩ = some (.slice rA rl.length rc) := by rw [hw0]; exact alloc_cell _ _ _ _ _ rfl
 have HB0 := Lib.hid (show Below w.heap.size w w0 by rw [hw0]; exact Below.al (Below.refl _ _) _)
 have HD0 := Lib.hid (HD.out.then HB0.out)
 have F2 := Lib.hid f2
 clear hw0 f2
 go_loopw [2, 11] (fun s i wr => ∃ k : Nat, k ≤ pl.length ∧ i = .int .i64 k ∧ s = .int .i64 (wellsV (pl.take k)) ∧ Below w0.heap.size w0 wr) (fun _ i _ => pl.length - (intOf i).toNat)
 case atStart => exact ⟨0, Nat.zero_le _, rfl, rfl, Below.refl _ _⟩
 case round =>
  obtain ⟨k, hk, rfl, rfl, hbl⟩ := hrel
  have HB := Lib.hid hbl
  clear hbl
  obtain ⟨b1, b2⟩ := HW.out k hk
  by_cases hlt : k < pl.length
  ·obtain ⟨b, off, rfl, hb, hc, hcell⟩ := plate_cells (HD0.out.p.below HB.out) (by dsimp only; omega)
   obtain ⟨c0, c1, c2, c3, c4, c5, c6⟩ := hcell k hlt
   have HS := Lib.hid (HSW.out k hlt)
   obtain ⟨m1, m2⟩ := size_mul (H1.out k hlt)
   clear hcell
   dsimp only at *
   generalize pl.getD k KP.dflt = q at *
   generalize wellsV (pl.take k) = s at *
   go_wp2
   go_roundw
   case rel => exact ⟨k + 1, by omega, num_i (by omega), num_i (by rw [HS.out]), Below.al HB.out _⟩
   case measure => simp [intOf]; omega
  ·obtain rfl : k = pl.length := by omega
   rw [List.take_length]
   rw [List.take_length] at b1 b2
   have g2 := keep_cell HB.out F2.out
   generalize hs : wellsV pl = s at *
   have HSS := Lib.hid hs
   clear hs
   go_wp2
   obtain ⟨w1, hw1⟩ : ∃ w1, w1 = wr := ⟨_, rfl⟩
   subst hw1
   have HD1 := Lib.hid (HD0.out.then HB.out)
   clear g2
   go_loopw [3, 26] (fun s i wr => ∃ k : Nat, k ≤ rl.length ∧ i = .int .i64 k ∧ s = .int .i64 (tipsV (rl.take k)) ∧ Below w1.heap.size w1 wr) (fun _ i _ => rl.length - (intOf i).toNat)
   case atStart => exact ⟨0, Nat.zero_le _, rfl, rfl, Below.refl _ _⟩
   case round =>
    obtain ⟨k, hk, rfl, rfl, hbl⟩ := hrel
    have HB2 := Lib.hid hbl
    clear hbl
    obtain ⟨t1, t2⟩ := HT.out k hk
    by_cases hlt : k < rl.length
    ·obtain ⟨b, off, rfl, hb, hc, hcell⟩ := rack_cells (HD1.out.r.below HB2.out) (by dsimp only; omega)
     obtain ⟨c0, c1, c2, c3, c4⟩ := hcell k hlt
     have HS := Lib.hid (HST.out k hlt)
     obtain ⟨m1, m2⟩ := size_mul (H2.out k hlt)
     clear hcell
     dsimp only at *
     generalize rl.getD k KR.dflt = q at *
     generalize tipsV (rl.take k) = t at *
     go_wp2
     go_roundw
     case rel => exact ⟨k + 1, by omega, num_i (by omega), num_i (by rw [HS.out]), Below.al HB2.out _⟩
     case measure => simp [intOf]; omega
    ·obtain rfl : k = rl.length := by omega
     rw [List.take_length]
     generalize hs : tipsV rl = t at *
     have HTT := Lib.hid hs
     clear hs
     go_wp2
     go_ret2
     exact ⟨by rw [HSS.out, HTT.out]; rfl, Below.call HB0.out (Below.call HB.out HB2.out)⟩
end Go.Proofs.YtmecohdedghiaaaGreatDoor
namespace Go.Proofs.YtmecohdedghiaaaGreatDoor
open Go.RowKit
def rackB (q : Rk) : Bool := sizeB q.rows q.cols
/-- What is wrong with a deck. -/
def dchk (d : Dk) : Int :=
 if chkE d.bl ≠ 0 then chkE d.bl
 else if ¬ (1 ≤ d.arms ∧ d.arms ≤ 8) then 80
 else if 4 < d.pl.length ∨ 4 < d.rl.length then 2
 else if d.pl.all plateB = false then 81
 else if d.rl.all rackB = false then 82
 else if 384 < wellsV d.pl ∨ 384 < tipsV d.rl then 2 else 0
theorem all_no' {α : Type} (l : List α) (z : α) (f : α → Bool) (k : Nat) (h : k < l.length) (hf : f (l.getD k z) = false) : l.all f = false := by
 rw [← Bool.not_eq_true, List.all_eq_true]
 intro hh
 have := hh _ (getD_mem' l k z h)
 rw [hf] at this
 cases this
theorem all_yes' {α : Type} (l : List α) (z : α) (f : α → Bool) (h : ∀ i, i < l.length → f (l.getD i z) = true) : l.all f = true := by
 rw [List.all_eq_true]
 intro x hx
 obtain ⟨i, hi, rfl⟩ := List.mem_iff_getElem.1 hx
 have := h i hi
 rw [List.getD_eq_getElem?_getD, List.getElem?_eq_getElem hi] at this
 exact this
theorem plate_size {q : Pl} (h : plateB q = true) : sizeB q.rows q.cols = true := by
 cases hs : sizeB q.rows q.cols
 ·rw [plate_no1 q hs] at h; cases h
 ·rfl
theorem dchk_b (d : Dk) (h : chkE d.bl ≠ 0) : dchk d = chkE d.bl := by unfold dchk; rw [if_pos h]
theorem dchk_a (d : Dk) (h : chkE d.bl = 0) (h1 : ¬ (1 ≤ d.arms ∧ d.arms ≤ 8)) : dchk d = 80 := by unfold dchk; rw [if_neg (by simp [h]), if_pos h1]
theorem dchk_l (d : Dk) (h : chkE d.bl = 0) (h1 : 1 ≤ d.arms ∧ d.arms ≤ 8) (h2 : 4 < d.pl.length ∨ 4 < d.rl.length) : dchk d = 2 := by unfold dchk; rw [if_neg (by simp [h]), if_neg (by simp [h1]), if_pos h2]
theorem dchk_p (d : Dk) (h : chkE d.bl = 0) (h1 : 1 ≤ d.arms ∧ d.arms ≤ 8) (h2 : ¬ (4 < d.pl.length ∨ 4 < d.rl.length)) (h3 : d.pl.all plateB = false) : dchk d = 81 := by unfold dchk; rw [if_neg (by simp [h]), if_neg (by simp [h1]), if_neg h2, if_pos h3]
theorem dchk_r (d : Dk) (h : chkE d.bl = 0) (h1 : 1 ≤ d.arms ∧ d.arms ≤ 8) (h2 : ¬ (4 < d.pl.length ∨ 4 < d.rl.length)) (h3 : d.pl.all plateB = true) (h4 : d.rl.all rackB = false) : dchk d = 82 := by unfold dchk; rw [if_neg (by simp [h]), if_neg (by simp [h1]), if_neg h2, if_neg (by simp [h3]), if_pos h4]
theorem dchk_n (d : Dk) (h : chkE d.bl = 0) (h1 : 1 ≤ d.arms ∧ d.arms ≤ 8) (h2 : ¬ (4 < d.pl.length ∨ 4 < d.rl.length)) (h3 : d.pl.all plateB = true) (h4 : d.rl.all rackB = true) : dchk d = if 384 < wellsV d.pl ∨ 384 < tipsV d.rl then 2 else 0 := by unfold dchk; rw [if_neg (by simp [h]), if_neg (by simp [h1]), if_neg h2, if_neg (by simp [h3]), if_neg (by simp [h4])]
set_option maxRecDepth 100000 in
set_option maxHeartbeats 4000000 in
theorem dcheck_any (d : Dk) (w : World) (hd : d.In w w.heap.size) : Calls Tryz.prog 154 #[d.v] w fun e w' => e = .returned (.int .i64 (dchk d)) ∧ Below w.heap.size w w' := by
 have HD := Lib.hid hd
 have B1 := Lib.hid (dchk_b d)
 have B2 := Lib.hid (dchk_a d)
 have B3 := Lib.hid (dchk_l d)
 have B4 := Lib.hid (dchk_p d)
 have B5 := Lib.hid (dchk_r d)
 have B6 := Lib.hid (dchk_n d)
 have HPN := Lib.hid (all_no' d.pl KP.dflt plateB)
 have HPY := Lib.hid (all_yes' d.pl KP.dflt plateB)
 have HRN := Lib.hid (all_no' d.rl KR.dflt rackB)
 have HRY := Lib.hid (all_yes' d.rl KR.dflt rackB)
 have e0 := hd.b.len
 have e1 := hd.p.len
 have e2 := hd.r.len
 have ha := hd.a
 have HPL := Lib.hid (fun w h => places_any d w h)
 obtain ⟨C, hC⟩ : ∃ C, C = dchk d := ⟨_, rfl⟩
 rw [← hC] at B1 B2 B3 B4 B5 B6 ⊢
 clear hC
 obtain ⟨bA, bn, bc, bl, pA, pn, pc, pl, rA, rn, rc, rl, arms⟩ := d
 dsimp only at *
 subst e0 e1 e2
 unfold fits at ha
 clear hd
 have hsf := fun (w : World) (a : Addr) (m : Mode) (b : Nat) => run_store_float (P := Tryz.prog) (w := w) (a := a) (m := m) .f64 b
 obtain ⟨w0, hw0⟩ : ∃ w0, w0 = w.alloc (.cells #[.slice bA bl.length bc, .slice pA pl.length pc, .slice rA rl.length rc, .int .i64 arms] 26) := ⟨_, rfl⟩
 have f0 : w0.cell? ⟨w.heap.size, 0, none⟩ = some (.slice bA bl.length bc) := by rw [hw0]; exact alloc_cell _ _ _ _ _ rfl
 have f1 : w0.cell? ⟨w.heap.size, 1, none⟩ = some (.slice pA pl.length pc) := by rw [hw0]; exact alloc_cell _ _ _ _ _ rfl
 have f2 : w0.cell? ⟨w.heap.size, 2, none⟩ = some (.slice rA rl.length rc) := by rw [hw0]; exact alloc_cell _ _ _ _ _ rfl
 have f3 : w0.cell? ⟨w.heap.size, 3, none⟩ = some (.int .i64 arms) := by rw [hw0]; exact alloc_cell _ _ _ _ _ rfl
 have HB0 := Lib.hid (show Below w.heap.size w w0 by rw [hw0]; exact Below.al (Below.refl _ _) _)
 have HD0 := Lib.hid (HD.out.then HB0.out)
 have HK := Lib.hid (check_any _ bl w0 HD0.out.b)
 by_cases hz : chkE bl = 0
 ·rw [hz] at HK
  by_cases h1 : 1 ≤ arms ∧ arms ≤ 8
  ·obtain ⟨a1, a2⟩ := h1
   by_cases h2 : 4 < pl.length ∨ 4 < rl.length
   ·obtain rfl := B3.out hz ⟨a1, a2⟩ h2
    clear B1 B2 B3 B4 B5 B6 hz
    by_cases p4 : 4 < pl.length
    ·clear h2
     go_enter Tryz.func154, Tryz.ntmps154
     go_wp2_with fail
     rw [← hw0]
     clear hw0
     refine HK.out.mono ?_
     rintro e w' ⟨rfl, rfl⟩
     go_wp2
     go_ret
     exact ⟨rfl, HB0.out⟩
    ·have r4 : 4 < rl.length := by omega
     clear h2
     go_enter Tryz.func154, Tryz.ntmps154
     go_wp2_with fail
     rw [← hw0]
     clear hw0
     refine HK.out.mono ?_
     rintro e w' ⟨rfl, rfl⟩
     go_wp2
     go_ret
     exact ⟨rfl, HB0.out⟩
   ·have p4 : pl.length ≤ 4 := by omega
    have r4 : rl.length ≤ 4 := by omega
    have C4 := Lib.hid (B4.out hz ⟨a1, a2⟩ h2)
    have C5 := Lib.hid (B5.out hz ⟨a1, a2⟩ h2)
    have C6 := Lib.hid (B6.out hz ⟨a1, a2⟩ h2)
    clear B1 B2 B3 B4 B5 B6 h2 hz
    go_enter Tryz.func154, Tryz.ntmps154
    go_wp2_with fail
    rw [← hw0]
    clear hw0
    refine HK.out.mono ?_
    rintro e w' ⟨rfl, rfl⟩
    have g0 := Lib.hid f0
    have g1 := Lib.hid f1
    have g3 := Lib.hid f3
    go_wp2
    clear f0 f1 f3
    have F2 := Lib.hid f2
    have F0 := Lib.hid (show ∀ w1, Below w0.heap.size w0 w1 → w1.cell? ⟨w.heap.size, 0, none⟩ = some (.slice bA bl.length bc) ∧ w1.cell? ⟨w.heap.size, 1, none⟩ = some (.slice pA pl.length pc) ∧ w1.cell? ⟨w.heap.size, 2, none⟩ = some (.slice rA rl.length rc) ∧ w1.cell? ⟨w.heap.size, 3, none⟩ = some (.int .i64 arms) from
     fun w1 hb => ⟨keep_cell hb g0.out, keep_cell hb g1.out, keep_cell hb f2, keep_cell hb g3.out⟩)
    clear f2
    go_loopw [39] (fun i wr => ∃ k : Nat, k ≤ pl.length ∧ i = .int .i64 k ∧ (∀ i, i < k → plateB (pl.getD i KP.dflt) = true) ∧ Below w0.heap.size w0 wr) (fun i _ => pl.length - (intOf i).toNat)
    case atStart => exact ⟨0, Nat.zero_le _, rfl, fun i hi => by omega, Below.refl _ _⟩
    case round =>
     obtain ⟨k, hk, rfl, hall, hbl⟩ := hrel
     have HB := Lib.hid hbl
     have HL := Lib.hid hall
     clear hbl hall
     by_cases hlt : k < pl.length
     ·obtain ⟨b, off, rfl, hb, hc, hcell⟩ := plate_cells (HD0.out.p.below HB.out) (by dsimp only; omega)
      obtain ⟨c0, c1, c2, c3, c4, c5, c6⟩ := hcell k hlt
      have HRP := Lib.hid (fun w1 (hb1 : Below w0.heap.size w0 w1) => rightPlate_any (pl.getD k KP.dflt) w1 (((HD0.out.s _ (getD_mem' pl k KP.dflt hlt)).below hb1).more hb1.size) (HD0.out.p.okAt k hlt))
      have HPN' := Lib.hid (HPN.out k hlt)
      have HLS := Lib.hid (show ∀ (h : plateB (pl.getD k KP.dflt) = true) (i : Nat), i < k + 1 → plateB (pl.getD i KP.dflt) = true from fun h i hi => by
       by_cases e : i = k
       ·rw [e]; exact h
       ·exact HL.out i (by omega))
      clear hcell
      dsimp only at *
      generalize pl.getD k KP.dflt = q at *
      rcases Bool.eq_false_or_eq_true (plateB q) with g | g
      ·have HR := Lib.hid (HLS.out g)
       rw [g] at HRP
       go_wp2_with fail
       refine (HRP.out _ (Below.al HB.out _)).mono ?_
       rintro e w2 ⟨rfl, hb2⟩
       have HB2 := Lib.hid (Below.call (Below.al HB.out _) hb2)
       clear hb2
       go_wp2
       go_roundw
       case rel => exact ⟨k + 1, by omega, num_i (by omega), HR.out, HB2.out⟩
       case measure => simp [intOf]; omega
      ·have HR := Lib.hid (C4.out (HPN'.out g))
       rw [g] at HRP
       go_wp2_with fail
       refine (HRP.out _ (Below.al HB.out _)).mono ?_
       rintro e w2 ⟨rfl, hb2⟩
       have HB2 := Lib.hid (Below.call (Below.al HB.out _) hb2)
       clear hb2
       go_wp2
       go_ret
       exact ⟨ret_i HR.out.symm, Below.call HB0.out HB2.out⟩
     ·obtain rfl : k = pl.length := by omega
      have HPA := Lib.hid (HPY.out HL.out)
      obtain ⟨g0', g1', g2', g3'⟩ := F0.out wr HB.out
      clear HPY HPN HL C4
      go_wp2
      obtain ⟨w1, hw1⟩ : ∃ w1, w1 = wr := ⟨_, rfl⟩
      subst hw1
      have HD1 := Lib.hid (HD0.out.then HB.out)
      clear g0' g1' g2' g3'
      go_loopw [50] (fun i wr => ∃ k : Nat, k ≤ rl.length ∧ i = .int .i64 k ∧ (∀ i, i < k → rackB (rl.getD i KR.dflt) = true) ∧ Below w1.heap.size w1 wr) (fun i _ => rl.length - (intOf i).toNat)
      case atStart => exact ⟨0, Nat.zero_le _, rfl, fun i hi => by omega, Below.refl _ _⟩
      case round =>
       obtain ⟨k, hk, rfl, hall, hbl⟩ := hrel
       have HB2 := Lib.hid hbl
       have HL := Lib.hid hall
       clear hbl hall
       by_cases hlt : k < rl.length
       ·obtain ⟨b, off, rfl, hb, hc, hcell⟩ := rack_cells (HD1.out.r.below HB2.out) (by dsimp only; omega)
        obtain ⟨c0, c1, c2, c3, c4⟩ := hcell k hlt
        have HRN' := Lib.hid (HRN.out k hlt)
        have HLS := Lib.hid (show ∀ (h : rackB (rl.getD k KR.dflt) = true) (i : Nat), i < k + 1 → rackB (rl.getD i KR.dflt) = true from fun h i hi => by
         by_cases e : i = k
         ·rw [e]; exact h
         ·exact HL.out i (by omega))
        clear hcell
        dsimp only at *
        generalize rl.getD k KR.dflt = q at *
        rcases Bool.eq_false_or_eq_true (sizeB q.rows q.cols) with g | g
        ·have HR := Lib.hid (HLS.out g)
         go_wp2_with fail
         refine (rightSize_any _ _ _).mono ?_
         rintro e w' ⟨rfl, rfl⟩
         go_wp2
         go_roundw
         case rel => exact ⟨k + 1, by omega, num_i (by omega), HR.out, Below.al HB2.out _⟩
         case measure => simp [intOf]; omega
        ·have HR := Lib.hid (C5.out HPA.out (HRN'.out g))
         go_wp2_with fail
         refine (rightSize_any _ _ _).mono ?_
         rintro e w' ⟨rfl, rfl⟩
         go_wp2
         go_ret
         exact ⟨ret_i HR.out.symm, Below.call HB0.out (Below.call HB.out (Below.al HB2.out _))⟩
       ·obtain rfl : k = rl.length := by omega
        have HRA := Lib.hid (HRY.out HL.out)
        have HCC := Lib.hid (C6.out HPA.out HRA.out)
        have HB3 := Lib.hid (HB.out.trans (HB2.out.mono HB.out.size))
        obtain ⟨g0', g1', g2', g3'⟩ := F0.out wr HB3.out
        have HPP := Lib.hid (HPL.out wr (HD0.out.then HB3.out) p4 r4 (fun i hi => plate_size (List.all_eq_true.1 HPA.out _ (getD_mem' pl i _ hi))) (fun i hi => List.all_eq_true.1 HRA.out _ (getD_mem' rl i _ hi)))
        clear HRY HRN HL C5 C6 HPL
        generalize wellsV pl = s at *
        generalize tipsV rl = t at *
        by_cases hs : 384 < s
        ·have HF := Lib.hid (HCC.out.trans (if_pos (.inl hs)))
         clear HCC
         go_wp2_with fail
         refine HPP.out.mono ?_
         rintro e w4 ⟨rfl, hb4⟩
         have HB4 := Lib.hid hb4
         clear hb4
         go_wp2
         go_ret
         exact ⟨ret_i HF.out.symm, Below.call HB0.out (Below.call HB3.out HB4.out)⟩
        ·by_cases ht : 384 < t
         ·have HF := Lib.hid (HCC.out.trans (if_pos (.inr ht)))
          clear HCC
          go_wp2_with fail
          refine HPP.out.mono ?_
          rintro e w4 ⟨rfl, hb4⟩
          have HB4 := Lib.hid hb4
          clear hb4
          go_wp2
          go_ret
          exact ⟨ret_i HF.out.symm, Below.call HB0.out (Below.call HB3.out HB4.out)⟩
         ·have HF := Lib.hid (HCC.out.trans (if_neg (by omega)))
          clear HCC
          go_wp2_with fail
          refine HPP.out.mono ?_
          rintro e w4 ⟨rfl, hb4⟩
          have HB4 := Lib.hid hb4
          clear hb4
          go_wp2
          go_ret
          exact ⟨ret_i HF.out.symm, Below.call HB0.out (Below.call HB3.out HB4.out)⟩
  ·obtain rfl := B2.out hz h1
   clear B1 B2 B3 B4 B5 B6 hz
   by_cases a1 : arms < 1
   ·clear h1
    go_enter Tryz.func154, Tryz.ntmps154
    go_wp2_with fail
    rw [← hw0]
    clear hw0
    refine HK.out.mono ?_
    rintro e w' ⟨rfl, rfl⟩
    go_wp2
    go_ret
    exact ⟨rfl, HB0.out⟩
   ·have a2 : 8 < arms := by omega
    clear h1
    go_enter Tryz.func154, Tryz.ntmps154
    go_wp2_with fail
    rw [← hw0]
    clear hw0
    refine HK.out.mono ?_
    rintro e w' ⟨rfl, rfl⟩
    go_wp2
    go_ret
    exact ⟨rfl, HB0.out⟩
 ·obtain rfl := B1.out hz
  have hz' : (chkE bl != 0) = true := by rw [bne_iff_ne]; exact hz
  clear B1 B2 B3 B4 B5 B6 hz
  generalize chkE bl = c at *
  go_enter Tryz.func154, Tryz.ntmps154
  go_wp2_with fail
  rw [← hw0]
  clear hw0
  refine HK.out.mono ?_
  rintro e w' ⟨rfl, rfl⟩
  go_wp2
  go_ret
  exact ⟨rfl, HB0.out⟩
end Go.Proofs.YtmecohdedghiaaaGreatDoor
namespace Go.Proofs.YtmecohdedghiaaaGreatDoor
open Go.RowKit
set_option maxRecDepth 100000 in
set_option maxHeartbeats 4000000 in
theorem rdcheck_any (d : Dk) (w : World) (hd : d.In w w.heap.size) : Calls Tryz.prog 103 #[d.v] w fun e w' => e = .returned (.int .i64 (dchk d)) ∧ Below w.heap.size w w' := by
 have HD := Lib.hid hd
 have B1 := Lib.hid (dchk_b d)
 have B2 := Lib.hid (dchk_a d)
 have B3 := Lib.hid (dchk_l d)
 have B4 := Lib.hid (dchk_p d)
 have B5 := Lib.hid (dchk_r d)
 have B6 := Lib.hid (dchk_n d)
 have HPN := Lib.hid (all_no' d.pl KP.dflt plateB)
 have HPY := Lib.hid (all_yes' d.pl KP.dflt plateB)
 have HRN := Lib.hid (all_no' d.rl KR.dflt rackB)
 have HRY := Lib.hid (all_yes' d.rl KR.dflt rackB)
 have HSW := Lib.hid (wells_snoc d.pl)
 have HST := Lib.hid (tips_snoc d.rl)
 have e0 := hd.b.len
 have e1 := hd.p.len
 have e2 := hd.r.len
 have ha := hd.a
 obtain ⟨C, hC⟩ : ∃ C, C = dchk d := ⟨_, rfl⟩
 rw [← hC] at B1 B2 B3 B4 B5 B6 ⊢
 clear hC
 obtain ⟨bA, bn, bc, bl, pA, pn, pc, pl, rA, rn, rc, rl, arms⟩ := d
 dsimp only at *
 subst e0 e1 e2
 unfold fits at ha
 clear hd
 obtain ⟨w0, hw0⟩ : ∃ w0, w0 = w.alloc (.cells #[.slice bA bl.length bc, .slice pA pl.length pc, .slice rA rl.length rc, .int .i64 arms] 26) := ⟨_, rfl⟩
 have f0 : w0.cell? ⟨w.heap.size, 0, none⟩ = some (.slice bA bl.length bc) := by rw [hw0]; exact alloc_cell _ _ _ _ _ rfl
 have f1 : w0.cell? ⟨w.heap.size, 1, none⟩ = some (.slice pA pl.length pc) := by rw [hw0]; exact alloc_cell _ _ _ _ _ rfl
 have f2 : w0.cell? ⟨w.heap.size, 2, none⟩ = some (.slice rA rl.length rc) := by rw [hw0]; exact alloc_cell _ _ _ _ _ rfl
 have f3 : w0.cell? ⟨w.heap.size, 3, none⟩ = some (.int .i64 arms) := by rw [hw0]; exact alloc_cell _ _ _ _ _ rfl
 have HB0 := Lib.hid (show Below w.heap.size w w0 by rw [hw0]; exact Below.al (Below.refl _ _) _)
 have HD0 := Lib.hid (HD.out.then HB0.out)
 have HK := Lib.hid (rcheck_any _ bl w0 HD0.out.b)
 by_cases hz : chkE bl = 0
 ·rw [hz] at HK
  by_cases h1 : 1 ≤ arms ∧ arms ≤ 8
  ·obtain ⟨a1, a2⟩ := h1
   by_cases h2 : 4 < pl.length ∨ 4 < rl.length
   ·obtain rfl := B3.out hz ⟨a1, a2⟩ h2
    clear B1 B2 B3 B4 B5 B6 hz
    by_cases p4 : 4 < pl.length
    ·clear h2
     go_enter Tryz.func103, Tryz.ntmps103
     go_wp2_with fail
     rw [← hw0]
     clear hw0
     refine HK.out.mono ?_
     rintro e w' ⟨rfl, d, rfl⟩
     go_wp2
     go_ret
     exact ⟨rfl, below_drewN HB0.out _⟩
    ·have r4 : 4 < rl.length := by omega
     clear h2
     go_enter Tryz.func103, Tryz.ntmps103
     go_wp2_with fail
     rw [← hw0]
     clear hw0
     refine HK.out.mono ?_
     rintro e w' ⟨rfl, d, rfl⟩
     go_wp2
     go_ret
     exact ⟨rfl, below_drewN HB0.out _⟩
   ·have p4 : pl.length ≤ 4 := by omega
    have r4 : rl.length ≤ 4 := by omega
    have C4 := Lib.hid (B4.out hz ⟨a1, a2⟩ h2)
    have C5 := Lib.hid (B5.out hz ⟨a1, a2⟩ h2)
    have C6 := Lib.hid (B6.out hz ⟨a1, a2⟩ h2)
    clear B1 B2 B3 B4 B5 B6 h2 hz
    have F0 := Lib.hid (show ∀ w1, Below w0.heap.size w0 w1 → w1.cell? ⟨w.heap.size, 1, none⟩ = some (.slice pA pl.length pc) ∧ w1.cell? ⟨w.heap.size, 2, none⟩ = some (.slice rA rl.length rc) from
     fun w1 hb => ⟨keep_cell hb f1, keep_cell hb f2⟩)
    go_enter Tryz.func103, Tryz.ntmps103
    go_wp2_with fail
    rw [← hw0]
    clear hw0
    refine HK.out.mono ?_
    rintro e wd ⟨rfl, dd, hwd⟩
    have HBD := Lib.hid (show Below w0.heap.size w0 wd by rw [hwd]; exact below_drewN (Below.refl _ _) _)
    have k0 := keep_cell HBD.out f0
    have k1 := keep_cell HBD.out f1
    have k2 := keep_cell HBD.out f2
    have k3 := keep_cell HBD.out f3
    clear hwd f0 f1 f2 f3
    go_wp2
    clear k0 k1 k2 k3
    go_loopw [4, 6] (fun s i wr => ∃ k : Nat, k ≤ pl.length ∧ i = .int .i64 k ∧ s = .int .i64 (wellsV (pl.take k)) ∧ (k : Int) ≤ wellsV (pl.take k) ∧ wellsV (pl.take k) ≤ 1536 * k ∧ (∀ i, i < k → plateB (pl.getD i KP.dflt) = true) ∧ Below w0.heap.size w0 wr) (fun _ i _ => pl.length - (intOf i).toNat)
    case atStart => exact ⟨0, Nat.zero_le _, rfl, rfl, by simp [wellsV], by simp [wellsV], fun i hi => by omega, HBD.out⟩
    case round =>
     obtain ⟨k, hk, rfl, rfl, b1, b2, hall, hbl⟩ := hrel
     have HB := Lib.hid hbl
     have HL := Lib.hid hall
     clear hbl hall
     obtain ⟨q1, q2⟩ := F0.out wr HB.out
     by_cases hlt : k < pl.length
     ·obtain ⟨b, off, rfl, hb, hc, hcell⟩ := plate_cells (HD0.out.p.below HB.out) (by dsimp only; omega)
      obtain ⟨c0, c1, c2, c3, c4, c5, c6⟩ := hcell k hlt
      have HRP := Lib.hid (rplate_any (pl.getD k KP.dflt) wr (((HD0.out.s _ (getD_mem' pl k KP.dflt hlt)).below HB.out).more HB.out.size) (HD0.out.p.okAt k hlt))
      have HPN' := Lib.hid (HPN.out k hlt)
      have HS := Lib.hid (HSW.out k hlt)
      have HLS := Lib.hid (show ∀ (h : plateB (pl.getD k KP.dflt) = true) (i : Nat), i < k + 1 → plateB (pl.getD i KP.dflt) = true from fun h i hi => by
       by_cases e : i = k
       ·rw [e]; exact h
       ·exact HL.out i (by omega))
      have HPS := Lib.hid (fun h => plate_size (q := pl.getD k KP.dflt) h)
      clear hcell
      dsimp only at *
      generalize pl.getD k KP.dflt = q at *
      generalize wellsV (pl.take k) = s at *
      rcases Bool.eq_false_or_eq_true (plateB q) with g | g
      ·have HR := Lib.hid (HLS.out g)
       rw [g] at HRP
       obtain ⟨m1, m2⟩ := size_mul (HPS.out g)
       have hok := HD0.out
       go_wp2_with fail
       refine HRP.out.mono ?_
       rintro e w2 ⟨rfl, hb2⟩
       have y1 := keep_cell hb2 q1
       have y2 := keep_cell hb2 c0
       have y3 := keep_cell hb2 c1
       have HB2 := Lib.hid (Below.call HB.out hb2)
       clear hb2 q1 q2 c0 c1 c2 c3 c4 c5 c6 hok
       go_wp2_with fail
       go_quiet (fail)
       go_wp2
       go_roundw
       case rel => exact ⟨k + 1, by omega, num_i (by omega), num_i (by rw [HS.out]), by rw [HS.out]; omega, by rw [HS.out]; omega, HR.out, below_drewN HB2.out _⟩
       case measure => simp [intOf]; omega
      ·have HR := Lib.hid (C4.out (HPN'.out g))
       rw [g] at HRP
       go_wp2_with fail
       refine HRP.out.mono ?_
       rintro e w2 ⟨rfl, hb2⟩
       have HB2 := Lib.hid (Below.call HB.out hb2)
       clear hb2
       go_wp2
       go_ret
       exact ⟨ret_i HR.out.symm, Below.call HB0.out HB2.out⟩
     ·obtain rfl : k = pl.length := by omega
      have HPA := Lib.hid (HPY.out HL.out)
      rw [List.take_length] at b1 b2 ⊢
      generalize hs : wellsV pl = s at *
      clear hs
      clear HPY HPN HL C4 HSW
      go_wp2
      obtain ⟨w1, hw1⟩ : ∃ w1, w1 = wr := ⟨_, rfl⟩
      subst hw1
      clear q1 q2
      go_loopw [5, 7] (fun s i wr => ∃ k : Nat, k ≤ rl.length ∧ i = .int .i64 k ∧ s = .int .i64 (tipsV (rl.take k)) ∧ (k : Int) ≤ tipsV (rl.take k) ∧ tipsV (rl.take k) ≤ 1536 * k ∧ (∀ i, i < k → rackB (rl.getD i KR.dflt) = true) ∧ Below w0.heap.size w0 wr) (fun _ i _ => rl.length - (intOf i).toNat)
      case atStart => exact ⟨0, Nat.zero_le _, rfl, rfl, by simp [tipsV], by simp [tipsV], fun i hi => by omega, HB.out⟩
      case round =>
       obtain ⟨k, hk, rfl, rfl, t1, t2, hall, hbl⟩ := hrel
       have HB2 := Lib.hid hbl
       have HL := Lib.hid hall
       clear hbl hall
       obtain ⟨q1, q2⟩ := F0.out wr HB2.out
       by_cases hlt : k < rl.length
       ·obtain ⟨b, off, rfl, hb, hc, hcell⟩ := rack_cells (HD0.out.r.below HB2.out) (by dsimp only; omega)
        obtain ⟨c0, c1, c2, c3, c4⟩ := hcell k hlt
        have HRN' := Lib.hid (HRN.out k hlt)
        have HS := Lib.hid (HST.out k hlt)
        have HLS := Lib.hid (show ∀ (h : rackB (rl.getD k KR.dflt) = true) (i : Nat), i < k + 1 → rackB (rl.getD i KR.dflt) = true from fun h i hi => by
         by_cases e : i = k
         ·rw [e]; exact h
         ·exact HL.out i (by omega))
        clear hcell
        dsimp only at *
        generalize rl.getD k KR.dflt = q at *
        generalize tipsV (rl.take k) = t at *
        rcases Bool.eq_false_or_eq_true (sizeB q.rows q.cols) with g | g
        ·have HR := Lib.hid (HLS.out g)
         obtain ⟨m1, m2⟩ := size_mul g
         have HBX := Lib.hid (fun n => show Calls Tryz.prog 163 #[.int .i64 q.rows, .int .i64 q.cols] (wr.drewN n) fun e w' => e = .returned (.bool true) ∧ w' = wr.drewN n from (box_any q.rows q.cols (wr.drewN n)).mono fun _ _ x => ⟨by rw [x.1, g], x.2.symm⟩)
         go_wp2_with fail
         go_quiet ((go_at_call 163; exact Calls.quiet_of_same (HBX.out _)))
         have y2 : (wr.drewN nq).cell? ⟨w.heap.size, 2, none⟩ = some (.slice (some ⟨b, off, none⟩) rl.length rc) := q2
         have y0 : (wr.drewN nq).cell? ⟨b, off + k * 5, none⟩ = some (.int .i64 q.rows) := c0
         have y1 : (wr.drewN nq).cell? ⟨b, off + k * 5 + 1, none⟩ = some (.int .i64 q.cols) := c1
         have HB3 := Lib.hid (below_drewN HB2.out nq)
         clear q1 q2 c0 c1 c2 c3 c4 HBX HB2
         generalize wr.drewN nq = w3 at *
         go_wp2_with fail
         go_quiet (fail)
         go_wp2
         go_roundw
         case rel => exact ⟨k + 1, by omega, num_i (by omega), num_i (by rw [HS.out]), by rw [HS.out]; omega, by rw [HS.out]; omega, HR.out, below_drewN HB3.out _⟩
         case measure => simp [intOf]; omega
        ·have HR := Lib.hid (C5.out HPA.out (HRN'.out g))
         have HBX := Lib.hid (fun n => show Calls Tryz.prog 163 #[.int .i64 q.rows, .int .i64 q.cols] (wr.drewN n) fun e w' => e = .returned (.bool false) ∧ w' = wr.drewN n from (box_any q.rows q.cols (wr.drewN n)).mono fun _ _ x => ⟨by rw [x.1, g], x.2.symm⟩)
         go_wp2_with fail
         go_quiet ((go_at_call 163; exact Calls.quiet_of_same (HBX.out _)))
         go_wp2
         go_ret
         exact ⟨ret_i HR.out.symm, Below.call HB0.out (below_drewN HB2.out _)⟩
       ·obtain rfl : k = rl.length := by omega
        have HRA := Lib.hid (HRY.out HL.out)
        have HCC := Lib.hid (C6.out HPA.out HRA.out)
        rw [List.take_length] at t1 t2 ⊢
        clear HRY HRN HL C5 C6 HST
        generalize hs : tipsV rl = t at *
        clear hs
        by_cases hs : 384 < s
        ·have HF := Lib.hid (HCC.out.trans (if_pos (.inl hs)))
         clear HCC
         go_wp2
         go_ret
         exact ⟨ret_i HF.out.symm, Below.call HB0.out HB2.out⟩
        ·by_cases ht : 384 < t
         ·have HF := Lib.hid (HCC.out.trans (if_pos (.inr ht)))
          clear HCC
          go_wp2
          go_ret
          exact ⟨ret_i HF.out.symm, Below.call HB0.out HB2.out⟩
         ·have HF := Lib.hid (HCC.out.trans (if_neg (by omega)))
          clear HCC
          go_wp2
          go_ret
          exact ⟨ret_i HF.out.symm, Below.call HB0.out HB2.out⟩
  ·obtain rfl := B2.out hz h1
   clear B1 B2 B3 B4 B5 B6 hz
   by_cases a1 : arms < 1
   ·clear h1
    go_enter Tryz.func103, Tryz.ntmps103
    go_wp2_with fail
    rw [← hw0]
    clear hw0
    refine HK.out.mono ?_
    rintro e w' ⟨rfl, d, rfl⟩
    go_wp2
    go_ret
    exact ⟨rfl, below_drewN HB0.out _⟩
   ·have a2 : 8 < arms := by omega
    clear h1
    go_enter Tryz.func103, Tryz.ntmps103
    go_wp2_with fail
    rw [← hw0]
    clear hw0
    refine HK.out.mono ?_
    rintro e w' ⟨rfl, d, rfl⟩
    go_wp2
    go_ret
    exact ⟨rfl, below_drewN HB0.out _⟩
 ·obtain rfl := B1.out hz
  have hz' : (chkE bl != 0) = true := by rw [bne_iff_ne]; exact hz
  clear B1 B2 B3 B4 B5 B6 hz
  generalize chkE bl = c at *
  go_enter Tryz.func103, Tryz.ntmps103
  go_wp2_with fail
  rw [← hw0]
  clear hw0
  refine HK.out.mono ?_
  rintro e w' ⟨rfl, d, rfl⟩
  go_wp2
  go_ret
  exact ⟨rfl, below_drewN HB0.out _⟩
end Go.Proofs.YtmecohdedghiaaaGreatDoor
namespace Go.Proofs.YtmecohdedghiaaaGreatDoor
/-- The parts of a unit (its kind, its number, its rows, its columns). -/
def unitF (u : Q4) (i : Nat) : Q4 := ⟨u.a, u.b, ((i / u.d.toNat : Nat) : Int), ((i % u.d.toNat : Nat) : Int)⟩
def unitN (u : Q4) : Nat := u.c.toNat * u.d.toNat
def unitParts (u : Q4) : List Q4 := (List.range (unitN u)).map (unitF u)
noncomputable def plateU (l : List Pl) (i : Nat) : Q4 := ⟨1, i, (l.getD i KP.dflt).rows, (l.getD i KP.dflt).cols⟩
noncomputable def rackU (l : List Rk) (i : Nat) : Q4 := ⟨2, i, (l.getD i KR.dflt).rows, (l.getD i KR.dflt).cols⟩
def laneU (i : Nat) : Q4 := ⟨3, i, 1, 1⟩
noncomputable def unitsL (d : Dk) : List Q4 := (List.range d.pl.length).map (plateU d.pl) ++ (List.range d.rl.length).map (rackU d.rl) ++ (List.range (d.bl.length - 1)).map laneU
def partsU (us : List Q4) : List Q4 := us.flatMap unitParts
noncomputable def partsL (d : Dk) : List Q4 := partsU (unitsL d)
/-- A unit as it may be. -/
def okU (u : Q4) : Prop := (u.a = 1 ∨ u.a = 2 ∨ u.a = 3) ∧ 0 ≤ u.b ∧ u.b ≤ 23 ∧ sizeB u.c u.d = true
theorem okU_pos {u : Q4} (h : okU u) : 1 ≤ u.c.toNat ∧ 1 ≤ u.d.toNat ∧ u.c = (u.c.toNat : Int) ∧ u.d = (u.d.toNat : Int) ∧ u.c * u.d = (unitN u : Int) ∧ 1 ≤ unitN u ∧ unitN u ≤ 1536 := by
 obtain ⟨h1, h2, h3, h4⟩ := size_of h.2.2.2
 obtain ⟨m1, m2⟩ := size_mul h.2.2.2
 have e1 : u.c = (u.c.toNat : Int) := by omega
 have e2 : u.d = (u.d.toNat : Int) := by omega
 have e3 : u.c * u.d = (unitN u : Int) := by
  unfold unitN
  rw [Int.natCast_mul, ← e1, ← e2]
 refine ⟨by omega, by omega, e1, e2, e3, by omega, by omega⟩
theorem unitParts_len (u : Q4) : (unitParts u).length = unitN u := by unfold unitParts; simp
theorem partsU_cons (u : Q4) (us : List Q4) : partsU (u :: us) = unitParts u ++ partsU us := rfl
/-- The part of an id, unit by unit. -/
def partU : List Q4 → Int → Q4 × Int
 | [], _ => (⟨0, 0, 0, 0⟩, 3)
 | u :: us, left => if left < 0 then (⟨0, 0, 0, 0⟩, 3) else if left < u.c * u.d then (⟨u.a, u.b, left / u.d, left % u.d⟩, 0) else partU us (left - u.c * u.d)
/-- The part of an id, in the row of all. -/
def partR (l : List Q4) (id : Int) : Q4 × Int := if id < 0 ∨ (l.length : Int) ≤ id then (⟨0, 0, 0, 0⟩, 3) else (l.getD id.toNat ⟨0, 0, 0, 0⟩, 0)
theorem partU_R (us : List Q4) (h : ∀ u ∈ us, okU u) : ∀ id : Int, partU us id = partR (partsU us) id := by
 induction us with
 | nil =>
  intro id
  unfold partU partR partsU
  rw [if_pos (by simp; omega)]
 | cons u us ih =>
  intro id
  obtain ⟨p1, p2, p3, p4, p5, p6, p7⟩ := okU_pos (h u (by simp))
  rw [partU]
  by_cases h0 : id < 0
  ·rw [if_pos h0]
   unfold partR
   rw [if_pos (.inl h0)]
  rw [if_neg h0, p5, partsU_cons]
  have hl : (unitParts u ++ partsU us).length = unitN u + (partsU us).length := by rw [List.length_append, unitParts_len]
  by_cases h1 : id < (unitN u : Int)
  ·rw [if_pos h1]
   obtain ⟨i, rfl⟩ : ∃ i : Nat, id = (i : Int) := ⟨id.toNat, by omega⟩
   unfold partR
   rw [hl, if_neg (by omega), Int.toNat_natCast, List.getD_eq_getElem?_getD, List.getElem?_append_left (by rw [unitParts_len]; omega)]
   unfold unitParts
   rw [List.getElem?_map, List.getElem?_range (by omega)]
   simp only [Option.map_some, Option.getD_some]
   unfold unitF
   rw [Int.natCast_ediv, Int.natCast_emod, ← p4]
  ·rw [if_neg h1, ih (fun u hu => h u (by simp [hu]))]
   unfold partR
   rw [hl]
   by_cases h2 : ((partsU us).length : Int) ≤ id - unitN u
   ·rw [if_pos (.inr h2), if_pos (.inr (by omega))]
   ·rw [if_neg (by omega), if_neg (by omega)]
    congr 1
    rw [List.getD_eq_getElem?_getD, List.getD_eq_getElem?_getD, List.getElem?_append_right (by rw [unitParts_len]; omega), unitParts_len]
    congr 2
    omega
/-- Lies a part on a unit? -/
def hasU (u p : Q4) : Bool := decide (p.a = u.a ∧ p.b = u.b ∧ 0 ≤ p.c ∧ p.c < u.c ∧ 0 ≤ p.d ∧ p.d < u.d)
/-- A part's id, unit by unit. -/
def idU (p : Q4) : List Q4 → Int → Int × Int
 | [], _ => (0, 3)
 | u :: us, s => if hasU u p = true then (s + p.c * u.d + p.d, 0) else idU p us (s + u.c * u.d)
/-- A part's id, in the row of all. -/
def idR (p : Q4) : List Q4 → Int → Int × Int
 | [], _ => (0, 3)
 | x :: xs, s => if x = p then (s, 0) else idR p xs (s + 1)
/-- How many parts of a kind. -/
def cntK (k : Int) (l : List Q4) : Int := ((l.filter fun p => p.a == k).length : Int)
theorem cnt_append (k : Int) (l m : List Q4) : cntK k (l ++ m) = cntK k l + cntK k m := by
 unfold cntK
 rw [List.filter_append, List.length_append, Int.natCast_add]
theorem cnt_unit (k : Int) (u : Q4) : cntK k (unitParts u) = if u.a = k then (unitN u : Int) else 0 := by
 unfold cntK unitParts
 rw [List.filter_map, List.length_map]
 by_cases h : u.a = k
 ·rw [if_pos h, List.filter_eq_self.2 (fun i _ => by simp [unitF, h]), List.length_range]
 ·rw [if_neg h, List.filter_eq_nil_iff.2 (fun i _ => by simp [unitF, h])]
  rfl
end Go.Proofs.YtmecohdedghiaaaGreatDoor
namespace Go.Proofs.YtmecohdedghiaaaGreatDoor
open Go.RowKit
/-- Four numbers' value. -/
abbrev Q4.v (u : Q4) : Value := .agg #[.int .i64 u.a, .int .i64 u.b, .int .i64 u.c, .int .i64 u.d]
set_option maxHeartbeats 1000000 in
theorem parts_any (u : Q4) (hu : okU u) (w : World) : Calls Tryz.prog 242 #[u.v] w fun e w' => e = .returned (.int .i64 (u.c * u.d)) ∧ Below w.heap.size w w' := by
 obtain ⟨m1, m2⟩ := size_mul hu.2.2.2
 clear hu
 go_enter Tryz.func242, Tryz.ntmps242
 go_wp2
 go_ret
 exact ⟨ret_i (by first | rfl | omega), Below.al (Below.refl _ _) _⟩
end Go.Proofs.YtmecohdedghiaaaGreatDoor

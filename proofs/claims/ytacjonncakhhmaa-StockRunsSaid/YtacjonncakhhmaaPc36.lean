/- Stocks: the example that must come of every program. -/
import Derived.Test.YtacjonncakhhmaaPc35
import Derived.Test.YtacjonncakhhmaaPc08
import Derived.Test.YtacjonncakhhmaaPc34
import Derived.Test.YtacjonncakhhmaaPc33
namespace Go.Proofs.Ytacjonncakhhmaa
open Go.RowKit
/-- A call by an arm. -/
structure Opp where
 k : Int
 w : Int
 a : Int
 b : Int
 n : Int
structure Opp.Fit (o : Opp) : Prop where
 k : fits o.k
 w : fits o.w
 a : fits o.a
 b : fits o.b
 n : fits o.n
def opCells (o : Opp) : List Value := [.int .i64 o.k, .int .i64 o.w, .int .i64 o.a, .int .i64 o.b, .int .i64 o.n]
abbrev Opp.v (o : Opp) : Value := .agg #[.int .i64 o.k, .int .i64 o.w, .int .i64 o.a, .int .i64 o.b, .int .i64 o.n]
/-- Why it is refused, what it makes of a stock. -/
noncomputable def opE (d : Dk) (s : Ab) (o : Opp) : Int := if o.k = 1 then foE d s o.a (max o.n 0) (s.inn + o.n) else if o.k = 2 then foE d s o.a (-(max o.n 0)) (s.out + o.n) else if o.k = 3 then moE d s o.a o.b o.n else if o.k = 4 then taE d s o.w o.a else drE s o.w
def opA (s : Ab) (o : Opp) : Ab := if o.k = 1 then foA s o.w o.a.toNat (max o.n 0) 4 (s.inn + o.n) else if o.k = 2 then foA s o.w o.a.toNat (-(max o.n 0)) 5 (s.out + o.n) else if o.k = 3 then moA s o.w o.a o.b o.n else if o.k = 4 then taA s o.w o.a else drA s o.w
theorem cg_ok {d : Dk} {a : Ab} {b' E : Int} (h : cgE d a b' E = 0) : rgS d a = true ∧ 1 ≤ b' ∧ b' ≤ d.arms ∧ E = 0 := by
 unfold cgE at h
 by_cases h1 : rgS d a = true
 case neg => rw [if_neg h1] at h; cases h
 rw [if_pos h1] at h
 by_cases h2 : 1 ≤ b' ∧ b' ≤ d.arms
 case neg => rw [if_neg h2] at h; cases h
 rw [if_pos h2] at h
 exact ⟨h1, h2.1, h2.2, h⟩
theorem op_right {d : Dk} {a : Ab} {o : Opp} (h : cgE d a o.w (opE d a o) = 0) : rgS d (opA a o) = true ∧ (opA a o).st = a.st ∧ (opA a o).inn = (if o.k = 1 then a.inn + o.n else a.inn) ∧ (opA a o).out = (if o.k = 2 then a.out + o.n else a.out) := by
 obtain ⟨h1, h2, h3, h4⟩ := cg_ok h
 unfold opE at h4
 unfold opA
 by_cases k1 : o.k = 1
 ·rw [if_pos k1] at h4
  rw [if_pos k1, if_pos k1, if_neg (by omega)]
  exact ⟨rg_fill h1 h2 h3 h4, rfl, rfl, rfl⟩
 rw [if_neg k1] at h4
 rw [if_neg k1, if_neg k1]
 by_cases k2 : o.k = 2
 ·rw [if_pos k2] at h4
  rw [if_pos k2, if_pos k2]
  exact ⟨rg_waste h1 h2 h3 h4, rfl, rfl, rfl⟩
 rw [if_neg k2] at h4
 rw [if_neg k2, if_neg k2]
 by_cases k3 : o.k = 3
 ·rw [if_pos k3] at h4
  rw [if_pos k3]
  exact ⟨rg_move h1 h2 h3 h4, rfl, rfl, rfl⟩
 rw [if_neg k3] at h4
 rw [if_neg k3]
 by_cases k4 : o.k = 4
 ·rw [if_pos k4] at h4
  rw [if_pos k4]
  exact ⟨rg_take h1 h2 h3 h4, rfl, rfl, rfl⟩
 rw [if_neg k4] at h4
 rw [if_neg k4]
 exact ⟨rg_drop h1 h4, rfl, rfl, rfl⟩
set_option maxRecDepth 100000 in
set_option maxHeartbeats 4000000 in
theorem does_any (d : Dk) (s : Stk) (o : Opp) (w : World) (hd : d.In w w.heap.size) (hs : s.In w w.heap.size) (ho : o.Fit) :
  Calls Try.prog 25 #[d.v, s.v, o.v] w fun e w' => ∃ t : Stk, e = .returned (.tuple #[t.v, .int .i64 (cgE d s.ab o.w (opE d s.ab o))]) ∧ t.In w' w'.heap.size ∧ t.ab = (if cgE d s.ab o.w (opE d s.ab o) = 0 then opA s.ab o else ab0) ∧ Below w.heap.size w w' ∧ t.Far w.heap.size := by
 obtain ⟨k, b', x, y, n⟩ := o
 have HO := Lib.hid ho
 dsimp only
 obtain ⟨w0, hw0⟩ : ∃ w0, w0 = ((((w.alloc (.cells #[.slice d.bA d.bn d.bc, .slice d.pA d.pn d.pc, .slice d.rA d.rn d.rc, .int .i64 d.arms] 26)).alloc (.cells #[.slice s.cA s.cl.length s.cc, .slice s.lA s.ll.length s.lc, .slice s.tA s.tl.length s.tc, .int .i64 s.st, .int .i64 s.inn, .int .i64 s.out] 33)).alloc (.cells #[.int .i64 k, .int .i64 b', .int .i64 x, .int .i64 y, .int .i64 n] 53)).alloc (.cells #[.slice none 0 0, .slice none 0 0, .slice none 0 0, .int .i64 0, .int .i64 0, .int .i64 0] 33)) := ⟨_, rfl⟩
 have HB0 := Lib.hid (show Below w.heap.size w w0 by rw [hw0]; exact Below.al (Below.al (Below.al (Below.al (Below.refl _ _) _) _) _) _)
 have HD0 := Lib.hid (hd.then HB0.out)
 have HS0 := Lib.hid (hs.then HB0.out)
 have HK0 := Lib.hid (show DkAt w0 w.heap.size d by rw [hw0]; exact (((Cells4.new w _ _ _ _ _).below (Below.al (Below.refl _ _) _)).below (Below.al (Below.refl _ _) _)).below (Below.al (Below.refl _ _) _))
 have HT0 := Lib.hid (show SkAt w0 (w.heap.size + 1) s by
  have e : (w.alloc (.cells #[.slice d.bA d.bn d.bc, .slice d.pA d.pn d.pc, .slice d.rA d.rn d.rc, .int .i64 d.arms] 26)).heap.size = w.heap.size + 1 := by simp
  rw [hw0, ← e]
  exact ((Cells6.new (w.alloc (.cells #[.slice d.bA d.bn d.bc, .slice d.pA d.pn d.pc, .slice d.rA d.rn d.rc, .int .i64 d.arms] 26)) 33 _ _ _ _ _ _).below (Below.al (Below.refl _ _) _)).below (Below.al (Below.refl _ _) _))
 have HR0 := Lib.hid (show Cells6 w0 (w.heap.size + 3) (.slice none 0 0) (.slice none 0 0) (.slice none 0 0) (.int .i64 0) (.int .i64 0) (.int .i64 0) by
  have e : (((w.alloc (.cells #[.slice d.bA d.bn d.bc, .slice d.pA d.pn d.pc, .slice d.rA d.rn d.rc, .int .i64 d.arms] 26)).alloc (.cells #[.slice s.cA s.cl.length s.cc, .slice s.lA s.ll.length s.lc, .slice s.tA s.tl.length s.tc, .int .i64 s.st, .int .i64 s.inn, .int .i64 s.out] 33)).alloc (.cells #[.int .i64 k, .int .i64 b', .int .i64 x, .int .i64 y, .int .i64 n] 53)).heap.size = w.heap.size + 3 := by simp
  rw [hw0, ← e]
  exact Cells6.new (((w.alloc (.cells #[.slice d.bA d.bn d.bc, .slice d.pA d.pn d.pc, .slice d.rA d.rn d.rc, .int .i64 d.arms] 26)).alloc (.cells #[.slice s.cA s.cl.length s.cc, .slice s.lA s.ll.length s.lc, .slice s.tA s.tl.length s.tc, .int .i64 s.st, .int .i64 s.inn, .int .i64 s.out] 33)).alloc (.cells #[.int .i64 k, .int .i64 b', .int .i64 x, .int .i64 y, .int .i64 n] 53)) 33 _ _ _ _ _ _)
 have HSZ := Lib.hid (show w0.heap.size = w.heap.size + 4 by rw [hw0]; simp)
 have HOO := Lib.hid (show w0.cell? ⟨w.heap.size + 2, 0, none⟩ = some (.int .i64 k) ∧ w0.cell? ⟨w.heap.size + 2, 1, none⟩ = some (.int .i64 b') ∧ w0.cell? ⟨w.heap.size + 2, 2, none⟩ = some (.int .i64 x) ∧ w0.cell? ⟨w.heap.size + 2, 3, none⟩ = some (.int .i64 y) ∧ w0.cell? ⟨w.heap.size + 2, 4, none⟩ = some (.int .i64 n) from by
  have e : ((w.alloc (.cells #[.slice d.bA d.bn d.bc, .slice d.pA d.pn d.pc, .slice d.rA d.rn d.rc, .int .i64 d.arms] 26)).alloc (.cells #[.slice s.cA s.cl.length s.cc, .slice s.lA s.ll.length s.lc, .slice s.tA s.tl.length s.tc, .int .i64 s.st, .int .i64 s.inn, .int .i64 s.out] 33)).heap.size = w.heap.size + 2 := by simp
  rw [hw0, ← e]
  refine ⟨keep_cell (Below.al (Below.refl _ _) _) ?_, keep_cell (Below.al (Below.refl _ _) _) ?_, keep_cell (Below.al (Below.refl _ _) _) ?_, keep_cell (Below.al (Below.refl _ _) _) ?_, keep_cell (Below.al (Below.refl _ _) _) ?_⟩
  all_goals (rw [alloc_at]; rfl))
 obtain ⟨t0, t1, t2, t3, t4, t5, -⟩ := HT0.out
 obtain ⟨d0, d1, d2, d3, -⟩ := HK0.out
 obtain ⟨o0, o1, o2, o3, o4⟩ := HOO.out
 rw [hw0] at t0 t1 t2 t3 t4 t5 d0 d1 d2 d3 o0 o1 o2 o3 o4
 clear hd hs ho
 by_cases h1 : k = 1
 ·have h1b : (k == 1) = true := by simpa using h1
  have HC := Lib.hid (fill_f d s b' x n (hid := HO.out.a) (hn := HO.out.n) (w := w0) (hd := HD0.out) (hs := HS0.out))
  have HEE : opE d s.ab ⟨k, b', x, y, n⟩ = foE d s.ab x (max n 0) (s.ab.inn + n) := by unfold opE; rw [if_pos h1]
  have HAA : opA s.ab ⟨k, b', x, y, n⟩ = foA s.ab b' x.toNat (max n 0) 4 (s.ab.inn + n) := by unfold opA; rw [if_pos h1]
  rw [HEE, HAA]
  generalize foA s.ab b' x.toNat (max n 0) 4 (s.ab.inn + n) = dA at *
  generalize cgE d s.ab b' (foE d s.ab x (max n 0) (s.ab.inn + n)) = E at *
  generalize (if E = 0 then dA else ab0) = dR at *
  clear HEE HAA h1
  go_enter Try.func25, Try.ntmps25
  go_wp2_with fail
  rw [← hw0]
  clear hw0
  refine HC.out.mono ?_
  rintro e w1 ⟨t, rfl, ht, hab, hb1, hfar⟩
  have hR1 := HR0.out.below hb1
  obtain ⟨r0, r1, r2, r3, r4, r5, y0, y1, y2, y3, y4, y5, _⟩ := hR1
  have HR1 := Lib.hid (HR0.out.below hb1)
  have HB1 := Lib.hid (Below.call HB0.out hb1)
  have HTT := Lib.hid (And.intro ht (And.intro hab hfar))
  clear ht hab hfar hb1 t0 t1 t2 t3 t4 t5 d0 d1 d2 d3 o0 o1 o2 o3 o4
  go_wp2
  have hset := HR1.out.set (.slice t.cA t.cl.length t.cc) (.slice t.lA t.ll.length t.lc) (.slice t.tA t.tl.length t.tc) (.int .i64 t.st) (.int .i64 t.inn) (.int .i64 t.out)
  obtain ⟨q0, q1, q2, q3, q4, q5, _⟩ := hset
  have hsz := HSZ.out
  refine bodyPost_ret (v := .tuple #[t.v, .int .i64 E]) ?_ rfl ?_
  ·simp [results, Try.results25, go_sem, q0, q1, q2, q3, q4, q5]
  ·refine ⟨t, rfl, ?_, HTT.out.2.1, below_set6 HB1.out (by omega) _ _ _ _ _ _, HTT.out.2.2.less (by omega)⟩
   have := HTT.out.1.set6 HTT.out.2.2 (D := w.heap.size + 3) (by omega) (.slice t.cA t.cl.length t.cc) (.slice t.lA t.ll.length t.lc) (.slice t.tA t.tl.length t.tc) (.int .i64 t.st) (.int .i64 t.inn) (.int .i64 t.out)
   simpa using this
 have h1b : (k == 1) = false := by simpa using h1
 by_cases h2 : k = 2
 ·have h2b : (k == 2) = true := by simpa using h2
  have HC := Lib.hid (waste_f d s b' x n (hid := HO.out.a) (hn := HO.out.n) (w := w0) (hd := HD0.out) (hs := HS0.out))
  have HEE : opE d s.ab ⟨k, b', x, y, n⟩ = foE d s.ab x (-(max n 0)) (s.ab.out + n) := by unfold opE; rw [if_neg h1, if_pos h2]
  have HAA : opA s.ab ⟨k, b', x, y, n⟩ = foA s.ab b' x.toNat (-(max n 0)) 5 (s.ab.out + n) := by unfold opA; rw [if_neg h1, if_pos h2]
  rw [HEE, HAA]
  generalize foA s.ab b' x.toNat (-(max n 0)) 5 (s.ab.out + n) = dA at *
  generalize cgE d s.ab b' (foE d s.ab x (-(max n 0)) (s.ab.out + n)) = E at *
  generalize (if E = 0 then dA else ab0) = dR at *
  clear HEE HAA h1 h2
  go_enter Try.func25, Try.ntmps25
  go_wp2_with fail
  rw [← hw0]
  clear hw0
  refine HC.out.mono ?_
  rintro e w1 ⟨t, rfl, ht, hab, hb1, hfar⟩
  have hR1 := HR0.out.below hb1
  obtain ⟨r0, r1, r2, r3, r4, r5, y0, y1, y2, y3, y4, y5, _⟩ := hR1
  have HR1 := Lib.hid (HR0.out.below hb1)
  have HB1 := Lib.hid (Below.call HB0.out hb1)
  have HTT := Lib.hid (And.intro ht (And.intro hab hfar))
  clear ht hab hfar hb1 t0 t1 t2 t3 t4 t5 d0 d1 d2 d3 o0 o1 o2 o3 o4
  go_wp2
  have hset := HR1.out.set (.slice t.cA t.cl.length t.cc) (.slice t.lA t.ll.length t.lc) (.slice t.tA t.tl.length t.tc) (.int .i64 t.st) (.int .i64 t.inn) (.int .i64 t.out)
  obtain ⟨q0, q1, q2, q3, q4, q5, _⟩ := hset
  have hsz := HSZ.out
  refine bodyPost_ret (v := .tuple #[t.v, .int .i64 E]) ?_ rfl ?_
  ·simp [results, Try.results25, go_sem, q0, q1, q2, q3, q4, q5]
  ·refine ⟨t, rfl, ?_, HTT.out.2.1, below_set6 HB1.out (by omega) _ _ _ _ _ _, HTT.out.2.2.less (by omega)⟩
   have := HTT.out.1.set6 HTT.out.2.2 (D := w.heap.size + 3) (by omega) (.slice t.cA t.cl.length t.cc) (.slice t.lA t.ll.length t.lc) (.slice t.tA t.tl.length t.tc) (.int .i64 t.st) (.int .i64 t.inn) (.int .i64 t.out)
   simpa using this
 have h2b : (k == 2) = false := by simpa using h2
 by_cases h3 : k = 3
 ·have h3b : (k == 3) = true := by simpa using h3
  have HC := Lib.hid (move_f d s b' x y n (hx := HO.out.a) (hy := HO.out.b) (hn := HO.out.n) (w := w0) (hd := HD0.out) (hs := HS0.out))
  have HEE : opE d s.ab ⟨k, b', x, y, n⟩ = moE d s.ab x y n := by unfold opE; rw [if_neg h1, if_neg h2, if_pos h3]
  have HAA : opA s.ab ⟨k, b', x, y, n⟩ = moA s.ab b' x y n := by unfold opA; rw [if_neg h1, if_neg h2, if_pos h3]
  rw [HEE, HAA]
  generalize moA s.ab b' x y n = dA at *
  generalize cgE d s.ab b' (moE d s.ab x y n) = E at *
  generalize (if E = 0 then dA else ab0) = dR at *
  clear HEE HAA h1 h2 h3
  go_enter Try.func25, Try.ntmps25
  go_wp2_with fail
  rw [← hw0]
  clear hw0
  refine HC.out.mono ?_
  rintro e w1 ⟨t, rfl, ht, hab, hb1, hfar⟩
  have hR1 := HR0.out.below hb1
  obtain ⟨r0, r1, r2, r3, r4, r5, y0, y1, y2, y3, y4, y5, _⟩ := hR1
  have HR1 := Lib.hid (HR0.out.below hb1)
  have HB1 := Lib.hid (Below.call HB0.out hb1)
  have HTT := Lib.hid (And.intro ht (And.intro hab hfar))
  clear ht hab hfar hb1 t0 t1 t2 t3 t4 t5 d0 d1 d2 d3 o0 o1 o2 o3 o4
  go_wp2
  have hset := HR1.out.set (.slice t.cA t.cl.length t.cc) (.slice t.lA t.ll.length t.lc) (.slice t.tA t.tl.length t.tc) (.int .i64 t.st) (.int .i64 t.inn) (.int .i64 t.out)
  obtain ⟨q0, q1, q2, q3, q4, q5, _⟩ := hset
  have hsz := HSZ.out
  refine bodyPost_ret (v := .tuple #[t.v, .int .i64 E]) ?_ rfl ?_
  ·simp [results, Try.results25, go_sem, q0, q1, q2, q3, q4, q5]
  ·refine ⟨t, rfl, ?_, HTT.out.2.1, below_set6 HB1.out (by omega) _ _ _ _ _ _, HTT.out.2.2.less (by omega)⟩
   have := HTT.out.1.set6 HTT.out.2.2 (D := w.heap.size + 3) (by omega) (.slice t.cA t.cl.length t.cc) (.slice t.lA t.ll.length t.lc) (.slice t.tA t.tl.length t.tc) (.int .i64 t.st) (.int .i64 t.inn) (.int .i64 t.out)
   simpa using this
 have h3b : (k == 3) = false := by simpa using h3
 by_cases h4 : k = 4
 ·have h4b : (k == 4) = true := by simpa using h4
  have HC := Lib.hid (take_f d s b' x (hid := HO.out.a) (w := w0) (hd := HD0.out) (hs := HS0.out))
  have HEE : opE d s.ab ⟨k, b', x, y, n⟩ = taE d s.ab b' x := by unfold opE; rw [if_neg h1, if_neg h2, if_neg h3, if_pos h4]
  have HAA : opA s.ab ⟨k, b', x, y, n⟩ = taA s.ab b' x := by unfold opA; rw [if_neg h1, if_neg h2, if_neg h3, if_pos h4]
  rw [HEE, HAA]
  generalize taA s.ab b' x = dA at *
  generalize cgE d s.ab b' (taE d s.ab b' x) = E at *
  generalize (if E = 0 then dA else ab0) = dR at *
  clear HEE HAA h1 h2 h3 h4
  go_enter Try.func25, Try.ntmps25
  go_wp2_with fail
  rw [← hw0]
  clear hw0
  refine HC.out.mono ?_
  rintro e w1 ⟨t, rfl, ht, hab, hb1, hfar⟩
  have hR1 := HR0.out.below hb1
  obtain ⟨r0, r1, r2, r3, r4, r5, y0, y1, y2, y3, y4, y5, _⟩ := hR1
  have HR1 := Lib.hid (HR0.out.below hb1)
  have HB1 := Lib.hid (Below.call HB0.out hb1)
  have HTT := Lib.hid (And.intro ht (And.intro hab hfar))
  clear ht hab hfar hb1 t0 t1 t2 t3 t4 t5 d0 d1 d2 d3 o0 o1 o2 o3 o4
  go_wp2
  have hset := HR1.out.set (.slice t.cA t.cl.length t.cc) (.slice t.lA t.ll.length t.lc) (.slice t.tA t.tl.length t.tc) (.int .i64 t.st) (.int .i64 t.inn) (.int .i64 t.out)
  obtain ⟨q0, q1, q2, q3, q4, q5, _⟩ := hset
  have hsz := HSZ.out
  refine bodyPost_ret (v := .tuple #[t.v, .int .i64 E]) ?_ rfl ?_
  ·simp [results, Try.results25, go_sem, q0, q1, q2, q3, q4, q5]
  ·refine ⟨t, rfl, ?_, HTT.out.2.1, below_set6 HB1.out (by omega) _ _ _ _ _ _, HTT.out.2.2.less (by omega)⟩
   have := HTT.out.1.set6 HTT.out.2.2 (D := w.heap.size + 3) (by omega) (.slice t.cA t.cl.length t.cc) (.slice t.lA t.ll.length t.lc) (.slice t.tA t.tl.length t.tc) (.int .i64 t.st) (.int .i64 t.inn) (.int .i64 t.out)
   simpa using this
 have h4b : (k == 4) = false := by simpa using h4
 have HC := Lib.hid (drop_f d s b' (w := w0) (hd := HD0.out) (hs := HS0.out))
 have HEE : opE d s.ab ⟨k, b', x, y, n⟩ = drE s.ab b' := by unfold opE; rw [if_neg h1, if_neg h2, if_neg h3, if_neg h4]
 have HAA : opA s.ab ⟨k, b', x, y, n⟩ = drA s.ab b' := by unfold opA; rw [if_neg h1, if_neg h2, if_neg h3, if_neg h4]
 rw [HEE, HAA]
 generalize drA s.ab b' = dA at *
 generalize cgE d s.ab b' (drE s.ab b') = E at *
 generalize (if E = 0 then dA else ab0) = dR at *
 clear HEE HAA h1 h2 h3 h4
 go_enter Try.func25, Try.ntmps25
 go_wp2_with fail
 rw [← hw0]
 clear hw0
 refine HC.out.mono ?_
 rintro e w1 ⟨t, rfl, ht, hab, hb1, hfar⟩
 have hR1 := HR0.out.below hb1
 obtain ⟨r0, r1, r2, r3, r4, r5, y0, y1, y2, y3, y4, y5, _⟩ := hR1
 have HR1 := Lib.hid (HR0.out.below hb1)
 have HB1 := Lib.hid (Below.call HB0.out hb1)
 have HTT := Lib.hid (And.intro ht (And.intro hab hfar))
 clear ht hab hfar hb1 t0 t1 t2 t3 t4 t5 d0 d1 d2 d3 o0 o1 o2 o3 o4
 go_wp2
 have hset := HR1.out.set (.slice t.cA t.cl.length t.cc) (.slice t.lA t.ll.length t.lc) (.slice t.tA t.tl.length t.tc) (.int .i64 t.st) (.int .i64 t.inn) (.int .i64 t.out)
 obtain ⟨q0, q1, q2, q3, q4, q5, _⟩ := hset
 have hsz := HSZ.out
 refine bodyPost_ret (v := .tuple #[t.v, .int .i64 E]) ?_ rfl ?_
 ·simp [results, Try.results25, go_sem, q0, q1, q2, q3, q4, q5]
 ·refine ⟨t, rfl, ?_, HTT.out.2.1, below_set6 HB1.out (by omega) _ _ _ _ _ _, HTT.out.2.2.less (by omega)⟩
  have := HTT.out.1.set6 HTT.out.2.2 (D := w.heap.size + 3) (by omega) (.slice t.cA t.cl.length t.cc) (.slice t.lA t.ll.length t.lc) (.slice t.tA t.tl.length t.tc) (.int .i64 t.st) (.int .i64 t.inn) (.int .i64 t.out)
  simpa using this
end Go.Proofs.Ytacjonncakhhmaa
namespace Go.Proofs.Ytacjonncakhhmaa
open Go.ChangeShapes Go.WideShapes Go.ChangeAt Go.RowKit Go.Deep
def op0 : Opp := ⟨0, 0, 0, 0, 0⟩
/-- Lists of calls. -/
noncomputable def KO : Lk Try.prog Opp where
 S := 49
 E := 53
 n := 5
 zero := .agg #[.int .i64 0, .int .i64 0, .int .i64 0, .int .i64 0, .int .i64 0]
 bytes := 40
 cells := opCells
 dflt := op0
 ok := fun q => q.Fit
 und := Try.underlying49
 info := by kernel_rfl
 zs := rfl
 pos := by decide
 small := by decide
 len _ := rfl
 one x u hu := by
  simp only [opCells, List.mem_cons, List.not_mem_nil, or_false] at hu
  rcases hu with rfl | rfl | rfl | rfl | rfl <;> rfl
theorem op_cells {w : World} {B : Nat} {A : Option Addr} {n c : Nat} {xs : List Opp} (h : KO.IsL w B (.slice A n c) xs) (h0 : 0 < xs.length) : ∃ b off, A = some ⟨b, off, none⟩ ∧ b < B ∧ xs.length ≤ c ∧
  ∀ i, i < xs.length → w.cell? ⟨b, off + i * 5, none⟩ = some (.int .i64 (xs.getD i op0).k) ∧ w.cell? ⟨b, off + i * 5 + 1, none⟩ = some (.int .i64 (xs.getD i op0).w) ∧ w.cell? ⟨b, off + i * 5 + 2, none⟩ = some (.int .i64 (xs.getD i op0).a) ∧ w.cell? ⟨b, off + i * 5 + 3, none⟩ = some (.int .i64 (xs.getD i op0).b) ∧ w.cell? ⟨b, off + i * 5 + 4, none⟩ = some (.int .i64 (xs.getD i op0).n) := by
 obtain ⟨b, off, e, hb, hc, hcell⟩ := h.elem h0
 refine ⟨b, off, e, hb, hc, fun i hi => ?_⟩
 have q := fun j u hu => hcell i hi j u hu
 have hn : KO.n = 5 := rfl
 simp only [hn, ← Nat.add_assoc] at q
 exact ⟨q 0 _ rfl, q 1 _ rfl, q 2 _ rfl, q 3 _ rfl, q 4 _ rfl⟩
set_option maxRecDepth 100000 in
theorem cellsOp : Try.prog.cellsOf 53 = 5 := by kernel_rfl
set_option maxRecDepth 100000 in
theorem ops_reads : Try.prog.readableRec 49 = true := by kernel_rfl
set_option maxRecDepth 100000 in
theorem ops_row : 49 < Try.prog.types.size := of_decide_eq_true (by kernel_rfl)
set_option maxRecDepth 100000 in
theorem op_cs {H : Type} {enc : TypeId × Value → H} {w : World} {fuel : Nat} {cs : List Value} {x : DataW H × List MemPlace} (h : DataW.trod enc Try.prog w 0 (fun _ => true) true fuel 53 cs = some x) : ∃ q : Opp, cs = opCells q ∧ q.Fit := by
 obtain ⟨hl, n, hf⟩ := fieldz Try.underlying53 h
 rw [cellsOp] at hl
 match cs, hl with
 | [c0, c1, c2, c3, c4], _ =>
  have g0 := hf 0 { name := "Kind", type := 3, offset := 0, embedded := false, tag := "", pkgPath := "", byteOffset := 0 } rfl
  have g1 := hf 1 { name := "By", type := 3, offset := 1, embedded := false, tag := "", pkgPath := "", byteOffset := 8 } rfl
  have g2 := hf 2 { name := "A", type := 3, offset := 2, embedded := false, tag := "", pkgPath := "", byteOffset := 16 } rfl
  have g3 := hf 3 { name := "B", type := 3, offset := 3, embedded := false, tag := "", pkgPath := "", byteOffset := 24 } rfl
  have g4 := hf 4 { name := "N", type := 3, offset := 4, embedded := false, tag := "", pkgPath := "", byteOffset := 32 } rfl
  simp only [celi3, List.drop_zero, List.drop_succ_cons, List.take_succ_cons, List.take_zero] at g0 g1 g2 g3 g4
  obtain ⟨k0, rfl, f0⟩ := one_int' g0
  obtain ⟨k1, rfl, f1⟩ := one_int' g1
  obtain ⟨k2, rfl, f2⟩ := one_int' g2
  obtain ⟨k3, rfl, f3⟩ := one_int' g3
  obtain ⟨k4, rfl, f4⟩ := one_int' g4
  exact ⟨⟨k0, k1, k2, k3, k4⟩, rfl, ⟨f0, f1, f2, f3, f4⟩⟩
set_option maxRecDepth 100000 in
/-- A list of calls that came in. -/
theorem open_ops {H : Type} {enc : TypeId × Value → H} {w : World} {v : Value} {d : DataW H} {ps : List MemPlace} (hv : ∃ a len cap, v = .slice a len cap) (h : DataW.Trod enc Try.prog w 0 (fun _ => true) true 49 v d ps) : ∃ xs, KO.IsL w w.heap.size v xs := by
 obtain ⟨a0, len0, cap0, rfl⟩ := hv
 obtain ⟨fuel, hf⟩ := h
 obtain ⟨v, xs, h1, h2, _⟩ := Lk.opened (K := KO) (fun _ => True) cellsOp (fun fuel cs x h => by
  obtain ⟨q, e, h1⟩ := op_cs h
  exact ⟨q, e, h1, trivial⟩) (show DataW.trod enc Try.prog w 0 (fun _ => true) true fuel 49 [Value.slice a0 len0 cap0] = some (d, ps) by simpa [Value.cells] using hf)
 simp only [List.cons.injEq, and_true] at h1
 subst h1
 exact ⟨xs, h2⟩
end Go.Proofs.Ytacjonncakhhmaa
namespace Go.Proofs.Ytacjonncakhhmaa
open Go.RowKit
set_option maxRecDepth 100000 in
set_option maxHeartbeats 4000000 in
theorem move_any (d : Dk) (s : Stk) (b' x y n : Int) (w : World) (hd : d.In w w.heap.size) (hs : s.In w w.heap.size) (hx : fits x) (hy : fits y) (hn : fits n) :
  Calls Try.prog 43 #[d.v, s.v, .int .i64 b', .int .i64 x, .int .i64 y, .int .i64 n] w fun e w' => ∃ t : Stk, e = .returned (.tuple #[t.v, .int .i64 (cgE d s.ab b' (moE d s.ab x y n))]) ∧ t.In w' w'.heap.size ∧ t.ab = (if cgE d s.ab b' (moE d s.ab x y n) = 0 then moA s.ab b' x y n else ab0) ∧ Below w.heap.size w w' := by
 obtain ⟨w0, hw0⟩ : ∃ w0, w0 = ((((((w.alloc (.cells #[.slice d.bA d.bn d.bc, .slice d.pA d.pn d.pc, .slice d.rA d.rn d.rc, .int .i64 d.arms] 26)).alloc (.cells #[.slice s.cA s.cl.length s.cc, .slice s.lA s.ll.length s.lc, .slice s.tA s.tl.length s.tc, .int .i64 s.st, .int .i64 s.inn, .int .i64 s.out] 33)).alloc (.cells #[.int .i64 x] 3)).alloc (.cells #[.int .i64 y] 3)).alloc (.cells #[.int .i64 n] 3)).alloc (.cells #[.slice none 0 0, .slice none 0 0, .slice none 0 0, .int .i64 0, .int .i64 0, .int .i64 0] 33)) := ⟨_, rfl⟩
 have HB0 := Lib.hid (show Below w.heap.size w w0 by rw [hw0]; exact Below.al (Below.al (Below.al (Below.al (Below.al (Below.al (Below.refl _ _) _) _) _) _) _) _)
 have HD0 := Lib.hid (hd.then HB0.out)
 have HS0 := Lib.hid (hs.then HB0.out)
 have HK0 := Lib.hid (show DkAt w0 w.heap.size d by rw [hw0]; exact (((((Cells4.new w _ _ _ _ _).below (Below.al (Below.refl _ _) _)).below (Below.al (Below.refl _ _) _)).below (Below.al (Below.refl _ _) _)).below (Below.al (Below.refl _ _) _)).below (Below.al (Below.refl _ _) _))
 have HT0 := Lib.hid (show SkAt w0 (w.heap.size + 1) s by
  have e : (w.alloc (.cells #[.slice d.bA d.bn d.bc, .slice d.pA d.pn d.pc, .slice d.rA d.rn d.rc, .int .i64 d.arms] 26)).heap.size = w.heap.size + 1 := by simp
  rw [hw0, ← e]
  exact ((((Cells6.new (w.alloc (.cells #[.slice d.bA d.bn d.bc, .slice d.pA d.pn d.pc, .slice d.rA d.rn d.rc, .int .i64 d.arms] 26)) 33 _ _ _ _ _ _).below (Below.al (Below.refl _ _) _)).below (Below.al (Below.refl _ _) _)).below (Below.al (Below.refl _ _) _)).below (Below.al (Below.refl _ _) _))
 have HI0 := Lib.hid (show w0.cell? ⟨w.heap.size + 2, 0, none⟩ = some (.int .i64 x) ∧ w0.cell? ⟨w.heap.size + 3, 0, none⟩ = some (.int .i64 y) ∧ w0.cell? ⟨w.heap.size + 4, 0, none⟩ = some (.int .i64 n) ∧ w0.heap.size = w.heap.size + 6 by
  rw [hw0]
  refine ⟨?_, ?_, ?_, by simp⟩
  ·have h : ((w.alloc (.cells #[.slice d.bA d.bn d.bc, .slice d.pA d.pn d.pc, .slice d.rA d.rn d.rc, .int .i64 d.arms] 26)).alloc (.cells #[.slice s.cA s.cl.length s.cc, .slice s.lA s.ll.length s.lc, .slice s.tA s.tl.length s.tc, .int .i64 s.st, .int .i64 s.inn, .int .i64 s.out] 33)).heap.size = w.heap.size + 2 := by simp
   refine keep_cell (Below.al (Below.refl _ _) _) (keep_cell (Below.al (Below.refl _ _) _) (keep_cell (Below.al (Below.refl _ _) _) (?_)))
   rw [← h, alloc_at]
   rfl
  ·have h : (((w.alloc (.cells #[.slice d.bA d.bn d.bc, .slice d.pA d.pn d.pc, .slice d.rA d.rn d.rc, .int .i64 d.arms] 26)).alloc (.cells #[.slice s.cA s.cl.length s.cc, .slice s.lA s.ll.length s.lc, .slice s.tA s.tl.length s.tc, .int .i64 s.st, .int .i64 s.inn, .int .i64 s.out] 33)).alloc (.cells #[.int .i64 x] 3)).heap.size = w.heap.size + 3 := by simp
   refine keep_cell (Below.al (Below.refl _ _) _) (keep_cell (Below.al (Below.refl _ _) _) (?_))
   rw [← h, alloc_at]
   rfl
  ·have h : ((((w.alloc (.cells #[.slice d.bA d.bn d.bc, .slice d.pA d.pn d.pc, .slice d.rA d.rn d.rc, .int .i64 d.arms] 26)).alloc (.cells #[.slice s.cA s.cl.length s.cc, .slice s.lA s.ll.length s.lc, .slice s.tA s.tl.length s.tc, .int .i64 s.st, .int .i64 s.inn, .int .i64 s.out] 33)).alloc (.cells #[.int .i64 x] 3)).alloc (.cells #[.int .i64 y] 3)).heap.size = w.heap.size + 4 := by simp
   refine keep_cell (Below.al (Below.refl _ _) _) (?_)
   rw [← h, alloc_at]
   rfl)
 have HR0 := Lib.hid (show Cells6 w0 (w.heap.size + 5) (.slice none 0 0) (.slice none 0 0) (.slice none 0 0) (.int .i64 0) (.int .i64 0) (.int .i64 0) by
  have h := Cells6.new (((((w.alloc (.cells #[.slice d.bA d.bn d.bc, .slice d.pA d.pn d.pc, .slice d.rA d.rn d.rc, .int .i64 d.arms] 26)).alloc (.cells #[.slice s.cA s.cl.length s.cc, .slice s.lA s.ll.length s.lc, .slice s.tA s.tl.length s.tc, .int .i64 s.st, .int .i64 s.inn, .int .i64 s.out] 33)).alloc (.cells #[.int .i64 x] 3)).alloc (.cells #[.int .i64 y] 3)).alloc (.cells #[.int .i64 n] 3)) 33 (.slice none 0 0) (.slice none 0 0) (.slice none 0 0) (.int .i64 0) (.int .i64 0) (.int .i64 0)
  rw [← hw0, show (((((w.alloc (.cells #[.slice d.bA d.bn d.bc, .slice d.pA d.pn d.pc, .slice d.rA d.rn d.rc, .int .i64 d.arms] 26)).alloc (.cells #[.slice s.cA s.cl.length s.cc, .slice s.lA s.ll.length s.lc, .slice s.tA s.tl.length s.tc, .int .i64 s.st, .int .i64 s.inn, .int .i64 s.out] 33)).alloc (.cells #[.int .i64 x] 3)).alloc (.cells #[.int .i64 y] 3)).alloc (.cells #[.int .i64 n] 3)).heap.size = w.heap.size + 5 by simp] at h
  exact h)
 have HC := Lib.hid (change_any d s b' 80 #[.pointer (some ⟨w.heap.size, 0, none⟩), .pointer (some ⟨w.heap.size + 2, 0, none⟩), .pointer (some ⟨w.heap.size + 3, 0, none⟩), .pointer (some ⟨w.heap.size + 4, 0, none⟩)] (moE d s.ab x y n) (moA s.ab b' x y n) w0 HD0.out HS0.out (enters_of Try.func80 (by kernel_rfl) rfl) (fun hrg hb1' hb2' V B D t hM hab hT hD hb hle => by
  have hI := HI0.out
  have hsz : w0.heap.size = w.heap.size + 6 := hI.2.2.2
  have hfb : fits b' := by have h := hd.a; unfold fits at h ⊢; omega
  have e1 : s.ab = t.ab := hab.symm
  rw [e1]
  rw [e1] at hrg
  exact move1_any d t b' V B D _ _ _ _ x y n hrg hM hT hD hx hy hn (HK0.out.below hb) (keep_cell hb HI0.out.1) (keep_cell hb HI0.out.2.1) (keep_cell hb HI0.out.2.2.1) (by omega) (by omega)))
 generalize moE d s.ab x y n = dE at *
 generalize moA s.ab b' x y n = dA at *
 generalize cgE d s.ab b' dE = E at *
 generalize (if E = 0 then dA else ab0) = dR at *
 have hmf : ∀ (fn : Fn) (first cap : Array Value) (w : World), (Instr.makeFunc fn first cap).run Try.prog w = .ok (.func fn first cap) w := fun _ _ _ _ => rfl
 obtain ⟨t0, t1, t2, t3, t4, t5, _⟩ := HT0.out
 obtain ⟨d0, d1, d2, d3, _⟩ := HK0.out
 obtain ⟨i0, i1, i2, _⟩ := HI0.out
 clear hd hs
 go_enter Try.func43, Try.ntmps43
 --CUT1
 go_wp2_with fail
 rw [← hw0]
 --CUT2
 clear hw0
 refine HC.out.mono ?_
 rintro e w1 ⟨t, rfl, ht, hab, hfar, hb1⟩
 have hR1 := HR0.out.below hb1
 obtain ⟨r0, r1, r2, r3, r4, r5, y0, y1, y2, y3, y4, y5, _⟩ := hR1
 have HR1 := Lib.hid (HR0.out.below hb1)
 have HB1 := Lib.hid (Below.call HB0.out hb1)
 have HTT := Lib.hid (And.intro ht (And.intro hab hfar))
 clear ht hab hfar hb1 t0 t1 t2 t3 t4 t5 d0 d1 d2 d3 hmf i0 i1 i2
 go_wp2
 --CUT3
 have hset := HR1.out.set (.slice t.cA t.cl.length t.cc) (.slice t.lA t.ll.length t.lc) (.slice t.tA t.tl.length t.tc) (.int .i64 t.st) (.int .i64 t.inn) (.int .i64 t.out)
 obtain ⟨q0, q1, q2, q3, q4, q5, _⟩ := hset
 have hsz : w0.heap.size = w.heap.size + 6 := HI0.out.2.2.2
 refine bodyPost_ret (v := .tuple #[t.v, .int .i64 E]) ?_ rfl ?_
 ·simp [results, Try.results43, go_sem, q0, q1, q2, q3, q4, q5]
 ·refine ⟨t, rfl, ?_, HTT.out.2.1, below_set6 HB1.out (by omega) _ _ _ _ _ _⟩
  have := HTT.out.1.set6 HTT.out.2.2 (D := w.heap.size + 5) (by omega) (.slice t.cA t.cl.length t.cc) (.slice t.lA t.ll.length t.lc) (.slice t.tA t.tl.length t.tc) (.int .i64 t.st) (.int .i64 t.inn) (.int .i64 t.out)
  simpa using this
end Go.Proofs.Ytacjonncakhhmaa
namespace Go.Proofs.Ytacjonncakhhmaa
open Go.RowKit
def lsB : List Nat := [0, 4621256167635550208]
def lsP (S : Option Addr) : Pl := ⟨1, 2, 4607182418800017408, 0, 0, 100, S, 1, 1, [40]⟩
def lsR : Rk := ⟨1, 1, 4611686018427387904, 0, 0⟩
/-- The example's deck, wherever its lists lie. -/
def lsD (A P R S : Option Addr) : Dk := ⟨A, 2, 2, lsB, P, 1, 1, [lsP S], R, 1, 1, [lsR], 2⟩
theorem ls_b : chkE lsB = 0 := by decide +kernel
theorem ls_row1 : rowV lsB ⟨1, 2, 4607182418800017408, 0, 0⟩ = [(0, 0, 0), (0, 0, 0)] := by decide +kernel
theorem ls_row2 : rowV lsB ⟨1, 1, 4611686018427387904, 0, 0⟩ = [(0, 0, 0)] := by decide +kernel
theorem ls_chk (A P R S : Option Addr) : dchk (lsD A P R S) = 0 := by
 unfold dchk
 rw [show (lsD A P R S).bl = lsB from rfl, if_neg (by rw [ls_b]; simp)]
 kernel_rfl
theorem ls_racks (A P R S : Option Addr) : racksL (lsD A P R S) = [⟨1, 2, 4607182418800017408, 0, 0⟩, ⟨1, 1, 4611686018427387904, 0, 0⟩] := rfl
theorem ls_z (A P R S : Option Addr) : zchk (lsD A P R S) = 0 := by
 unfold zchk zE
 rw [if_pos (ls_chk A P R S), ls_racks, List.flatMap_cons, List.flatMap_cons, List.flatMap_nil, List.append_nil]
 show fstE (rowV lsB _ ++ rowV lsB _) = 0
 rw [ls_row1, ls_row2]
 rfl
/-- The example's stock at first, behind the move, behind the tip is taken. -/
def lsA : Ab := ⟨[⟨100, 40, 0⟩, ⟨100, 0, 0⟩], [(8, 0, []), (8, 0, [])], [(1, 0)], 40, 0, 0⟩
def lsM : Ab := ⟨[⟨100, 25, 1⟩, ⟨100, 15, 1⟩], [(8, 1, [⟨1, 2, -15⟩]), (8, 1, [⟨1, 2, 15⟩])], [(1, 0)], 40, 0, 0⟩
def lsT : Ab := ⟨[⟨100, 25, 1⟩, ⟨100, 15, 1⟩], [(8, 1, [⟨1, 2, -15⟩]), (8, 1, [⟨1, 2, 15⟩])], [(2, 1)], 40, 0, 0⟩
theorem ls_well (A P R S : Option Addr) : wellN (lsD A P R S) = 2 := by kernel_rfl
theorem ls_tip (A P R S : Option Addr) : tipN (lsD A P R S) = 1 := by kernel_rfl
theorem ls_new (A P R S : Option Addr) : newA (lsD A P R S) = lsA := by kernel_rfl
theorem ls_mE (A P R S : Option Addr) : moE (lsD A P R S) lsA 0 1 15 = 0 := by
 unfold moE
 rw [(isP_eq _ (ls_chk A P R S) 0).1, (isP_eq _ (ls_chk A P R S) 1).1, ls_well, if_pos ⟨by decide, by decide⟩, if_neg (by decide)]
 decide
theorem ls_mA : moA lsA 2 0 1 15 = lsM := by kernel_rfl
theorem ls_hd0 : hdF lsM 1 = (0, false) := by decide
theorem ls_hd1 : hdF lsT 1 = (0, true) := by decide
theorem ls_tE (A P R S : Option Addr) : taE (lsD A P R S) lsM 1 2 = 0 := by
 unfold taE
 rw [(isP_eq _ (ls_chk A P R S) 2).2, ls_well, ls_tip, if_pos (by decide), ls_hd0, if_neg (by decide)]
 decide
theorem ls_tA : taA lsM 1 2 = lsT := by kernel_rfl
theorem ls_r0 (A P R S : Option Addr) : rgS (lsD A P R S) lsA = true := by rw [← ls_new A P R S]; exact rg_new _ (ls_z A P R S)
theorem ls_r1 (A P R S : Option Addr) : rgS (lsD A P R S) lsM = true := by rw [← ls_mA]; exact rg_move (ls_r0 A P R S) (by decide) (by show (2 : Int) ≤ 2; decide) (ls_mE A P R S)
theorem ls_r2 (A P R S : Option Addr) : rgS (lsD A P R S) lsT = true := by rw [← ls_tA]; exact rg_take (ls_r1 A P R S) (by decide) (by show (1 : Int) ≤ 2; decide) (ls_tE A P R S)
end Go.Proofs.Ytacjonncakhhmaa

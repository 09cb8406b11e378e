/- Stocks: what a call hands out lies apart. -/
import Derived.Test.YtacjonncakhhmaaGreatPz41
import Derived.Test.YtacjonncakhhmaaGreatPz38
namespace Go.Proofs.YtacjonncakhhmaaGreat
open Go.RowKit
theorem Stk.Far.less {s : Stk} {B B' : Nat} (h : s.Far B) (hB : B' ≤ B) : s.Far B' :=
 ⟨fun a ha => Nat.le_trans hB (h.1 a ha), fun a ha => Nat.le_trans hB (h.2.1 a ha), fun a ha => Nat.le_trans hB (h.2.2.1 a ha), fun q hq a ha => Nat.le_trans hB (h.2.2.2 q hq a ha)⟩
set_option maxRecDepth 100000 in
set_option maxHeartbeats 4000000 in
theorem fill_f (d : Dk) (s : Stk) (b' id n : Int) (w : World) (hd : d.In w w.heap.size) (hs : s.In w w.heap.size) (hid : fits id) (hn : fits n) :
  Calls Tryz.prog 18 #[d.v, s.v, .int .i64 b', .int .i64 id, .int .i64 n] w fun e w' => ∃ t : Stk, e = .returned (.tuple #[t.v, .int .i64 (cgE d s.ab b' (foE d s.ab id (max n 0) (s.ab.inn + n)))]) ∧ t.In w' w'.heap.size ∧ t.ab = (if cgE d s.ab b' (foE d s.ab id (max n 0) (s.ab.inn + n)) = 0 then foA s.ab b' id.toNat (max n 0) 4 (s.ab.inn + n) else ab0) ∧ Below w.heap.size w w' ∧ t.Far w.heap.size := by
 obtain ⟨w0, hw0⟩ : ∃ w0, w0 = (((((w.alloc (.cells #[.slice d.bA d.bn d.bc, .slice d.pA d.pn d.pc, .slice d.rA d.rn d.rc, .int .i64 d.arms] 26)).alloc (.cells #[.slice s.cA s.cl.length s.cc, .slice s.lA s.ll.length s.lc, .slice s.tA s.tl.length s.tc, .int .i64 s.st, .int .i64 s.inn, .int .i64 s.out] 31)).alloc (.cells #[.int .i64 id] 3)).alloc (.cells #[.int .i64 n] 3)).alloc (.cells #[.slice none 0 0, .slice none 0 0, .slice none 0 0, .int .i64 0, .int .i64 0, .int .i64 0] 31)) := ⟨_, rfl⟩
 have HB0 := Lib.hid (show Below w.heap.size w w0 by rw [hw0]; exact Below.al (Below.al (Below.al (Below.al (Below.al (Below.refl _ _) _) _) _) _) _)
 have HD0 := Lib.hid (hd.then HB0.out)
 have HS0 := Lib.hid (hs.then HB0.out)
 have HK0 := Lib.hid (show DkAt w0 w.heap.size d by rw [hw0]; exact ((((Cells4.new w _ _ _ _ _).below (Below.al (Below.refl _ _) _)).below (Below.al (Below.refl _ _) _)).below (Below.al (Below.refl _ _) _)).below (Below.al (Below.refl _ _) _))
 have HT0 := Lib.hid (show SkAt w0 (w.heap.size + 1) s by
  have e : (w.alloc (.cells #[.slice d.bA d.bn d.bc, .slice d.pA d.pn d.pc, .slice d.rA d.rn d.rc, .int .i64 d.arms] 26)).heap.size = w.heap.size + 1 := by simp
  rw [hw0, ← e]
  exact (((Cells6.new (w.alloc (.cells #[.slice d.bA d.bn d.bc, .slice d.pA d.pn d.pc, .slice d.rA d.rn d.rc, .int .i64 d.arms] 26)) 31 _ _ _ _ _ _).below (Below.al (Below.refl _ _) _)).below (Below.al (Below.refl _ _) _)).below (Below.al (Below.refl _ _) _))
 have HI0 := Lib.hid (show w0.cell? ⟨w.heap.size + 2, 0, none⟩ = some (.int .i64 id) ∧ w0.cell? ⟨w.heap.size + 3, 0, none⟩ = some (.int .i64 n) ∧ w0.heap.size = w.heap.size + 5 by
  rw [hw0]
  refine ⟨?_, ?_, by simp⟩
  ·have h : ((w.alloc (.cells #[.slice d.bA d.bn d.bc, .slice d.pA d.pn d.pc, .slice d.rA d.rn d.rc, .int .i64 d.arms] 26)).alloc (.cells #[.slice s.cA s.cl.length s.cc, .slice s.lA s.ll.length s.lc, .slice s.tA s.tl.length s.tc, .int .i64 s.st, .int .i64 s.inn, .int .i64 s.out] 31)).heap.size = w.heap.size + 2 := by simp
   refine keep_cell (Below.al (Below.refl _ _) _) (keep_cell (Below.al (Below.refl _ _) _) (?_))
   rw [← h, alloc_at]
   rfl
  ·have h : (((w.alloc (.cells #[.slice d.bA d.bn d.bc, .slice d.pA d.pn d.pc, .slice d.rA d.rn d.rc, .int .i64 d.arms] 26)).alloc (.cells #[.slice s.cA s.cl.length s.cc, .slice s.lA s.ll.length s.lc, .slice s.tA s.tl.length s.tc, .int .i64 s.st, .int .i64 s.inn, .int .i64 s.out] 31)).alloc (.cells #[.int .i64 id] 3)).heap.size = w.heap.size + 3 := by simp
   refine keep_cell (Below.al (Below.refl _ _) _) (?_)
   rw [← h, alloc_at]
   rfl)
 have HR0 := Lib.hid (show Cells6 w0 (w.heap.size + 4) (.slice none 0 0) (.slice none 0 0) (.slice none 0 0) (.int .i64 0) (.int .i64 0) (.int .i64 0) by
  have h := Cells6.new ((((w.alloc (.cells #[.slice d.bA d.bn d.bc, .slice d.pA d.pn d.pc, .slice d.rA d.rn d.rc, .int .i64 d.arms] 26)).alloc (.cells #[.slice s.cA s.cl.length s.cc, .slice s.lA s.ll.length s.lc, .slice s.tA s.tl.length s.tc, .int .i64 s.st, .int .i64 s.inn, .int .i64 s.out] 31)).alloc (.cells #[.int .i64 id] 3)).alloc (.cells #[.int .i64 n] 3)) 31 (.slice none 0 0) (.slice none 0 0) (.slice none 0 0) (.int .i64 0) (.int .i64 0) (.int .i64 0)
  rw [← hw0, show ((((w.alloc (.cells #[.slice d.bA d.bn d.bc, .slice d.pA d.pn d.pc, .slice d.rA d.rn d.rc, .int .i64 d.arms] 26)).alloc (.cells #[.slice s.cA s.cl.length s.cc, .slice s.lA s.ll.length s.lc, .slice s.tA s.tl.length s.tc, .int .i64 s.st, .int .i64 s.inn, .int .i64 s.out] 31)).alloc (.cells #[.int .i64 id] 3)).alloc (.cells #[.int .i64 n] 3)).heap.size = w.heap.size + 4 by simp] at h
  exact h)
 have HC := Lib.hid (change_any d s b' 44 #[.pointer (some ⟨w.heap.size + 2, 0, none⟩), .pointer (some ⟨w.heap.size + 3, 0, none⟩)] (foE d s.ab id (max n 0) (s.ab.inn + n)) (foA s.ab b' id.toNat (max n 0) 4 (s.ab.inn + n)) w0 HD0.out HS0.out (enters_of Tryz.func44 (by kernel_rfl) rfl) (fun hrg hb1' hb2' V B D t hM hab hT hD hb hle => by
  have hI := HI0.out
  have hsz : w0.heap.size = w.heap.size + 5 := hI.2.2
  have hfb : fits b' := by have h := hd.a; unfold fits at h ⊢; omega
  have e1 : s.ab = t.ab := hab.symm
  rw [e1]
  rw [e1] at hrg
  exact fill1_any d t b' V B D _ _ id n hrg hM hT hD hid hn (keep_cell hb HI0.out.1) (keep_cell hb HI0.out.2.1) (by omega) (by omega)))
 generalize foE d s.ab id (max n 0) (s.ab.inn + n) = dE at *
 generalize foA s.ab b' id.toNat (max n 0) 4 (s.ab.inn + n) = dA at *
 generalize cgE d s.ab b' dE = E at *
 generalize (if E = 0 then dA else ab0) = dR at *
 have hmf : ∀ (fn : Fn) (first cap : Array Value) (w : World), (Instr.makeFunc fn first cap).run Tryz.prog w = .ok (.func fn first cap) w := fun _ _ _ _ => rfl
 obtain ⟨t0, t1, t2, t3, t4, t5, _⟩ := HT0.out
 obtain ⟨d0, d1, d2, d3, _⟩ := HK0.out
 obtain ⟨i0, i1, _⟩ := HI0.out
 clear hd hs
 go_enter Tryz.func18, Tryz.ntmps18
 go_wp2_with fail
 rw [← hw0]
 clear hw0
 refine HC.out.mono ?_
 rintro e w1 ⟨t, rfl, ht, hab, hfar, hb1⟩
 have hR1 := HR0.out.below hb1
 obtain ⟨r0, r1, r2, r3, r4, r5, y0, y1, y2, y3, y4, y5, _⟩ := hR1
 have HR1 := Lib.hid (HR0.out.below hb1)
 have HB1 := Lib.hid (Below.call HB0.out hb1)
 have HTT := Lib.hid (And.intro ht (And.intro hab hfar))
 clear ht hab hfar hb1 t0 t1 t2 t3 t4 t5 d0 d1 d2 d3 hmf i0 i1
 go_wp2
 have hset := HR1.out.set (.slice t.cA t.cl.length t.cc) (.slice t.lA t.ll.length t.lc) (.slice t.tA t.tl.length t.tc) (.int .i64 t.st) (.int .i64 t.inn) (.int .i64 t.out)
 obtain ⟨q0, q1, q2, q3, q4, q5, _⟩ := hset
 have hsz : w0.heap.size = w.heap.size + 5 := HI0.out.2.2
 refine bodyPost_ret (v := .tuple #[t.v, .int .i64 E]) ?_ rfl ?_
 ·simp [results, Tryz.results18, go_sem, q0, q1, q2, q3, q4, q5]
 ·refine ⟨t, rfl, ?_, HTT.out.2.1, below_set6 HB1.out (by omega) _ _ _ _ _ _, HTT.out.2.2.less (by omega)⟩
  have := HTT.out.1.set6 HTT.out.2.2 (D := w.heap.size + 4) (by omega) (.slice t.cA t.cl.length t.cc) (.slice t.lA t.ll.length t.lc) (.slice t.tA t.tl.length t.tc) (.int .i64 t.st) (.int .i64 t.inn) (.int .i64 t.out)
  simpa using this
set_option maxRecDepth 100000 in
set_option maxHeartbeats 4000000 in
theorem waste_f (d : Dk) (s : Stk) (b' id n : Int) (w : World) (hd : d.In w w.heap.size) (hs : s.In w w.heap.size) (hid : fits id) (hn : fits n) :
  Calls Tryz.prog 19 #[d.v, s.v, .int .i64 b', .int .i64 id, .int .i64 n] w fun e w' => ∃ t : Stk, e = .returned (.tuple #[t.v, .int .i64 (cgE d s.ab b' (foE d s.ab id (-(max n 0)) (s.ab.out + n)))]) ∧ t.In w' w'.heap.size ∧ t.ab = (if cgE d s.ab b' (foE d s.ab id (-(max n 0)) (s.ab.out + n)) = 0 then foA s.ab b' id.toNat (-(max n 0)) 5 (s.ab.out + n) else ab0) ∧ Below w.heap.size w w' ∧ t.Far w.heap.size := by
 obtain ⟨w0, hw0⟩ : ∃ w0, w0 = (((((w.alloc (.cells #[.slice d.bA d.bn d.bc, .slice d.pA d.pn d.pc, .slice d.rA d.rn d.rc, .int .i64 d.arms] 26)).alloc (.cells #[.slice s.cA s.cl.length s.cc, .slice s.lA s.ll.length s.lc, .slice s.tA s.tl.length s.tc, .int .i64 s.st, .int .i64 s.inn, .int .i64 s.out] 31)).alloc (.cells #[.int .i64 id] 3)).alloc (.cells #[.int .i64 n] 3)).alloc (.cells #[.slice none 0 0, .slice none 0 0, .slice none 0 0, .int .i64 0, .int .i64 0, .int .i64 0] 31)) := ⟨_, rfl⟩
 have HB0 := Lib.hid (show Below w.heap.size w w0 by rw [hw0]; exact Below.al (Below.al (Below.al (Below.al (Below.al (Below.refl _ _) _) _) _) _) _)
 have HD0 := Lib.hid (hd.then HB0.out)
 have HS0 := Lib.hid (hs.then HB0.out)
 have HK0 := Lib.hid (show DkAt w0 w.heap.size d by rw [hw0]; exact ((((Cells4.new w _ _ _ _ _).below (Below.al (Below.refl _ _) _)).below (Below.al (Below.refl _ _) _)).below (Below.al (Below.refl _ _) _)).below (Below.al (Below.refl _ _) _))
 have HT0 := Lib.hid (show SkAt w0 (w.heap.size + 1) s by
  have e : (w.alloc (.cells #[.slice d.bA d.bn d.bc, .slice d.pA d.pn d.pc, .slice d.rA d.rn d.rc, .int .i64 d.arms] 26)).heap.size = w.heap.size + 1 := by simp
  rw [hw0, ← e]
  exact (((Cells6.new (w.alloc (.cells #[.slice d.bA d.bn d.bc, .slice d.pA d.pn d.pc, .slice d.rA d.rn d.rc, .int .i64 d.arms] 26)) 31 _ _ _ _ _ _).below (Below.al (Below.refl _ _) _)).below (Below.al (Below.refl _ _) _)).below (Below.al (Below.refl _ _) _))
 have HI0 := Lib.hid (show w0.cell? ⟨w.heap.size + 2, 0, none⟩ = some (.int .i64 id) ∧ w0.cell? ⟨w.heap.size + 3, 0, none⟩ = some (.int .i64 n) ∧ w0.heap.size = w.heap.size + 5 by
  rw [hw0]
  refine ⟨?_, ?_, by simp⟩
  ·have h : ((w.alloc (.cells #[.slice d.bA d.bn d.bc, .slice d.pA d.pn d.pc, .slice d.rA d.rn d.rc, .int .i64 d.arms] 26)).alloc (.cells #[.slice s.cA s.cl.length s.cc, .slice s.lA s.ll.length s.lc, .slice s.tA s.tl.length s.tc, .int .i64 s.st, .int .i64 s.inn, .int .i64 s.out] 31)).heap.size = w.heap.size + 2 := by simp
   refine keep_cell (Below.al (Below.refl _ _) _) (keep_cell (Below.al (Below.refl _ _) _) (?_))
   rw [← h, alloc_at]
   rfl
  ·have h : (((w.alloc (.cells #[.slice d.bA d.bn d.bc, .slice d.pA d.pn d.pc, .slice d.rA d.rn d.rc, .int .i64 d.arms] 26)).alloc (.cells #[.slice s.cA s.cl.length s.cc, .slice s.lA s.ll.length s.lc, .slice s.tA s.tl.length s.tc, .int .i64 s.st, .int .i64 s.inn, .int .i64 s.out] 31)).alloc (.cells #[.int .i64 id] 3)).heap.size = w.heap.size + 3 := by simp
   refine keep_cell (Below.al (Below.refl _ _) _) (?_)
   rw [← h, alloc_at]
   rfl)
 have HR0 := Lib.hid (show Cells6 w0 (w.heap.size + 4) (.slice none 0 0) (.slice none 0 0) (.slice none 0 0) (.int .i64 0) (.int .i64 0) (.int .i64 0) by
  have h := Cells6.new ((((w.alloc (.cells #[.slice d.bA d.bn d.bc, .slice d.pA d.pn d.pc, .slice d.rA d.rn d.rc, .int .i64 d.arms] 26)).alloc (.cells #[.slice s.cA s.cl.length s.cc, .slice s.lA s.ll.length s.lc, .slice s.tA s.tl.length s.tc, .int .i64 s.st, .int .i64 s.inn, .int .i64 s.out] 31)).alloc (.cells #[.int .i64 id] 3)).alloc (.cells #[.int .i64 n] 3)) 31 (.slice none 0 0) (.slice none 0 0) (.slice none 0 0) (.int .i64 0) (.int .i64 0) (.int .i64 0)
  rw [← hw0, show ((((w.alloc (.cells #[.slice d.bA d.bn d.bc, .slice d.pA d.pn d.pc, .slice d.rA d.rn d.rc, .int .i64 d.arms] 26)).alloc (.cells #[.slice s.cA s.cl.length s.cc, .slice s.lA s.ll.length s.lc, .slice s.tA s.tl.length s.tc, .int .i64 s.st, .int .i64 s.inn, .int .i64 s.out] 31)).alloc (.cells #[.int .i64 id] 3)).alloc (.cells #[.int .i64 n] 3)).heap.size = w.heap.size + 4 by simp] at h
  exact h)
 have HC := Lib.hid (change_any d s b' 47 #[.pointer (some ⟨w.heap.size + 2, 0, none⟩), .pointer (some ⟨w.heap.size + 3, 0, none⟩)] (foE d s.ab id (-(max n 0)) (s.ab.out + n)) (foA s.ab b' id.toNat (-(max n 0)) 5 (s.ab.out + n)) w0 HD0.out HS0.out (enters_of Tryz.func47 (by kernel_rfl) rfl) (fun hrg hb1' hb2' V B D t hM hab hT hD hb hle => by
  have hI := HI0.out
  have hsz : w0.heap.size = w.heap.size + 5 := hI.2.2
  have hfb : fits b' := by have h := hd.a; unfold fits at h ⊢; omega
  have e1 : s.ab = t.ab := hab.symm
  rw [e1]
  rw [e1] at hrg
  exact waste1_any d t b' V B D _ _ id n hrg hM hT hD hid hn (keep_cell hb HI0.out.1) (keep_cell hb HI0.out.2.1) (by omega) (by omega)))
 generalize foE d s.ab id (-(max n 0)) (s.ab.out + n) = dE at *
 generalize foA s.ab b' id.toNat (-(max n 0)) 5 (s.ab.out + n) = dA at *
 generalize cgE d s.ab b' dE = E at *
 generalize (if E = 0 then dA else ab0) = dR at *
 have hmf : ∀ (fn : Fn) (first cap : Array Value) (w : World), (Instr.makeFunc fn first cap).run Tryz.prog w = .ok (.func fn first cap) w := fun _ _ _ _ => rfl
 obtain ⟨t0, t1, t2, t3, t4, t5, _⟩ := HT0.out
 obtain ⟨d0, d1, d2, d3, _⟩ := HK0.out
 obtain ⟨i0, i1, _⟩ := HI0.out
 clear hd hs
 go_enter Tryz.func19, Tryz.ntmps19
 go_wp2_with fail
 rw [← hw0]
 clear hw0
 refine HC.out.mono ?_
 rintro e w1 ⟨t, rfl, ht, hab, hfar, hb1⟩
 have hR1 := HR0.out.below hb1
 obtain ⟨r0, r1, r2, r3, r4, r5, y0, y1, y2, y3, y4, y5, _⟩ := hR1
 have HR1 := Lib.hid (HR0.out.below hb1)
 have HB1 := Lib.hid (Below.call HB0.out hb1)
 have HTT := Lib.hid (And.intro ht (And.intro hab hfar))
 clear ht hab hfar hb1 t0 t1 t2 t3 t4 t5 d0 d1 d2 d3 hmf i0 i1
 go_wp2
 have hset := HR1.out.set (.slice t.cA t.cl.length t.cc) (.slice t.lA t.ll.length t.lc) (.slice t.tA t.tl.length t.tc) (.int .i64 t.st) (.int .i64 t.inn) (.int .i64 t.out)
 obtain ⟨q0, q1, q2, q3, q4, q5, _⟩ := hset
 have hsz : w0.heap.size = w.heap.size + 5 := HI0.out.2.2
 refine bodyPost_ret (v := .tuple #[t.v, .int .i64 E]) ?_ rfl ?_
 ·simp [results, Tryz.results19, go_sem, q0, q1, q2, q3, q4, q5]
 ·refine ⟨t, rfl, ?_, HTT.out.2.1, below_set6 HB1.out (by omega) _ _ _ _ _ _, HTT.out.2.2.less (by omega)⟩
  have := HTT.out.1.set6 HTT.out.2.2 (D := w.heap.size + 4) (by omega) (.slice t.cA t.cl.length t.cc) (.slice t.lA t.ll.length t.lc) (.slice t.tA t.tl.length t.tc) (.int .i64 t.st) (.int .i64 t.inn) (.int .i64 t.out)
  simpa using this
set_option maxRecDepth 100000 in
set_option maxHeartbeats 4000000 in
theorem move_f (d : Dk) (s : Stk) (b' x y n : Int) (w : World) (hd : d.In w w.heap.size) (hs : s.In w w.heap.size) (hx : fits x) (hy : fits y) (hn : fits n) :
  Calls Tryz.prog 13 #[d.v, s.v, .int .i64 b', .int .i64 x, .int .i64 y, .int .i64 n] w fun e w' => ∃ t : Stk, e = .returned (.tuple #[t.v, .int .i64 (cgE d s.ab b' (moE d s.ab x y n))]) ∧ t.In w' w'.heap.size ∧ t.ab = (if cgE d s.ab b' (moE d s.ab x y n) = 0 then moA s.ab b' x y n else ab0) ∧ Below w.heap.size w w' ∧ t.Far w.heap.size := by
 obtain ⟨w0, hw0⟩ : ∃ w0, w0 = ((((((w.alloc (.cells #[.slice d.bA d.bn d.bc, .slice d.pA d.pn d.pc, .slice d.rA d.rn d.rc, .int .i64 d.arms] 26)).alloc (.cells #[.slice s.cA s.cl.length s.cc, .slice s.lA s.ll.length s.lc, .slice s.tA s.tl.length s.tc, .int .i64 s.st, .int .i64 s.inn, .int .i64 s.out] 31)).alloc (.cells #[.int .i64 x] 3)).alloc (.cells #[.int .i64 y] 3)).alloc (.cells #[.int .i64 n] 3)).alloc (.cells #[.slice none 0 0, .slice none 0 0, .slice none 0 0, .int .i64 0, .int .i64 0, .int .i64 0] 31)) := ⟨_, rfl⟩
 have HB0 := Lib.hid (show Below w.heap.size w w0 by rw [hw0]; exact Below.al (Below.al (Below.al (Below.al (Below.al (Below.al (Below.refl _ _) _) _) _) _) _) _)
 have HD0 := Lib.hid (hd.then HB0.out)
 have HS0 := Lib.hid (hs.then HB0.out)
 have HK0 := Lib.hid (show DkAt w0 w.heap.size d by rw [hw0]; exact (((((Cells4.new w _ _ _ _ _).below (Below.al (Below.refl _ _) _)).below (Below.al (Below.refl _ _) _)).below (Below.al (Below.refl _ _) _)).below (Below.al (Below.refl _ _) _)).below (Below.al (Below.refl _ _) _))
 have HT0 := Lib.hid (show SkAt w0 (w.heap.size + 1) s by
  have e : (w.alloc (.cells #[.slice d.bA d.bn d.bc, .slice d.pA d.pn d.pc, .slice d.rA d.rn d.rc, .int .i64 d.arms] 26)).heap.size = w.heap.size + 1 := by simp
  rw [hw0, ← e]
  exact ((((Cells6.new (w.alloc (.cells #[.slice d.bA d.bn d.bc, .slice d.pA d.pn d.pc, .slice d.rA d.rn d.rc, .int .i64 d.arms] 26)) 31 _ _ _ _ _ _).below (Below.al (Below.refl _ _) _)).below (Below.al (Below.refl _ _) _)).below (Below.al (Below.refl _ _) _)).below (Below.al (Below.refl _ _) _))
 have HI0 := Lib.hid (show w0.cell? ⟨w.heap.size + 2, 0, none⟩ = some (.int .i64 x) ∧ w0.cell? ⟨w.heap.size + 3, 0, none⟩ = some (.int .i64 y) ∧ w0.cell? ⟨w.heap.size + 4, 0, none⟩ = some (.int .i64 n) ∧ w0.heap.size = w.heap.size + 6 by
  rw [hw0]
  refine ⟨?_, ?_, ?_, by simp⟩
  ·have h : ((w.alloc (.cells #[.slice d.bA d.bn d.bc, .slice d.pA d.pn d.pc, .slice d.rA d.rn d.rc, .int .i64 d.arms] 26)).alloc (.cells #[.slice s.cA s.cl.length s.cc, .slice s.lA s.ll.length s.lc, .slice s.tA s.tl.length s.tc, .int .i64 s.st, .int .i64 s.inn, .int .i64 s.out] 31)).heap.size = w.heap.size + 2 := by simp
   refine keep_cell (Below.al (Below.refl _ _) _) (keep_cell (Below.al (Below.refl _ _) _) (keep_cell (Below.al (Below.refl _ _) _) (?_)))
   rw [← h, alloc_at]
   rfl
  ·have h : (((w.alloc (.cells #[.slice d.bA d.bn d.bc, .slice d.pA d.pn d.pc, .slice d.rA d.rn d.rc, .int .i64 d.arms] 26)).alloc (.cells #[.slice s.cA s.cl.length s.cc, .slice s.lA s.ll.length s.lc, .slice s.tA s.tl.length s.tc, .int .i64 s.st, .int .i64 s.inn, .int .i64 s.out] 31)).alloc (.cells #[.int .i64 x] 3)).heap.size = w.heap.size + 3 := by simp
   refine keep_cell (Below.al (Below.refl _ _) _) (keep_cell (Below.al (Below.refl _ _) _) (?_))
   rw [← h, alloc_at]
   rfl
  ·have h : ((((w.alloc (.cells #[.slice d.bA d.bn d.bc, .slice d.pA d.pn d.pc, .slice d.rA d.rn d.rc, .int .i64 d.arms] 26)).alloc (.cells #[.slice s.cA s.cl.length s.cc, .slice s.lA s.ll.length s.lc, .slice s.tA s.tl.length s.tc, .int .i64 s.st, .int .i64 s.inn, .int .i64 s.out] 31)).alloc (.cells #[.int .i64 x] 3)).alloc (.cells #[.int .i64 y] 3)).heap.size = w.heap.size + 4 := by simp
   refine keep_cell (Below.al (Below.refl _ _) _) (?_)
   rw [← h, alloc_at]
   rfl)
 have HR0 := Lib.hid (show Cells6 w0 (w.heap.size + 5) (.slice none 0 0) (.slice none 0 0) (.slice none 0 0) (.int .i64 0) (.int .i64 0) (.int .i64 0) by
  have h := Cells6.new (((((w.alloc (.cells #[.slice d.bA d.bn d.bc, .slice d.pA d.pn d.pc, .slice d.rA d.rn d.rc, .int .i64 d.arms] 26)).alloc (.cells #[.slice s.cA s.cl.length s.cc, .slice s.lA s.ll.length s.lc, .slice s.tA s.tl.length s.tc, .int .i64 s.st, .int .i64 s.inn, .int .i64 s.out] 31)).alloc (.cells #[.int .i64 x] 3)).alloc (.cells #[.int .i64 y] 3)).alloc (.cells #[.int .i64 n] 3)) 31 (.slice none 0 0) (.slice none 0 0) (.slice none 0 0) (.int .i64 0) (.int .i64 0) (.int .i64 0)
  rw [← hw0, show (((((w.alloc (.cells #[.slice d.bA d.bn d.bc, .slice d.pA d.pn d.pc, .slice d.rA d.rn d.rc, .int .i64 d.arms] 26)).alloc (.cells #[.slice s.cA s.cl.length s.cc, .slice s.lA s.ll.length s.lc, .slice s.tA s.tl.length s.tc, .int .i64 s.st, .int .i64 s.inn, .int .i64 s.out] 31)).alloc (.cells #[.int .i64 x] 3)).alloc (.cells #[.int .i64 y] 3)).alloc (.cells #[.int .i64 n] 3)).heap.size = w.heap.size + 5 by simp] at h
  exact h)
 have HC := Lib.hid (change_any d s b' 35 #[.pointer (some ⟨w.heap.size, 0, none⟩), .pointer (some ⟨w.heap.size + 2, 0, none⟩), .pointer (some ⟨w.heap.size + 3, 0, none⟩), .pointer (some ⟨w.heap.size + 4, 0, none⟩)] (moE d s.ab x y n) (moA s.ab b' x y n) w0 HD0.out HS0.out (enters_of Tryz.func35 (by kernel_rfl) rfl) (fun hrg hb1' hb2' V B D t hM hab hT hD hb hle => by
  have hI := HI0.out
  have hsz : w0.heap.size = w.heap.size + 6 := hI.2.2.2
  have hfb : fits b' := by have h := hd.a; unfold fits at h ⊢; omega
  have e1 : s.ab = t.ab := hab.symm
  rw [e1]
  rw [e1] at hrg
  exact move1_any d t b' V B D _ _ _ _ x y n hrg hM hT hD hx hy hn (HK0.out.below hb) (keep_cell hb HI0.out.1) (keep_cell hb HI0.out.2.1) (keep_cell hb HI0.out.2.2.1) (by omega) (by omega)))
 generalize moE d s.ab x y n = dE at *
 generalize moA s.ab b' x y n = dA at *
 generalize cgE d s.ab b' dE = E at *
 generalize (if E = 0 then dA else ab0) = dR at *
 have hmf : ∀ (fn : Fn) (first cap : Array Value) (w : World), (Instr.makeFunc fn first cap).run Tryz.prog w = .ok (.func fn first cap) w := fun _ _ _ _ => rfl
 obtain ⟨t0, t1, t2, t3, t4, t5, _⟩ := HT0.out
 obtain ⟨d0, d1, d2, d3, _⟩ := HK0.out
 obtain ⟨i0, i1, i2, _⟩ := HI0.out
 clear hd hs
 go_enter Tryz.func13, Tryz.ntmps13
 go_wp2_with fail
 rw [← hw0]
 clear hw0
 refine HC.out.mono ?_
 rintro e w1 ⟨t, rfl, ht, hab, hfar, hb1⟩
 have hR1 := HR0.out.below hb1
 obtain ⟨r0, r1, r2, r3, r4, r5, y0, y1, y2, y3, y4, y5, _⟩ := hR1
 have HR1 := Lib.hid (HR0.out.below hb1)
 have HB1 := Lib.hid (Below.call HB0.out hb1)
 have HTT := Lib.hid (And.intro ht (And.intro hab hfar))
 clear ht hab hfar hb1 t0 t1 t2 t3 t4 t5 d0 d1 d2 d3 hmf i0 i1 i2
 go_wp2
 have hset := HR1.out.set (.slice t.cA t.cl.length t.cc) (.slice t.lA t.ll.length t.lc) (.slice t.tA t.tl.length t.tc) (.int .i64 t.st) (.int .i64 t.inn) (.int .i64 t.out)
 obtain ⟨q0, q1, q2, q3, q4, q5, _⟩ := hset
 have hsz : w0.heap.size = w.heap.size + 6 := HI0.out.2.2.2
 refine bodyPost_ret (v := .tuple #[t.v, .int .i64 E]) ?_ rfl ?_
 ·simp [results, Tryz.results13, go_sem, q0, q1, q2, q3, q4, q5]
 ·refine ⟨t, rfl, ?_, HTT.out.2.1, below_set6 HB1.out (by omega) _ _ _ _ _ _, HTT.out.2.2.less (by omega)⟩
  have := HTT.out.1.set6 HTT.out.2.2 (D := w.heap.size + 5) (by omega) (.slice t.cA t.cl.length t.cc) (.slice t.lA t.ll.length t.lc) (.slice t.tA t.tl.length t.tc) (.int .i64 t.st) (.int .i64 t.inn) (.int .i64 t.out)
  simpa using this
set_option maxRecDepth 100000 in
set_option maxHeartbeats 4000000 in
theorem drop_f (d : Dk) (s : Stk) (b' : Int) (w : World) (hd : d.In w w.heap.size) (hs : s.In w w.heap.size) :
  Calls Tryz.prog 20 #[d.v, s.v, .int .i64 b'] w fun e w' => ∃ t : Stk, e = .returned (.tuple #[t.v, .int .i64 (cgE d s.ab b' (drE s.ab b'))]) ∧ t.In w' w'.heap.size ∧ t.ab = (if cgE d s.ab b' (drE s.ab b') = 0 then drA s.ab b' else ab0) ∧ Below w.heap.size w w' ∧ t.Far w.heap.size := by
 obtain ⟨w0, hw0⟩ : ∃ w0, w0 = ((((w.alloc (.cells #[.slice d.bA d.bn d.bc, .slice d.pA d.pn d.pc, .slice d.rA d.rn d.rc, .int .i64 d.arms] 26)).alloc (.cells #[.slice s.cA s.cl.length s.cc, .slice s.lA s.ll.length s.lc, .slice s.tA s.tl.length s.tc, .int .i64 s.st, .int .i64 s.inn, .int .i64 s.out] 31)).alloc (.cells #[.int .i64 b'] 3)).alloc (.cells #[.slice none 0 0, .slice none 0 0, .slice none 0 0, .int .i64 0, .int .i64 0, .int .i64 0] 31)) := ⟨_, rfl⟩
 have HB0 := Lib.hid (show Below w.heap.size w w0 by rw [hw0]; exact Below.al (Below.al (Below.al (Below.al (Below.refl _ _) _) _) _) _)
 have HD0 := Lib.hid (hd.then HB0.out)
 have HS0 := Lib.hid (hs.then HB0.out)
 have HK0 := Lib.hid (show DkAt w0 w.heap.size d by rw [hw0]; exact (((Cells4.new w _ _ _ _ _).below (Below.al (Below.refl _ _) _)).below (Below.al (Below.refl _ _) _)).below (Below.al (Below.refl _ _) _))
 have HT0 := Lib.hid (show SkAt w0 (w.heap.size + 1) s by
  have e : (w.alloc (.cells #[.slice d.bA d.bn d.bc, .slice d.pA d.pn d.pc, .slice d.rA d.rn d.rc, .int .i64 d.arms] 26)).heap.size = w.heap.size + 1 := by simp
  rw [hw0, ← e]
  exact ((Cells6.new (w.alloc (.cells #[.slice d.bA d.bn d.bc, .slice d.pA d.pn d.pc, .slice d.rA d.rn d.rc, .int .i64 d.arms] 26)) 31 _ _ _ _ _ _).below (Below.al (Below.refl _ _) _)).below (Below.al (Below.refl _ _) _))
 have HI0 := Lib.hid (show w0.cell? ⟨w.heap.size + 2, 0, none⟩ = some (.int .i64 b') ∧ w0.heap.size = w.heap.size + 4 by
  rw [hw0]
  refine ⟨?_, by simp⟩
  ·have h : ((w.alloc (.cells #[.slice d.bA d.bn d.bc, .slice d.pA d.pn d.pc, .slice d.rA d.rn d.rc, .int .i64 d.arms] 26)).alloc (.cells #[.slice s.cA s.cl.length s.cc, .slice s.lA s.ll.length s.lc, .slice s.tA s.tl.length s.tc, .int .i64 s.st, .int .i64 s.inn, .int .i64 s.out] 31)).heap.size = w.heap.size + 2 := by simp
   refine keep_cell (Below.al (Below.refl _ _) _) (?_)
   rw [← h, alloc_at]
   rfl)
 have HR0 := Lib.hid (show Cells6 w0 (w.heap.size + 3) (.slice none 0 0) (.slice none 0 0) (.slice none 0 0) (.int .i64 0) (.int .i64 0) (.int .i64 0) by
  have h := Cells6.new (((w.alloc (.cells #[.slice d.bA d.bn d.bc, .slice d.pA d.pn d.pc, .slice d.rA d.rn d.rc, .int .i64 d.arms] 26)).alloc (.cells #[.slice s.cA s.cl.length s.cc, .slice s.lA s.ll.length s.lc, .slice s.tA s.tl.length s.tc, .int .i64 s.st, .int .i64 s.inn, .int .i64 s.out] 31)).alloc (.cells #[.int .i64 b'] 3)) 31 (.slice none 0 0) (.slice none 0 0) (.slice none 0 0) (.int .i64 0) (.int .i64 0) (.int .i64 0)
  rw [← hw0, show (((w.alloc (.cells #[.slice d.bA d.bn d.bc, .slice d.pA d.pn d.pc, .slice d.rA d.rn d.rc, .int .i64 d.arms] 26)).alloc (.cells #[.slice s.cA s.cl.length s.cc, .slice s.lA s.ll.length s.lc, .slice s.tA s.tl.length s.tc, .int .i64 s.st, .int .i64 s.inn, .int .i64 s.out] 31)).alloc (.cells #[.int .i64 b'] 3)).heap.size = w.heap.size + 3 by simp] at h
  exact h)
 have HC := Lib.hid (change_any d s b' 49 #[.pointer (some ⟨w.heap.size + 2, 0, none⟩)] (drE s.ab b') (drA s.ab b') w0 HD0.out HS0.out (enters_of Tryz.func49 (by kernel_rfl) rfl) (fun hrg hb1' hb2' V B D t hM hab hT hD hb hle => by
  have hI := HI0.out
  have hsz : w0.heap.size = w.heap.size + 4 := hI.2
  have hfb : fits b' := by have h := hd.a; unfold fits at h ⊢; omega
  have e1 : s.ab = t.ab := hab.symm
  rw [e1]
  rw [e1] at hrg
  exact drop1_any d t b' V B D _ hrg hM hT (keep_cell hb hI.1)))
 generalize drE s.ab b' = dE at *
 generalize drA s.ab b' = dA at *
 generalize cgE d s.ab b' dE = E at *
 generalize (if E = 0 then dA else ab0) = dR at *
 have hmf : ∀ (fn : Fn) (first cap : Array Value) (w : World), (Instr.makeFunc fn first cap).run Tryz.prog w = .ok (.func fn first cap) w := fun _ _ _ _ => rfl
 obtain ⟨t0, t1, t2, t3, t4, t5, _⟩ := HT0.out
 obtain ⟨d0, d1, d2, d3, _⟩ := HK0.out
 obtain ⟨i0, _⟩ := HI0.out
 clear hd hs
 go_enter Tryz.func20, Tryz.ntmps20
 go_wp2_with fail
 rw [← hw0]
 clear hw0
 refine HC.out.mono ?_
 rintro e w1 ⟨t, rfl, ht, hab, hfar, hb1⟩
 have hR1 := HR0.out.below hb1
 obtain ⟨r0, r1, r2, r3, r4, r5, y0, y1, y2, y3, y4, y5, _⟩ := hR1
 have HR1 := Lib.hid (HR0.out.below hb1)
 have HB1 := Lib.hid (Below.call HB0.out hb1)
 have HTT := Lib.hid (And.intro ht (And.intro hab hfar))
 clear ht hab hfar hb1 t0 t1 t2 t3 t4 t5 d0 d1 d2 d3 hmf i0
 go_wp2
 have hset := HR1.out.set (.slice t.cA t.cl.length t.cc) (.slice t.lA t.ll.length t.lc) (.slice t.tA t.tl.length t.tc) (.int .i64 t.st) (.int .i64 t.inn) (.int .i64 t.out)
 obtain ⟨q0, q1, q2, q3, q4, q5, _⟩ := hset
 have hsz : w0.heap.size = w.heap.size + 4 := HI0.out.2
 refine bodyPost_ret (v := .tuple #[t.v, .int .i64 E]) ?_ rfl ?_
 ·simp [results, Tryz.results20, go_sem, q0, q1, q2, q3, q4, q5]
 ·refine ⟨t, rfl, ?_, HTT.out.2.1, below_set6 HB1.out (by omega) _ _ _ _ _ _, HTT.out.2.2.less (by omega)⟩
  have := HTT.out.1.set6 HTT.out.2.2 (D := w.heap.size + 3) (by omega) (.slice t.cA t.cl.length t.cc) (.slice t.lA t.ll.length t.lc) (.slice t.tA t.tl.length t.tc) (.int .i64 t.st) (.int .i64 t.inn) (.int .i64 t.out)
  simpa using this
set_option maxRecDepth 100000 in
set_option maxHeartbeats 4000000 in
theorem take_f (d : Dk) (s : Stk) (b' id : Int) (w : World) (hd : d.In w w.heap.size) (hs : s.In w w.heap.size) (hid : fits id) :
  Calls Tryz.prog 16 #[d.v, s.v, .int .i64 b', .int .i64 id] w fun e w' => ∃ t : Stk, e = .returned (.tuple #[t.v, .int .i64 (cgE d s.ab b' (taE d s.ab b' id))]) ∧ t.In w' w'.heap.size ∧ t.ab = (if cgE d s.ab b' (taE d s.ab b' id) = 0 then taA s.ab b' id else ab0) ∧ Below w.heap.size w w' ∧ t.Far w.heap.size := by
 obtain ⟨w0, hw0⟩ : ∃ w0, w0 = (((((w.alloc (.cells #[.slice d.bA d.bn d.bc, .slice d.pA d.pn d.pc, .slice d.rA d.rn d.rc, .int .i64 d.arms] 26)).alloc (.cells #[.slice s.cA s.cl.length s.cc, .slice s.lA s.ll.length s.lc, .slice s.tA s.tl.length s.tc, .int .i64 s.st, .int .i64 s.inn, .int .i64 s.out] 31)).alloc (.cells #[.int .i64 b'] 3)).alloc (.cells #[.int .i64 id] 3)).alloc (.cells #[.slice none 0 0, .slice none 0 0, .slice none 0 0, .int .i64 0, .int .i64 0, .int .i64 0] 31)) := ⟨_, rfl⟩
 have HB0 := Lib.hid (show Below w.heap.size w w0 by rw [hw0]; exact Below.al (Below.al (Below.al (Below.al (Below.al (Below.refl _ _) _) _) _) _) _)
 have HD0 := Lib.hid (hd.then HB0.out)
 have HS0 := Lib.hid (hs.then HB0.out)
 have HK0 := Lib.hid (show DkAt w0 w.heap.size d by rw [hw0]; exact ((((Cells4.new w _ _ _ _ _).below (Below.al (Below.refl _ _) _)).below (Below.al (Below.refl _ _) _)).below (Below.al (Below.refl _ _) _)).below (Below.al (Below.refl _ _) _))
 have HT0 := Lib.hid (show SkAt w0 (w.heap.size + 1) s by
  have e : (w.alloc (.cells #[.slice d.bA d.bn d.bc, .slice d.pA d.pn d.pc, .slice d.rA d.rn d.rc, .int .i64 d.arms] 26)).heap.size = w.heap.size + 1 := by simp
  rw [hw0, ← e]
  exact (((Cells6.new (w.alloc (.cells #[.slice d.bA d.bn d.bc, .slice d.pA d.pn d.pc, .slice d.rA d.rn d.rc, .int .i64 d.arms] 26)) 31 _ _ _ _ _ _).below (Below.al (Below.refl _ _) _)).below (Below.al (Below.refl _ _) _)).below (Below.al (Below.refl _ _) _))
 have HI0 := Lib.hid (show w0.cell? ⟨w.heap.size + 2, 0, none⟩ = some (.int .i64 b') ∧ w0.cell? ⟨w.heap.size + 3, 0, none⟩ = some (.int .i64 id) ∧ w0.heap.size = w.heap.size + 5 by
  rw [hw0]
  refine ⟨?_, ?_, by simp⟩
  ·have h : ((w.alloc (.cells #[.slice d.bA d.bn d.bc, .slice d.pA d.pn d.pc, .slice d.rA d.rn d.rc, .int .i64 d.arms] 26)).alloc (.cells #[.slice s.cA s.cl.length s.cc, .slice s.lA s.ll.length s.lc, .slice s.tA s.tl.length s.tc, .int .i64 s.st, .int .i64 s.inn, .int .i64 s.out] 31)).heap.size = w.heap.size + 2 := by simp
   refine keep_cell (Below.al (Below.refl _ _) _) (keep_cell (Below.al (Below.refl _ _) _) (?_))
   rw [← h, alloc_at]
   rfl
  ·have h : (((w.alloc (.cells #[.slice d.bA d.bn d.bc, .slice d.pA d.pn d.pc, .slice d.rA d.rn d.rc, .int .i64 d.arms] 26)).alloc (.cells #[.slice s.cA s.cl.length s.cc, .slice s.lA s.ll.length s.lc, .slice s.tA s.tl.length s.tc, .int .i64 s.st, .int .i64 s.inn, .int .i64 s.out] 31)).alloc (.cells #[.int .i64 b'] 3)).heap.size = w.heap.size + 3 := by simp
   refine keep_cell (Below.al (Below.refl _ _) _) (?_)
   rw [← h, alloc_at]
   rfl)
 have HR0 := Lib.hid (show Cells6 w0 (w.heap.size + 4) (.slice none 0 0) (.slice none 0 0) (.slice none 0 0) (.int .i64 0) (.int .i64 0) (.int .i64 0) by
  have h := Cells6.new ((((w.alloc (.cells #[.slice d.bA d.bn d.bc, .slice d.pA d.pn d.pc, .slice d.rA d.rn d.rc, .int .i64 d.arms] 26)).alloc (.cells #[.slice s.cA s.cl.length s.cc, .slice s.lA s.ll.length s.lc, .slice s.tA s.tl.length s.tc, .int .i64 s.st, .int .i64 s.inn, .int .i64 s.out] 31)).alloc (.cells #[.int .i64 b'] 3)).alloc (.cells #[.int .i64 id] 3)) 31 (.slice none 0 0) (.slice none 0 0) (.slice none 0 0) (.int .i64 0) (.int .i64 0) (.int .i64 0)
  rw [← hw0, show ((((w.alloc (.cells #[.slice d.bA d.bn d.bc, .slice d.pA d.pn d.pc, .slice d.rA d.rn d.rc, .int .i64 d.arms] 26)).alloc (.cells #[.slice s.cA s.cl.length s.cc, .slice s.lA s.ll.length s.lc, .slice s.tA s.tl.length s.tc, .int .i64 s.st, .int .i64 s.inn, .int .i64 s.out] 31)).alloc (.cells #[.int .i64 b'] 3)).alloc (.cells #[.int .i64 id] 3)).heap.size = w.heap.size + 4 by simp] at h
  exact h)
 have HC := Lib.hid (change_any d s b' 40 #[.pointer (some ⟨w.heap.size, 0, none⟩), .pointer (some ⟨w.heap.size + 3, 0, none⟩), .pointer (some ⟨w.heap.size + 2, 0, none⟩)] (taE d s.ab b' id) (taA s.ab b' id) w0 HD0.out HS0.out (enters_of Tryz.func40 (by kernel_rfl) rfl) (fun hrg hb1' hb2' V B D t hM hab hT hD hb hle => by
  have hI := HI0.out
  have hsz : w0.heap.size = w.heap.size + 5 := hI.2.2
  have hfb : fits b' := by have h := hd.a; unfold fits at h ⊢; omega
  have e1 : s.ab = t.ab := hab.symm
  rw [e1]
  rw [e1] at hrg
  exact take1_any d t b' V B D _ _ _ id hrg hM hT hD hid hfb (HK0.out.below hb) (keep_cell hb hI.2.1) (keep_cell hb hI.1) (by omega)))
 generalize taE d s.ab b' id = dE at *
 generalize taA s.ab b' id = dA at *
 generalize cgE d s.ab b' dE = E at *
 generalize (if E = 0 then dA else ab0) = dR at *
 have hmf : ∀ (fn : Fn) (first cap : Array Value) (w : World), (Instr.makeFunc fn first cap).run Tryz.prog w = .ok (.func fn first cap) w := fun _ _ _ _ => rfl
 obtain ⟨t0, t1, t2, t3, t4, t5, _⟩ := HT0.out
 obtain ⟨d0, d1, d2, d3, _⟩ := HK0.out
 obtain ⟨i0, i1, _⟩ := HI0.out
 clear hd hs
 go_enter Tryz.func16, Tryz.ntmps16
 go_wp2_with fail
 rw [← hw0]
 clear hw0
 refine HC.out.mono ?_
 rintro e w1 ⟨t, rfl, ht, hab, hfar, hb1⟩
 have hR1 := HR0.out.below hb1
 obtain ⟨r0, r1, r2, r3, r4, r5, y0, y1, y2, y3, y4, y5, _⟩ := hR1
 have HR1 := Lib.hid (HR0.out.below hb1)
 have HB1 := Lib.hid (Below.call HB0.out hb1)
 have HTT := Lib.hid (And.intro ht (And.intro hab hfar))
 clear ht hab hfar hb1 t0 t1 t2 t3 t4 t5 d0 d1 d2 d3 hmf i0 i1
 go_wp2
 have hset := HR1.out.set (.slice t.cA t.cl.length t.cc) (.slice t.lA t.ll.length t.lc) (.slice t.tA t.tl.length t.tc) (.int .i64 t.st) (.int .i64 t.inn) (.int .i64 t.out)
 obtain ⟨q0, q1, q2, q3, q4, q5, _⟩ := hset
 have hsz : w0.heap.size = w.heap.size + 5 := HI0.out.2.2
 refine bodyPost_ret (v := .tuple #[t.v, .int .i64 E]) ?_ rfl ?_
 ·simp [results, Tryz.results16, go_sem, q0, q1, q2, q3, q4, q5]
 ·refine ⟨t, rfl, ?_, HTT.out.2.1, below_set6 HB1.out (by omega) _ _ _ _ _ _, HTT.out.2.2.less (by omega)⟩
  have := HTT.out.1.set6 HTT.out.2.2 (D := w.heap.size + 4) (by omega) (.slice t.cA t.cl.length t.cc) (.slice t.lA t.ll.length t.lc) (.slice t.tA t.tl.length t.tc) (.int .i64 t.st) (.int .i64 t.inn) (.int .i64 t.out)
  simpa using this
end Go.Proofs.YtacjonncakhhmaaGreat

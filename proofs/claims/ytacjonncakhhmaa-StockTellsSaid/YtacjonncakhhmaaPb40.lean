/- Stocks: is one too large? -/
import Derived.Test.YtacjonncakhhmaaPb39
import Derived.Test.YtacjonncakhhmaaPb35
import Derived.Test.YtacjonncakhhmaaPb38
import Derived.Test.YtacjonncakhhmaaPb36
import Derived.Test.YtacjonncakhhmaaPb19
namespace Go.Proofs.Ytacjonncakhhmaa
open Go.RowKit
set_option maxRecDepth 100000 in
set_option maxHeartbeats 4000000 in
theorem move_any (d : Dk) (s : Stk) (b' x y n : Int) (w : World) (hd : d.In w w.heap.size) (hs : s.In w w.heap.size) (hx : fits x) (hy : fits y) (hn : fits n) :
  Calls Try.prog 43 #[d.v, s.v, .int .i64 b', .int .i64 x, .int .i64 y, .int .i64 n] w fun e w' => ∃ t : Stk, e = .returned (.tuple #[t.v, .int .i64 (cgE d s.ab b' (moE d s.ab x y n))]) ∧ t.In w' w'.heap.size ∧ t.ab = (if cgE d s.ab b' (moE d s.ab x y n) = 0 then moA s.ab b' x y n else ab0) ∧ Below w.heap.size w w' := by
 obtain ⟨w0, hw0⟩ : ∃ w0, w0 = ((((((w.alloc (.cells #[.slice d.bA d.bn d.bc, .slice d.pA d.pn d.pc, .slice d.rA d.rn d.rc, .int .i64 d.arms] 26)).alloc (.cells #[.slice s.cA s.cl.length s.cc, .slice s.lA s.ll.length s.lc, .slice s.tA s.tl.length s.tc, .int .i64 s.st, .int .i64 s.inn, .int .i64 s.out] 33)).alloc (.cells #[.int .i64 x] 3)).alloc (.cells #[.int .i64 y] 3)).alloc (.cells #[.int .i64 n] 3)).alloc (.cells #[.slice none 0 0, .slice none 0 0, .slice none 0 0, .int .i64 0, .int .i64 0, .int .i64 0] 33)) := ⟨_, rfl⟩
 have HB0 := Lib.hid (show Below w.heap.size w w0 by rw [hw0]; exact Below.al (Below.al (Below.al (Below.al (Below.al (Below.al (Below.refl _ _) _) _) _) _) _) _)
 have HD0 := Lib.hid (hd.then HB0.out)
 have HS0 := Lib.hid (hs.then HB0.out)
 have HK0 := Lib.hid (show DkAt w0 w.heap.size d by rw [hw0]; exact (((((Cells4.new w _ _ _ _ _).below (Below.al (Below.refl _ _) _)).below (Below.al (Below.refl _ _) _)).below (Below.al (Below.refl _ _) _)).below (Below.al (Below.refl _ _) _)).below (Below.al (Below.refl _ _) _))
 have HT0 := Lib.hid (show SkAt w0 (w.heap.size + 1) s by
  have e : (w.alloc (.cells #[.slice d.bA d.bn d.bc, .slice d.pA d.pn d.pc, .slice d.rA d.rn d.rc, .int .i64 d.arms] 26)).heap.size = w.heap.size + 1 := by simp
  rw [hw0, ← e]
  exact ((((Cells6.new (w.alloc (.cells #[.slice d.bA d.bn d.bc, .slice d.pA d.pn d.pc, .slice d.rA d.rn d.rc, .int .i64 d.arms] 26)) 33 _ _ _ _ _ _).below (Below.al (Below.refl _ _) _)).below (Below.al (Below.refl _ _) _)).below (Below.al (Below.refl _ _) _)).below (Below.al (Below.refl _ _) _))
 have HI0 := Lib.hid (show w0.cell? ⟨w.heap.size + 2, 0, none⟩ = some (.int .i64 x) ∧ w0.cell? ⟨w.heap.size + 3, 0, none⟩ = some (.int .i64 y) ∧ w0.cell? ⟨w.heap.size + 4, 0, none⟩ = some (.int .i64 n) ∧ w0.heap.size = w.heap.size + 6 by
  rw [hw0]
  refine ⟨?_, ?_, ?_, by simp⟩
  ·have h : ((w.alloc (.cells #[.slice d.bA d.bn d.bc, .slice d.pA d.pn d.pc, .slice d.rA d.rn d.rc, .int .i64 d.arms] 26)).alloc (.cells #[.slice s.cA s.cl.length s.cc, .slice s.lA s.ll.length s.lc, .slice s.tA s.tl.length s.tc, .int .i64 s.st, .int .i64 s.inn, .int .i64 s.out] 33)).heap.size = w.heap.size + 2 := by simp
   refine keep_cell (Below.al (Below.refl _ _) _) (keep_cell (Below.al (Below.refl _ _) _) (keep_cell (Below.al (Below.refl _ _) _) (?_)))
   rw [← h, alloc_at]
   rfl
  ·have h : (((w.alloc (.cells #[.slice d.bA d.bn d.bc, .slice d.pA d.pn d.pc, .slice d.rA d.rn d.rc, .int .i64 d.arms] 26)).alloc (.cells #[.slice s.cA s.cl.length s.cc, .slice s.lA s.ll.length s.lc, .slice s.tA s.tl.length s.tc, .int .i64 s.st, .int .i64 s.inn, .int .i64 s.out] 33)).alloc (.cells #[.int .i64 x] 3)).heap.size = w.heap.size + 3 := by simp
   refine keep_cell (Below.al (Below.refl _ _) _) (keep_cell (Below.al (Below.refl _ _) _) (?_))
   rw [← h, alloc_at]
   rfl
  ·have h : ((((w.alloc (.cells #[.slice d.bA d.bn d.bc, .slice d.pA d.pn d.pc, .slice d.rA d.rn d.rc, .int .i64 d.arms] 26)).alloc (.cells #[.slice s.cA s.cl.length s.cc, .slice s.lA s.ll.length s.lc, .slice s.tA s.tl.length s.tc, .int .i64 s.st, .int .i64 s.inn, .int .i64 s.out] 33)).alloc (.cells #[.int .i64 x] 3)).alloc (.cells #[.int .i64 y] 3)).heap.size = w.heap.size + 4 := by simp
   refine keep_cell (Below.al (Below.refl _ _) _) (?_)
   rw [← h, alloc_at]
   rfl)
 have HR0 := Lib.hid (show Cells6 w0 (w.heap.size + 5) (.slice none 0 0) (.slice none 0 0) (.slice none 0 0) (.int .i64 0) (.int .i64 0) (.int .i64 0) by
  have h := Cells6.new (((((w.alloc (.cells #[.slice d.bA d.bn d.bc, .slice d.pA d.pn d.pc, .slice d.rA d.rn d.rc, .int .i64 d.arms] 26)).alloc (.cells #[.slice s.cA s.cl.length s.cc, .slice s.lA s.ll.length s.lc, .slice s.tA s.tl.length s.tc, .int .i64 s.st, .int .i64 s.inn, .int .i64 s.out] 33)).alloc (.cells #[.int .i64 x] 3)).alloc (.cells #[.int .i64 y] 3)).alloc (.cells #[.int .i64 n] 3)) 33 (.slice none 0 0) (.slice none 0 0) (.slice none 0 0) (.int .i64 0) (.int .i64 0) (.int .i64 0)
  rw [← hw0, show (((((w.alloc (.cells #[.slice d.bA d.bn d.bc, .slice d.pA d.pn d.pc, .slice d.rA d.rn d.rc, .int .i64 d.arms] 26)).alloc (.cells #[.slice s.cA s.cl.length s.cc, .slice s.lA s.ll.length s.lc, .slice s.tA s.tl.length s.tc, .int .i64 s.st, .int .i64 s.inn, .int .i64 s.out] 33)).alloc (.cells #[.int .i64 x] 3)).alloc (.cells #[.int .i64 y] 3)).alloc (.cells #[.int .i64 n] 3)).heap.size = w.heap.size + 5 by simp] at h
  exact h)
 have HC := Lib.hid (change_any d s b' 80 #[.pointer (some ⟨w.heap.size, 0, none⟩), .pointer (some ⟨w.heap.size + 2, 0, none⟩), .pointer (some ⟨w.heap.size + 3, 0, none⟩), .pointer (some ⟨w.heap.size + 4, 0, none⟩)] (moE d s.ab x y n) (moA s.ab b' x y n) w0 HD0.out HS0.out (enters_of Try.func80 (by kernel_rfl) rfl) (fun hrg hb1' hb2' V B D t hM hab hT hD hb hle => by
  have hI := HI0.out
  have hsz : w0.heap.size = w.heap.size + 6 := hI.2.2.2
  have hfb : fits b' := by have h := hd.a; unfold fits at h ⊢; omega
  have e1 : s.ab = t.ab := hab.symm
  rw [e1]
  rw [e1] at hrg
  exact move1_any d t b' V B D _ _ _ _ x y n hrg hM hT hD hx hy hn (HK0.out.below hb) (keep_cell hb HI0.out.1) (keep_cell hb HI0.out.2.1) (keep_cell hb HI0.out.2.2.1) (by omega) (by omega)))
 generalize moE d s.ab x y n = dE at *
 generalize moA s.ab b' x y n = dA at *
 generalize cgE d s.ab b' dE = E at *
 generalize (if E = 0 then dA else ab0) = dR at *
 have hmf : ∀ (fn : Fn) (first cap : Array Value) (w : World), (Instr.makeFunc fn first cap).run Try.prog w = .ok (.func fn first cap) w := fun _ _ _ _ => rfl
 obtain ⟨t0, t1, t2, t3, t4, t5, _⟩ := HT0.out
 obtain ⟨d0, d1, d2, d3, _⟩ := HK0.out
 obtain ⟨i0, i1, i2, _⟩ := HI0.out
 clear hd hs
 go_enter Try.func43, Try.ntmps43
 --CUT1
 go_wp2_with fail
 rw [← hw0]
 --CUT2
 clear hw0
 refine HC.out.mono ?_
 rintro e w1 ⟨t, rfl, ht, hab, hfar, hb1⟩
 have hR1 := HR0.out.below hb1
 obtain ⟨r0, r1, r2, r3, r4, r5, y0, y1, y2, y3, y4, y5, _⟩ := hR1
 have HR1 := Lib.hid (HR0.out.below hb1)
 have HB1 := Lib.hid (Below.call HB0.out hb1)
 have HTT := Lib.hid (And.intro ht (And.intro hab hfar))
 clear ht hab hfar hb1 t0 t1 t2 t3 t4 t5 d0 d1 d2 d3 hmf i0 i1 i2
 go_wp2
 --CUT3
 have hset := HR1.out.set (.slice t.cA t.cl.length t.cc) (.slice t.lA t.ll.length t.lc) (.slice t.tA t.tl.length t.tc) (.int .i64 t.st) (.int .i64 t.inn) (.int .i64 t.out)
 obtain ⟨q0, q1, q2, q3, q4, q5, _⟩ := hset
 have hsz : w0.heap.size = w.heap.size + 6 := HI0.out.2.2.2
 refine bodyPost_ret (v := .tuple #[t.v, .int .i64 E]) ?_ rfl ?_
 ·simp [results, Try.results43, go_sem, q0, q1, q2, q3, q4, q5]
 ·refine ⟨t, rfl, ?_, HTT.out.2.1, below_set6 HB1.out (by omega) _ _ _ _ _ _⟩
  have := HTT.out.1.set6 HTT.out.2.2 (D := w.heap.size + 5) (by omega) (.slice t.cA t.cl.length t.cc) (.slice t.lA t.ll.length t.lc) (.slice t.tA t.tl.length t.tc) (.int .i64 t.st) (.int .i64 t.inn) (.int .i64 t.out)
  simpa using this
end Go.Proofs.Ytacjonncakhhmaa
namespace Go.Proofs.Ytacjonncakhhmaa
open Go.RowKit
def lsB : List Nat := [0, 4621256167635550208]
def lsP (S : Option Addr) : Pl := ⟨1, 2, 4607182418800017408, 0, 0, 100, S, 1, 1, [40]⟩
def lsR : Rk := ⟨1, 1, 4611686018427387904, 0, 0⟩
/-- The example's deck, wherever its lists lie. -/
def lsD (A P R S : Option Addr) : Dk := ⟨A, 2, 2, lsB, P, 1, 1, [lsP S], R, 1, 1, [lsR], 2⟩
theorem ls_b : chkE lsB = 0 := by decide +kernel
theorem ls_row1 : rowV lsB ⟨1, 2, 4607182418800017408, 0, 0⟩ = [(0, 0, 0), (0, 0, 0)] := by decide +kernel
theorem ls_row2 : rowV lsB ⟨1, 1, 4611686018427387904, 0, 0⟩ = [(0, 0, 0)] := by decide +kernel
theorem ls_chk (A P R S : Option Addr) : dchk (lsD A P R S) = 0 := by
 unfold dchk
 rw [show (lsD A P R S).bl = lsB from rfl, if_neg (by rw [ls_b]; simp)]
 kernel_rfl
theorem ls_racks (A P R S : Option Addr) : racksL (lsD A P R S) = [⟨1, 2, 4607182418800017408, 0, 0⟩, ⟨1, 1, 4611686018427387904, 0, 0⟩] := rfl
theorem ls_z (A P R S : Option Addr) : zchk (lsD A P R S) = 0 := by
 unfold zchk zE
 rw [if_pos (ls_chk A P R S), ls_racks, List.flatMap_cons, List.flatMap_cons, List.flatMap_nil, List.append_nil]
 show fstE (rowV lsB _ ++ rowV lsB _) = 0
 rw [ls_row1, ls_row2]
 rfl
/-- The example's stock at first, behind the move, behind the tip is taken. -/
def lsA : Ab := ⟨[⟨100, 40, 0⟩, ⟨100, 0, 0⟩], [(8, 0, []), (8, 0, [])], [(1, 0)], 40, 0, 0⟩
def lsM : Ab := ⟨[⟨100, 25, 1⟩, ⟨100, 15, 1⟩], [(8, 1, [⟨1, 2, -15⟩]), (8, 1, [⟨1, 2, 15⟩])], [(1, 0)], 40, 0, 0⟩
def lsT : Ab := ⟨[⟨100, 25, 1⟩, ⟨100, 15, 1⟩], [(8, 1, [⟨1, 2, -15⟩]), (8, 1, [⟨1, 2, 15⟩])], [(2, 1)], 40, 0, 0⟩
theorem ls_well (A P R S : Option Addr) : wellN (lsD A P R S) = 2 := by kernel_rfl
theorem ls_tip (A P R S : Option Addr) : tipN (lsD A P R S) = 1 := by kernel_rfl
theorem ls_new (A P R S : Option Addr) : newA (lsD A P R S) = lsA := by kernel_rfl
theorem ls_mE (A P R S : Option Addr) : moE (lsD A P R S) lsA 0 1 15 = 0 := by
 unfold moE
 rw [(isP_eq _ (ls_chk A P R S) 0).1, (isP_eq _ (ls_chk A P R S) 1).1, ls_well, if_pos ⟨by decide, by decide⟩, if_neg (by decide)]
 decide
theorem ls_mA : moA lsA 2 0 1 15 = lsM := by kernel_rfl
theorem ls_hd0 : hdF lsM 1 = (0, false) := by decide
theorem ls_hd1 : hdF lsT 1 = (0, true) := by decide
theorem ls_tE (A P R S : Option Addr) : taE (lsD A P R S) lsM 1 2 = 0 := by
 unfold taE
 rw [(isP_eq _ (ls_chk A P R S) 2).2, ls_well, ls_tip, if_pos (by decide), ls_hd0, if_neg (by decide)]
 decide
theorem ls_tA : taA lsM 1 2 = lsT := by kernel_rfl
theorem ls_r0 (A P R S : Option Addr) : rgS (lsD A P R S) lsA = true := by rw [← ls_new A P R S]; exact rg_new _ (ls_z A P R S)
theorem ls_r1 (A P R S : Option Addr) : rgS (lsD A P R S) lsM = true := by rw [← ls_mA]; exact rg_move (ls_r0 A P R S) (by decide) (by show (2 : Int) ≤ 2; decide) (ls_mE A P R S)
theorem ls_r2 (A P R S : Option Addr) : rgS (lsD A P R S) lsT = true := by rw [← ls_tA]; exact rg_take (ls_r1 A P R S) (by decide) (by show (1 : Int) ≤ 2; decide) (ls_tE A P R S)
end Go.Proofs.Ytacjonncakhhmaa
namespace Go.Proofs.Ytacjonncakhhmaa
open Go.RowKit
theorem cgE_ok {d : Dk} {a : Ab} {b' : Int} (E : Int) (h : rgS d a = true) (h1 : 1 ≤ b') (h2 : b' ≤ d.arms) : cgE d a b' E = E := by
 unfold cgE
 rw [if_pos h, if_pos ⟨h1, h2⟩]
theorem ls_cm (A P R S : Option Addr) : cgE (lsD A P R S) lsA 2 (moE (lsD A P R S) lsA 0 1 15) = 0 := by
 rw [cgE_ok _ (ls_r0 A P R S) (by decide) (by show (2 : Int) ≤ 2; decide)]
 exact ls_mE A P R S
theorem ls_ct (A P R S : Option Addr) : cgE (lsD A P R S) lsM 1 (taE (lsD A P R S) lsM 1 2) = 0 := by
 rw [cgE_ok _ (ls_r1 A P R S) (by decide) (by show (1 : Int) ≤ 2; decide)]
 exact ls_tE A P R S
theorem ls_lk (A P R S : Option Addr) : lkV (lsD A P R S) lsM 1 = (⟨100, 15, 1⟩, 0) := by
 unfold lkV
 rw [if_pos (ls_r1 A P R S), (isP_eq _ (ls_chk A P R S) 1).1, ls_well, if_pos (by decide)]
 rfl
theorem ls_ha (A P R S : Option Addr) : haV (lsD A P R S) lsT 1 = (2, true) := by
 unfold haV
 rw [if_pos (ls_r2 A P R S), ls_hd1, if_pos rfl]
 rfl
set_option maxRecDepth 100000 in
set_option maxHeartbeats 4000000 in
theorem ls_In (w : World) : (lsD (some ⟨w.heap.size, 0, none⟩) (some ⟨w.heap.size + 1 + 1, 0, none⟩) (some ⟨w.heap.size + 1 + 1 + 1, 0, none⟩) (some ⟨w.heap.size + 1, 0, none⟩)).In ((((w.alloc (.cells #[.float .f64 0, .float .f64 4621256167635550208] 70)).alloc (.cells #[.int .i64 40] 3)).alloc (.cells #[.int .i64 1, .int .i64 2, .float .f64 4607182418800017408, .float .f64 0, .float .f64 0, .int .i64 100, .slice (some ⟨w.heap.size + 1, 0, none⟩) 1 1] 72)).alloc (.cells #[.int .i64 1, .int .i64 1, .float .f64 4611686018427387904, .float .f64 0, .float .f64 0] 74)) (w.heap.size + 1 + 1 + 1 + 1) := by
 obtain ⟨H, hH⟩ : ∃ H, w.heap.size = H := ⟨_, rfl⟩
 rw [hH]
 have hA := Lk.IsL.lits (K := KF) w lsB #[.float .f64 0, .float .f64 4621256167635550208] (show ∀ x ∈ lsB, x < 18446744073709551616 by decide) rfl (by decide) H hH
 have hw2 : w.alloc (.cells #[.float .f64 0, .float .f64 4621256167635550208] KF.E) = w.alloc (.cells #[.float .f64 0, .float .f64 4621256167635550208] 70) := rfl
 rw [hw2] at hA
 clear hw2
 have hs2 : (w.alloc (.cells #[.float .f64 0, .float .f64 4621256167635550208] 70)).heap.size = H + 1 := by simp [hH]
 generalize w.alloc (.cells #[.float .f64 0, .float .f64 4621256167635550208] 70) = w2 at *
 have hS : KI.IsL (w2.alloc (.cells #[.int .i64 40] 3)) (H + 1 + 1) (.slice (some ⟨H + 1, 0, none⟩) 1 1) [40] := Lk.IsL.lits (K := KI) w2 [40] #[.int .i64 40] (by intro x hx; simp at hx; subst hx; show fits 40; decide) rfl (by decide) (H + 1) hs2
 have hb3 := Below.al (Below.refl w2.heap.size w2) (.cells #[.int .i64 40] 3)
 have hs3 : (w2.alloc (.cells #[.int .i64 40] 3)).heap.size = H + 1 + 1 := by simp [hs2]
 generalize w2.alloc (.cells #[.int .i64 40] 3) = w3 at *
 have hP : KP.IsL (w3.alloc (.cells #[.int .i64 1, .int .i64 2, .float .f64 4607182418800017408, .float .f64 0, .float .f64 0, .int .i64 100, .slice (some ⟨H + 1, 0, none⟩) 1 1] 72)) (H + 1 + 1 + 1) (.slice (some ⟨H + 1 + 1, 0, none⟩) 1 1) [lsP (some ⟨H + 1, 0, none⟩)] :=
  Lk.IsL.lits (K := KP) w3 [lsP (some ⟨H + 1, 0, none⟩)] #[.int .i64 1, .int .i64 2, .float .f64 4607182418800017408, .float .f64 0, .float .f64 0, .int .i64 100, .slice (some ⟨H + 1, 0, none⟩) 1 1] (by
   intro x hx
   simp at hx
   subst hx
   show fits 1 ∧ fits 2 ∧ (4607182418800017408 : Nat) < 18446744073709551616 ∧ (0 : Nat) < 18446744073709551616 ∧ (0 : Nat) < 18446744073709551616 ∧ fits 100
   decide) rfl (by simp) (H + 1 + 1) hs3
 have hb4 := Below.al (Below.refl w3.heap.size w3) (.cells #[.int .i64 1, .int .i64 2, .float .f64 4607182418800017408, .float .f64 0, .float .f64 0, .int .i64 100, .slice (some ⟨H + 1, 0, none⟩) 1 1] 72)
 have hs4 : (w3.alloc (.cells #[.int .i64 1, .int .i64 2, .float .f64 4607182418800017408, .float .f64 0, .float .f64 0, .int .i64 100, .slice (some ⟨H + 1, 0, none⟩) 1 1] 72)).heap.size = H + 1 + 1 + 1 := by simp [hs3]
 generalize w3.alloc (.cells #[.int .i64 1, .int .i64 2, .float .f64 4607182418800017408, .float .f64 0, .float .f64 0, .int .i64 100, .slice (some ⟨H + 1, 0, none⟩) 1 1] 72) = w4 at *
 have hR : KR.IsL (w4.alloc (.cells #[.int .i64 1, .int .i64 1, .float .f64 4611686018427387904, .float .f64 0, .float .f64 0] 74)) (H + 1 + 1 + 1 + 1) (.slice (some ⟨H + 1 + 1 + 1, 0, none⟩) 1 1) [lsR] :=
  Lk.IsL.lits (K := KR) w4 [lsR] #[.int .i64 1, .int .i64 1, .float .f64 4611686018427387904, .float .f64 0, .float .f64 0] (by
   intro x hx
   simp at hx
   subst hx
   show fits 1 ∧ fits 1 ∧ (4611686018427387904 : Nat) < 18446744073709551616 ∧ (0 : Nat) < 18446744073709551616 ∧ (0 : Nat) < 18446744073709551616
   decide) rfl (by simp) (H + 1 + 1 + 1) hs4
 have hb5 := Below.al (Below.refl w4.heap.size w4) (.cells #[.int .i64 1, .int .i64 1, .float .f64 4611686018427387904, .float .f64 0, .float .f64 0] 74)
 generalize w4.alloc (.cells #[.int .i64 1, .int .i64 1, .float .f64 4611686018427387904, .float .f64 0, .float .f64 0] 74) = w5 at *
 rw [hs4] at hb5
 rw [hs3] at hb4
 rw [hs2] at hb3
 refine ⟨(((hA.below hb3).more (by omega)).below (hb4.trans (hb5.mono (by omega))) : KF.IsL w5 (H + 1 + 1) _ _).more (by omega), ((hP.below hb5).more (by omega)), hR, fun q hq => ?_, (by show fits 2; decide)⟩
 have hq' : q = lsP (some ⟨H + 1, 0, none⟩) := by simpa [lsD] using hq
 subst hq'
 exact ((hS.below hb4).more (by omega : H + 1 + 1 ≤ H + 1 + 1 + 1)).below hb5 |>.more (by omega)
set_option maxRecDepth 100000 in
set_option maxHeartbeats 4000000 in
theorem lives13 (w : World) : Calls Try.prog 11 #[] w fun e w' => e = .returned (.bool true) ∧ Below w.heap.size w w' := by
 have hsf := fun (w : World) (a : Addr) (m : Mode) (b : Nat) => run_store_float (P := Try.prog) (w := w) (a := a) (m := m) .f64 b
 obtain ⟨w0, hw0⟩ : ∃ w0, w0 = (((((w.alloc (.cells #[.float .f64 0, .float .f64 4621256167635550208] 70)).alloc (.cells #[.int .i64 40] 3)).alloc (.cells #[.int .i64 1, .int .i64 2, .float .f64 4607182418800017408, .float .f64 0, .float .f64 0, .int .i64 100, .slice (some ⟨w.heap.size + 1, 0, none⟩) 1 1] 72)).alloc (.cells #[.int .i64 1, .int .i64 1, .float .f64 4611686018427387904, .float .f64 0, .float .f64 0] 74)).alloc (.cells #[.slice (some ⟨w.heap.size, 0, none⟩) 2 2, .slice (some ⟨w.heap.size + 1 + 1, 0, none⟩) 1 1, .slice (some ⟨w.heap.size + 1 + 1 + 1, 0, none⟩) 1 1, .int .i64 2] 26)) := ⟨_, rfl⟩
 have HB0 := Lib.hid (show Below w.heap.size w w0 by rw [hw0]; exact Below.al (Below.al (Below.al (Below.al (Below.al (Below.refl _ _) _) _) _) _) _)
 have HD0 := Lib.hid (show (lsD (some ⟨w.heap.size, 0, none⟩) (some ⟨w.heap.size + 1 + 1, 0, none⟩) (some ⟨w.heap.size + 1 + 1 + 1, 0, none⟩) (some ⟨w.heap.size + 1, 0, none⟩)).In w0 w0.heap.size by
  have h := ls_In w
  have hs : ((((w.alloc (.cells #[.float .f64 0, .float .f64 4621256167635550208] 70)).alloc (.cells #[.int .i64 40] 3)).alloc (.cells #[.int .i64 1, .int .i64 2, .float .f64 4607182418800017408, .float .f64 0, .float .f64 0, .int .i64 100, .slice (some ⟨w.heap.size + 1, 0, none⟩) 1 1] 72)).alloc (.cells #[.int .i64 1, .int .i64 1, .float .f64 4611686018427387904, .float .f64 0, .float .f64 0] 74)).heap.size = w.heap.size + 1 + 1 + 1 + 1 := by simp
  rw [← hs] at h
  rw [hw0]
  exact h.then (Below.al (Below.refl _ _) _))
 have HF := Lib.hid (show Cells4 w0 (w.heap.size + 1 + 1 + 1 + 1) (.slice (some ⟨w.heap.size, 0, none⟩) 2 2) (.slice (some ⟨w.heap.size + 1 + 1, 0, none⟩) 1 1) (.slice (some ⟨w.heap.size + 1 + 1 + 1, 0, none⟩) 1 1) (.int .i64 2) from by
  have hs : ((((w.alloc (.cells #[.float .f64 0, .float .f64 4621256167635550208] 70)).alloc (.cells #[.int .i64 40] 3)).alloc (.cells #[.int .i64 1, .int .i64 2, .float .f64 4607182418800017408, .float .f64 0, .float .f64 0, .int .i64 100, .slice (some ⟨w.heap.size + 1, 0, none⟩) 1 1] 72)).alloc (.cells #[.int .i64 1, .int .i64 1, .float .f64 4611686018427387904, .float .f64 0, .float .f64 0] 74)).heap.size = w.heap.size + 1 + 1 + 1 + 1 := by simp
  rw [hw0, ← hs]
  exact Cells4.new ((((w.alloc (.cells #[.float .f64 0, .float .f64 4621256167635550208] 70)).alloc (.cells #[.int .i64 40] 3)).alloc (.cells #[.int .i64 1, .int .i64 2, .float .f64 4607182418800017408, .float .f64 0, .float .f64 0, .int .i64 100, .slice (some ⟨w.heap.size + 1, 0, none⟩) 1 1] 72)).alloc (.cells #[.int .i64 1, .int .i64 1, .float .f64 4611686018427387904, .float .f64 0, .float .f64 0] 74)) 26 _ _ _ _)
 obtain ⟨A, hA⟩ : ∃ A, A = some (⟨w.heap.size, 0, none⟩ : Addr) := ⟨_, rfl⟩
 obtain ⟨P, hP⟩ : ∃ P, P = some (⟨w.heap.size + 1 + 1, 0, none⟩ : Addr) := ⟨_, rfl⟩
 obtain ⟨R, hR⟩ : ∃ R, R = some (⟨w.heap.size + 1 + 1 + 1, 0, none⟩ : Addr) := ⟨_, rfl⟩
 obtain ⟨S, hS⟩ : ∃ S, S = some (⟨w.heap.size + 1, 0, none⟩ : Addr) := ⟨_, rfl⟩
 rw [← hA, ← hP, ← hR] at HF
 rw [← hA, ← hP, ← hR, ← hS] at HD0
 obtain ⟨Db, hDb⟩ : ∃ Db, Db = w.heap.size + 1 + 1 + 1 + 1 := ⟨_, rfl⟩
 rw [← hDb] at HF
 have C1 := Lib.hid (fun (V : World) (h : Below w0.heap.size w0 V) => show Calls Try.prog 12 #[.agg #[.slice A 2 2, .slice P 1 1, .slice R 1 1, .int .i64 2]] V fun e w' => ∃ s : Stk, e = .returned (.tuple #[s.v, .int .i64 0]) ∧ s.In w' w'.heap.size ∧ s.ab = lsA ∧ Below V.heap.size V w' by
  have := new_any (lsD A P R S) V (HD0.out.then h)
  rw [ls_z, if_pos rfl, ls_new] at this
  exact this)
 have C2 := Lib.hid (fun (s : Stk) (ha : s.ab = lsA) (V : World) (h : Below w0.heap.size w0 V) (hs : s.In V V.heap.size) => show Calls Try.prog 43 #[.agg #[.slice A 2 2, .slice P 1 1, .slice R 1 1, .int .i64 2], s.v, .int .i64 2, .int .i64 0, .int .i64 1, .int .i64 15] V fun e w' => ∃ t : Stk, e = .returned (.tuple #[t.v, .int .i64 0]) ∧ t.In w' w'.heap.size ∧ t.ab = lsM ∧ Below V.heap.size V w' by
  have := move_any (lsD A P R S) s 2 0 1 15 V (HD0.out.then h) hs (by decide) (by decide) (by decide)
  rw [ha, ls_cm, if_pos rfl, ls_mA] at this
  exact this)
 have C3 := Lib.hid (fun (s : Stk) (ha : s.ab = lsM) (V : World) (hs : s.In V V.heap.size) => show Calls Try.prog 21 #[s.v] V fun e w' => e = .returned (.tuple #[.int .i64 40, .int .i64 0]) ∧ Below V.heap.size V w' by
  have hc : s.cl = lsM.c := congrArg Ab.c ha
  have := total_any s V hs (by rw [hc]; decide)
  rw [hc] at this
  exact this)
 have C4 := Lib.hid (fun (s : Stk) (ha : s.ab = lsM) (V : World) (h : Below w0.heap.size w0 V) (hs : s.In V V.heap.size) => show Calls Try.prog 17 #[.agg #[.slice A 2 2, .slice P 1 1, .slice R 1 1, .int .i64 2], s.v, .int .i64 1] V fun e w' => e = .returned (.tuple #[.agg #[.int .i64 100, .int .i64 15, .int .i64 1], .int .i64 0]) ∧ Below V.heap.size V w' by
  have := look_any (lsD A P R S) s 1 V (HD0.out.then h) hs (by decide)
  rw [ha, ls_lk] at this
  exact this)
 have C5 := Lib.hid (fun (s : Stk) (ha : s.ab = lsM) (V : World) (h : Below w0.heap.size w0 V) (hs : s.In V V.heap.size) => show Calls Try.prog 44 #[.agg #[.slice A 2 2, .slice P 1 1, .slice R 1 1, .int .i64 2], s.v, .int .i64 1, .int .i64 2] V fun e w' => ∃ t : Stk, e = .returned (.tuple #[t.v, .int .i64 0]) ∧ t.In w' w'.heap.size ∧ t.ab = lsT ∧ Below V.heap.size V w' by
  have := take_any (lsD A P R S) s 1 2 V (HD0.out.then h) hs (by decide)
  rw [ha, ls_ct, if_pos rfl, ls_tA] at this
  exact this)
 have C6 := Lib.hid (fun (s : Stk) (ha : s.ab = lsT) (V : World) (h : Below w0.heap.size w0 V) (hs : s.In V V.heap.size) => show Calls Try.prog 19 #[.agg #[.slice A 2 2, .slice P 1 1, .slice R 1 1, .int .i64 2], s.v, .int .i64 1] V fun e w' => e = .returned (.tuple #[.int .i64 2, .bool true]) ∧ Below V.heap.size V w' by
  have := hand_any (lsD A P R S) s 1 V (HD0.out.then h) hs
  rw [ha, ls_ha] at this
  exact this)
 have C7 := Lib.hid (fun (s : Stk) (ha : s.ab = lsT) (V : World) (h : Below w0.heap.size w0 V) (hs : s.In V V.heap.size) => show Calls Try.prog 15 #[.agg #[.slice A 2 2, .slice P 1 1, .slice R 1 1, .int .i64 2], s.v] V fun e w' => e = .returned (.bool true) ∧ Below V.heap.size V w' by
  have := right_s (lsD A P R S) s V (HD0.out.then h) hs
  rw [ha, ls_r2] at this
  exact this)
 clear hS
 go_enter Try.func11, Try.ntmps11
 go_wp2_with fail
 rw [← hw0, ← hA, ← hP, ← hR]
 try rw [← hDb]
 --CUT1
 clear hw0 hA hP hR hDb
 refine (C1.out w0 (Below.refl _ _)).mono ?_
 rintro e w1 ⟨s, rfl, hi1, ha1, hb1⟩
 obtain ⟨v1, hv1⟩ : ∃ v1, v1 = w1.alloc (.cells #[.slice s.cA s.cl.length s.cc, .slice s.lA s.ll.length s.lc, .slice s.tA s.tl.length s.tc, .int .i64 s.st, .int .i64 s.inn, .int .i64 s.out] 33) := ⟨_, rfl⟩
 have hba := Below.al (Below.refl w1.heap.size w1) (.cells #[.slice s.cA s.cl.length s.cc, .slice s.lA s.ll.length s.lc, .slice s.tA s.tl.length s.tc, .int .i64 s.st, .int .i64 s.inn, .int .i64 s.out] 33)
 rw [← hv1] at hba
 have HB1 := Lib.hid (show Below w0.heap.size w0 v1 from Below.call hb1 hba)
 have HI1 := Lib.hid (hi1.then hba)
 have HS1 := Lib.hid (show SkAt v1 w1.heap.size s by rw [hv1]; exact Cells6.new w1 _ _ _ _ _ _ _)
 have HA1 := Lib.hid ha1
 clear hi1 ha1 hb1 hba
 obtain ⟨d0, d1, d2, d3, -⟩ := HF.out.below HB1.out
 obtain ⟨a0, a1, a2, a3, a4, a5, -⟩ := HS1.out
 rw [hv1] at d0 d1 d2 d3 a0 a1 a2 a3 a4 a5
 go_wp2_with fail
 --CUT2
 rw [← hv1]
 clear hv1 d0 d1 d2 d3 a0 a1 a2 a3 a4 a5
 generalize w1.heap.size = G1 at *
 refine (C2.out s HA1.out v1 HB1.out HI1.out).mono ?_
 rintro e w2 ⟨t, rfl, hi2, ha2, hb2⟩
 obtain ⟨v2, hv2⟩ : ∃ v2, v2 = w2.alloc (.cells #[.slice t.cA t.cl.length t.cc, .slice t.lA t.ll.length t.lc, .slice t.tA t.tl.length t.tc, .int .i64 t.st, .int .i64 t.inn, .int .i64 t.out] 33) := ⟨_, rfl⟩
 have hba := Below.al (Below.refl w2.heap.size w2) (.cells #[.slice t.cA t.cl.length t.cc, .slice t.lA t.ll.length t.lc, .slice t.tA t.tl.length t.tc, .int .i64 t.st, .int .i64 t.inn, .int .i64 t.out] 33)
 rw [← hv2] at hba
 have HB2 := Lib.hid (show Below w0.heap.size w0 v2 from Below.call HB1.out (Below.call hb2 hba))
 have HI2 := Lib.hid (hi2.then hba)
 have HS2 := Lib.hid (show SkAt v2 w2.heap.size t by rw [hv2]; exact Cells6.new w2 _ _ _ _ _ _ _)
 have HA2 := Lib.hid ha2
 clear hi2 ha2 hb2 hba HI1 HS1 HB1
 obtain ⟨a0, a1, a2, a3, a4, a5, -⟩ := HS2.out
 rw [hv2] at a0 a1 a2 a3 a4 a5
 go_wp2_with fail
 --CUT3
 rw [← hv2]
 clear hv2 a0 a1 a2 a3 a4 a5
 generalize w2.heap.size = G2 at *
 refine (C3.out t HA2.out v2 HI2.out).mono ?_
 rintro e w3 ⟨rfl, hb3⟩
 have HB3 := Lib.hid (Below.call HB2.out hb3)
 have HI3 := Lib.hid (HI2.out.then hb3)
 have HS3 := Lib.hid (HS2.out.below hb3)
 clear hb3 HI2 HS2 HB2
 obtain ⟨d0, d1, d2, d3, -⟩ := HF.out.below HB3.out
 obtain ⟨a0, a1, a2, a3, a4, a5, -⟩ := HS3.out
 go_wp2_with fail
 --CUT4
 clear d0 d1 d2 d3 a0 a1 a2 a3 a4 a5
 refine (C4.out t HA2.out w3 HB3.out HI3.out).mono ?_
 rintro e w4 ⟨rfl, hb4⟩
 obtain ⟨v4, hv4⟩ : ∃ v4, v4 = w4.alloc (.cells #[.int .i64 100, .int .i64 15, .int .i64 1] 41) := ⟨_, rfl⟩
 have hba := Below.al hb4 (.cells #[.int .i64 100, .int .i64 15, .int .i64 1] 41)
 rw [← hv4] at hba
 have HB4 := Lib.hid (Below.call HB3.out hba)
 have HI4 := Lib.hid (HI3.out.then hba)
 have HS4 := Lib.hid (HS3.out.below hba)
 have HC4 := Lib.hid (show Cells3 v4 w4.heap.size (.int .i64 100) (.int .i64 15) (.int .i64 1) by rw [hv4]; exact Cells3.new w4 _ _ _ _)
 clear hb4 hba HI3 HS3 HB3
 obtain ⟨d0, d1, d2, d3, -⟩ := HF.out.below HB4.out
 obtain ⟨a0, a1, a2, a3, a4, a5, -⟩ := HS4.out
 rw [hv4] at d0 d1 d2 d3 a0 a1 a2 a3 a4 a5
 go_wp2_with fail
 --CUT5
 rw [← hv4]
 clear hv4 d0 d1 d2 d3 a0 a1 a2 a3 a4 a5
 generalize w4.heap.size = G4 at *
 refine (C5.out t HA2.out v4 HB4.out HI4.out).mono ?_
 rintro e w5 ⟨u, rfl, hi5, ha5, hb5⟩
 obtain ⟨v5, hv5⟩ : ∃ v5, v5 = w5.alloc (.cells #[.slice u.cA u.cl.length u.cc, .slice u.lA u.ll.length u.lc, .slice u.tA u.tl.length u.tc, .int .i64 u.st, .int .i64 u.inn, .int .i64 u.out] 33) := ⟨_, rfl⟩
 have hba := Below.al (Below.refl w5.heap.size w5) (.cells #[.slice u.cA u.cl.length u.cc, .slice u.lA u.ll.length u.lc, .slice u.tA u.tl.length u.tc, .int .i64 u.st, .int .i64 u.inn, .int .i64 u.out] 33)
 rw [← hv5] at hba
 have HB5 := Lib.hid (show Below w0.heap.size w0 v5 from Below.call HB4.out (Below.call hb5 hba))
 have HI5 := Lib.hid (hi5.then hba)
 have HS5 := Lib.hid (show SkAt v5 w5.heap.size u by rw [hv5]; exact Cells6.new w5 _ _ _ _ _ _ _)
 have HC5 := Lib.hid (HC4.out.below (Below.call hb5 hba))
 have HA5 := Lib.hid ha5
 clear hi5 ha5 hb5 hba HI4 HS4 HB4 HC4
 obtain ⟨d0, d1, d2, d3, -⟩ := HF.out.below HB5.out
 obtain ⟨a0, a1, a2, a3, a4, a5, -⟩ := HS5.out
 rw [hv5] at d0 d1 d2 d3 a0 a1 a2 a3 a4 a5
 go_wp2_with fail
 --CUT6
 rw [← hv5]
 clear hv5 d0 d1 d2 d3 a0 a1 a2 a3 a4 a5
 generalize w5.heap.size = G5 at *
 refine (C6.out u HA5.out v5 HB5.out HI5.out).mono ?_
 rintro e w6 ⟨rfl, hb6⟩
 have HB6 := Lib.hid (Below.call HB5.out hb6)
 have HI6 := Lib.hid (HI5.out.then hb6)
 have HS6 := Lib.hid (HS5.out.below hb6)
 have HC6 := Lib.hid (HC5.out.below hb6)
 clear hb6 HI5 HS5 HB5 HC5
 obtain ⟨d0, d1, d2, d3, -⟩ := HF.out.below HB6.out
 obtain ⟨a0, a1, a2, a3, a4, a5, -⟩ := HS6.out
 obtain ⟨c0, c1, c2, -⟩ := HC6.out
 go_wp2_with fail
 --CUT7
 refine (C7.out u HA5.out w6 HB6.out HI6.out).mono ?_
 rintro e w7 ⟨rfl, hb7⟩
 have HB7 := Lib.hid (Below.call HB0.out (Below.call HB6.out hb7))
 clear hb7 d0 d1 d2 d3 a0 a1 a2 a3 a4 a5 c0 c1 c2
 go_wp2
 go_ret
 exact ⟨rfl, HB7.out⟩
end Go.Proofs.Ytacjonncakhhmaa
namespace Go.Proofs.Ytacjonncakhhmaa
open Go.RowKit
/-- Is a stock too large to be looked at? -/
def laB (a : Ab) : Bool := decide (400 < a.c.length) || decide (400 < a.l.length) || decide (400 < a.t.length) || a.l.any (fun q => decide (100 < q.2.2.length))
theorem la_no {a : Ab} (h : laB a = false) : a.c.length ≤ 400 ∧ a.l.length ≤ 400 ∧ a.t.length ≤ 400 ∧ ∀ q ∈ a.l, q.2.2.length ≤ 100 := by
 unfold laB at h
 rw [Bool.or_eq_false_iff, Bool.or_eq_false_iff, Bool.or_eq_false_iff, decide_eq_false_iff_not, decide_eq_false_iff_not, decide_eq_false_iff_not, List.any_eq_false] at h
 refine ⟨by omega, by omega, by omega, fun q hq => ?_⟩
 have := h.2 q hq
 simp only [decide_eq_true_eq] at this
 omega
set_option maxRecDepth 100000 in
set_option maxHeartbeats 4000000 in
theorem large_s (s : Stk) (w : World) (hs : s.In w w.heap.size) : Calls Try.prog 16 #[s.v] w fun e w' => e = .returned (.bool (laB s.ab)) ∧ Below w.heap.size w w' := by
 obtain ⟨w0, hw0⟩ : ∃ w0, w0 = w.alloc (.cells #[.slice s.cA s.cl.length s.cc, .slice s.lA s.ll.length s.lc, .slice s.tA s.tl.length s.tc, .int .i64 s.st, .int .i64 s.inn, .int .i64 s.out] 33) := ⟨_, rfl⟩
 have HB0 := Lib.hid (show Below w.heap.size w w0 by rw [hw0]; exact Below.al (Below.refl _ _) _)
 have HL := Lib.hid (hs.l.then HB0.out)
 have HS0 := Lib.hid (show SkAt w0 w.heap.size s by rw [hw0]; exact Cells6.new w _ _ _ _ _ _ _)
 have hl9 := hs.l.2.2
 have hl8 := hs.c.2.2
 have hl7 := hs.t.2.2
 have HV := Lib.hid (show laB s.ab = (decide (400 < s.cl.length) || decide (400 < s.ll.length) || decide (400 < s.tl.length) || s.ll.any (fun q => decide (100 < q.xs.length))) from by
  unfold laB
  show (decide (400 < s.cl.length) || decide (400 < (s.ll.map Lo.ab).length) || decide (400 < s.tl.length) || (s.ll.map Lo.ab).any _) = _
  rw [List.length_map, List.any_map]
  rfl)
 clear hs
 generalize laB s.ab = R at *
 obtain ⟨cA, cc, cl, lA, lc, ll, tA, tc, tl, st, inn, out⟩ := s
 dsimp only at *
 obtain ⟨g0, g1, g2, -⟩ := HS0.out
 dsimp only at g0 g1 g2
 have HYES := Lib.hid (fun k h1 h2 => any_yes ll lo0 (fun q => decide (100 < q.xs.length)) k h1 h2)
 have HNON := Lib.hid (show (∀ j, j < ll.length → ¬ 100 < (ll.getD j lo0).xs.length) → ll.any (fun q => decide (100 < q.xs.length)) = false from fun h => by
  rw [List.any_eq_false]
  intro q hq
  obtain ⟨j, hj, rfl⟩ := List.getElem_of_mem hq
  have := h j hj
  rw [List.getD_eq_getElem?_getD, List.getElem?_eq_getElem hj] at this
  simpa using this)
 by_cases h1 : 400 < cl.length
 ·have HR := Lib.hid (show R = true by rw [HV.out, decide_eq_true h1]; rfl)
  go_enter Try.func16, Try.ntmps16
  go_wp2
  go_ret
  exact ⟨by rw [HR.out]; rfl, by rw [← hw0]; exact HB0.out⟩
 by_cases h2 : 400 < ll.length
 ·have HR := Lib.hid (show R = true by rw [HV.out, decide_eq_true h2]; simp)
  go_enter Try.func16, Try.ntmps16
  go_wp2
  go_ret
  exact ⟨by rw [HR.out]; rfl, by rw [← hw0]; exact HB0.out⟩
 by_cases h3 : 400 < tl.length
 ·have HR := Lib.hid (show R = true by rw [HV.out, decide_eq_true h3]; simp)
  go_enter Try.func16, Try.ntmps16
  go_wp2
  go_ret
  exact ⟨by rw [HR.out]; rfl, by rw [← hw0]; exact HB0.out⟩
 rw [decide_eq_false h1, decide_eq_false h2, decide_eq_false h3] at HV
 have hi1 : ¬ (400 : Int) < cl.length := by omega
 have hi2 : ¬ (400 : Int) < ll.length := by omega
 have hi3 : ¬ (400 : Int) < tl.length := by omega
 clear h1 h2 h3
 go_enter Try.func16, Try.ntmps16
 go_wp2_with fail
 rw [← hw0]
 clear hw0
 go_loopw [3] (fun i wr => ∃ k : Nat, k ≤ ll.length ∧ i = .int .i64 k ∧ Hid (∀ j, j < k → ¬ 100 < (ll.getD j lo0).xs.length) ∧ wr = w0) (fun i _ => ll.length - (intOf i).toNat)
 case atStart => exact ⟨0, Nat.zero_le _, rfl, Lib.hid (fun j hj => absurd hj (Nat.not_lt_zero _)), rfl⟩
 case round =>
  obtain ⟨k, hk, rfl, hno, rfl⟩ := hrel
  have HNO := Lib.hid hno.out
  clear hno
  by_cases hlt : k < ll.length
  ·obtain ⟨b, off, rfl, hb, hbc, hcell⟩ := lo_cells HL.out (by omega)
   obtain ⟨e1, e2, e3⟩ := hcell k hlt
   have HYk := Lib.hid (HYES.out k hlt)
   have HNk := Lib.hid (show ¬ 100 < (ll.getD k lo0).xs.length → ∀ j, j < k + 1 → ¬ 100 < (ll.getD j lo0).xs.length from fun h j hj => by
    by_cases e : j = k
    ·rw [e]; exact h
    ·exact HNO.out j (by omega))
   have hxl : (ll.getD k lo0).xs.length ≤ 9223372036854775807 ∨ True := .inr trivial
   clear hcell e1 e2 hxl
   obtain ⟨n, hn⟩ : ∃ n, (ll.getD k lo0).xs.length = n := ⟨_, rfl⟩
   rw [hn] at e3 HYk HNk
   generalize (ll.getD k lo0).A = qA at *
   generalize (ll.getD k lo0).c = qc at *
   clear hn
   by_cases h1 : 100 < n
   ·have HR := Lib.hid (show R = true by rw [HV.out, HYk.out (decide_eq_true h1)]; rfl)
    have h1i : (100 : Int) < n := by omega
    clear h1
    go_wp2
    go_ret
    exact ⟨by rw [HR.out]; rfl, HB0.out⟩
   ·have HNX := Lib.hid (HNk.out h1)
    have h1i : ¬ (100 : Int) < n := by omega
    clear h1
    go_wp2
    go_roundw
    case rel => exact ⟨k + 1, by omega, num_i (by omega), Lib.hid HNX.out, by trivial⟩
    case measure => simp [intOf]; omega
  ·obtain rfl : k = ll.length := by omega
   have HR := Lib.hid (show R = false by rw [HV.out, HNON.out HNO.out]; rfl)
   go_wp2
   go_ret
   exact ⟨by rw [HR.out]; rfl, HB0.out⟩
end Go.Proofs.Ytacjonncakhhmaa

/- Stocks: what must come of every program. -/
import Derived.Test.YtacjonncakhhmaaGreatPz42
namespace Go.Proofs.YtacjonncakhhmaaGreat
open Go.RowKit
theorem cgE_ok {d : Dk} {a : Ab} {b' : Int} (E : Int) (h : rgS d a = true) (h1 : 1 ≤ b') (h2 : b' ≤ d.arms) : cgE d a b' E = E := by
 unfold cgE
 rw [if_pos h, if_pos ⟨h1, h2⟩]
theorem ls_cm (A P R S : Option Addr) : cgE (lsD A P R S) lsA 2 (moE (lsD A P R S) lsA 0 1 15) = 0 := by
 rw [cgE_ok _ (ls_r0 A P R S) (by decide) (by show (2 : Int) ≤ 2; decide)]
 exact ls_mE A P R S
theorem ls_ct (A P R S : Option Addr) : cgE (lsD A P R S) lsM 1 (taE (lsD A P R S) lsM 1 2) = 0 := by
 rw [cgE_ok _ (ls_r1 A P R S) (by decide) (by show (1 : Int) ≤ 2; decide)]
 exact ls_tE A P R S
theorem ls_lk (A P R S : Option Addr) : lkV (lsD A P R S) lsM 1 = (⟨100, 15, 1⟩, 0) := by
 unfold lkV
 rw [if_pos (ls_r1 A P R S), (isP_eq _ (ls_chk A P R S) 1).1, ls_well, if_pos (by decide)]
 rfl
theorem ls_ha (A P R S : Option Addr) : haV (lsD A P R S) lsT 1 = (2, true) := by
 unfold haV
 rw [if_pos (ls_r2 A P R S), ls_hd1, if_pos rfl]
 rfl
set_option maxRecDepth 100000 in
set_option maxHeartbeats 4000000 in
theorem ls_In (w : World) : (lsD (some ⟨w.heap.size, 0, none⟩) (some ⟨w.heap.size + 1 + 1, 0, none⟩) (some ⟨w.heap.size + 1 + 1 + 1, 0, none⟩) (some ⟨w.heap.size + 1, 0, none⟩)).In ((((w.alloc (.cells #[.float .f64 0, .float .f64 4621256167635550208] 44)).alloc (.cells #[.int .i64 40] 3)).alloc (.cells #[.int .i64 1, .int .i64 2, .float .f64 4607182418800017408, .float .f64 0, .float .f64 0, .int .i64 100, .slice (some ⟨w.heap.size + 1, 0, none⟩) 1 1] 47)).alloc (.cells #[.int .i64 1, .int .i64 1, .float .f64 4611686018427387904, .float .f64 0, .float .f64 0] 52)) (w.heap.size + 1 + 1 + 1 + 1) := by
 obtain ⟨H, hH⟩ : ∃ H, w.heap.size = H := ⟨_, rfl⟩
 rw [hH]
 have hA := Lk.IsL.lits (K := KF) w lsB #[.float .f64 0, .float .f64 4621256167635550208] (show ∀ x ∈ lsB, x < 18446744073709551616 by decide) rfl (by decide) H hH
 have hw2 : w.alloc (.cells #[.float .f64 0, .float .f64 4621256167635550208] KF.E) = w.alloc (.cells #[.float .f64 0, .float .f64 4621256167635550208] 44) := rfl
 rw [hw2] at hA
 clear hw2
 have hs2 : (w.alloc (.cells #[.float .f64 0, .float .f64 4621256167635550208] 44)).heap.size = H + 1 := by simp [hH]
 generalize w.alloc (.cells #[.float .f64 0, .float .f64 4621256167635550208] 44) = w2 at *
 have hS : KI.IsL (w2.alloc (.cells #[.int .i64 40] 3)) (H + 1 + 1) (.slice (some ⟨H + 1, 0, none⟩) 1 1) [40] := Lk.IsL.lits (K := KI) w2 [40] #[.int .i64 40] (by intro x hx; simp at hx; subst hx; show fits 40; decide) rfl (by decide) (H + 1) hs2
 have hb3 := Below.al (Below.refl w2.heap.size w2) (.cells #[.int .i64 40] 3)
 have hs3 : (w2.alloc (.cells #[.int .i64 40] 3)).heap.size = H + 1 + 1 := by simp [hs2]
 generalize w2.alloc (.cells #[.int .i64 40] 3) = w3 at *
 have hP : KP.IsL (w3.alloc (.cells #[.int .i64 1, .int .i64 2, .float .f64 4607182418800017408, .float .f64 0, .float .f64 0, .int .i64 100, .slice (some ⟨H + 1, 0, none⟩) 1 1] 47)) (H + 1 + 1 + 1) (.slice (some ⟨H + 1 + 1, 0, none⟩) 1 1) [lsP (some ⟨H + 1, 0, none⟩)] :=
  Lk.IsL.lits (K := KP) w3 [lsP (some ⟨H + 1, 0, none⟩)] #[.int .i64 1, .int .i64 2, .float .f64 4607182418800017408, .float .f64 0, .float .f64 0, .int .i64 100, .slice (some ⟨H + 1, 0, none⟩) 1 1] (by
   intro x hx
   simp at hx
   subst hx
   show fits 1 ∧ fits 2 ∧ (4607182418800017408 : Nat) < 18446744073709551616 ∧ (0 : Nat) < 18446744073709551616 ∧ (0 : Nat) < 18446744073709551616 ∧ fits 100
   decide) rfl (by simp) (H + 1 + 1) hs3
 have hb4 := Below.al (Below.refl w3.heap.size w3) (.cells #[.int .i64 1, .int .i64 2, .float .f64 4607182418800017408, .float .f64 0, .float .f64 0, .int .i64 100, .slice (some ⟨H + 1, 0, none⟩) 1 1] 47)
 have hs4 : (w3.alloc (.cells #[.int .i64 1, .int .i64 2, .float .f64 4607182418800017408, .float .f64 0, .float .f64 0, .int .i64 100, .slice (some ⟨H + 1, 0, none⟩) 1 1] 47)).heap.size = H + 1 + 1 + 1 := by simp [hs3]
 generalize w3.alloc (.cells #[.int .i64 1, .int .i64 2, .float .f64 4607182418800017408, .float .f64 0, .float .f64 0, .int .i64 100, .slice (some ⟨H + 1, 0, none⟩) 1 1] 47) = w4 at *
 have hR : KR.IsL (w4.alloc (.cells #[.int .i64 1, .int .i64 1, .float .f64 4611686018427387904, .float .f64 0, .float .f64 0] 52)) (H + 1 + 1 + 1 + 1) (.slice (some ⟨H + 1 + 1 + 1, 0, none⟩) 1 1) [lsR] :=
  Lk.IsL.lits (K := KR) w4 [lsR] #[.int .i64 1, .int .i64 1, .float .f64 4611686018427387904, .float .f64 0, .float .f64 0] (by
   intro x hx
   simp at hx
   subst hx
   show fits 1 ∧ fits 1 ∧ (4611686018427387904 : Nat) < 18446744073709551616 ∧ (0 : Nat) < 18446744073709551616 ∧ (0 : Nat) < 18446744073709551616
   decide) rfl (by simp) (H + 1 + 1 + 1) hs4
 have hb5 := Below.al (Below.refl w4.heap.size w4) (.cells #[.int .i64 1, .int .i64 1, .float .f64 4611686018427387904, .float .f64 0, .float .f64 0] 52)
 generalize w4.alloc (.cells #[.int .i64 1, .int .i64 1, .float .f64 4611686018427387904, .float .f64 0, .float .f64 0] 52) = w5 at *
 rw [hs4] at hb5
 rw [hs3] at hb4
 rw [hs2] at hb3
 refine ⟨(((hA.below hb3).more (by omega)).below (hb4.trans (hb5.mono (by omega))) : KF.IsL w5 (H + 1 + 1) _ _).more (by omega), ((hP.below hb5).more (by omega)), hR, fun q hq => ?_, (by show fits 2; decide)⟩
 have hq' : q = lsP (some ⟨H + 1, 0, none⟩) := by simpa [lsD] using hq
 subst hq'
 exact ((hS.below hb4).more (by omega : H + 1 + 1 ≤ H + 1 + 1 + 1)).below hb5 |>.more (by omega)
set_option maxRecDepth 100000 in
set_option maxHeartbeats 4000000 in
theorem lives13 (w : World) : Calls Tryz.prog 6 #[] w fun e w' => e = .returned (.bool true) ∧ Below w.heap.size w w' := by
 have hsf := fun (w : World) (a : Addr) (m : Mode) (b : Nat) => run_store_float (P := Tryz.prog) (w := w) (a := a) (m := m) .f64 b
 obtain ⟨w0, hw0⟩ : ∃ w0, w0 = (((((w.alloc (.cells #[.float .f64 0, .float .f64 4621256167635550208] 44)).alloc (.cells #[.int .i64 40] 3)).alloc (.cells #[.int .i64 1, .int .i64 2, .float .f64 4607182418800017408, .float .f64 0, .float .f64 0, .int .i64 100, .slice (some ⟨w.heap.size + 1, 0, none⟩) 1 1] 47)).alloc (.cells #[.int .i64 1, .int .i64 1, .float .f64 4611686018427387904, .float .f64 0, .float .f64 0] 52)).alloc (.cells #[.slice (some ⟨w.heap.size, 0, none⟩) 2 2, .slice (some ⟨w.heap.size + 1 + 1, 0, none⟩) 1 1, .slice (some ⟨w.heap.size + 1 + 1 + 1, 0, none⟩) 1 1, .int .i64 2] 26)) := ⟨_, rfl⟩
 have HB0 := Lib.hid (show Below w.heap.size w w0 by rw [hw0]; exact Below.al (Below.al (Below.al (Below.al (Below.al (Below.refl _ _) _) _) _) _) _)
 have HD0 := Lib.hid (show (lsD (some ⟨w.heap.size, 0, none⟩) (some ⟨w.heap.size + 1 + 1, 0, none⟩) (some ⟨w.heap.size + 1 + 1 + 1, 0, none⟩) (some ⟨w.heap.size + 1, 0, none⟩)).In w0 w0.heap.size by
  have h := ls_In w
  have hs : ((((w.alloc (.cells #[.float .f64 0, .float .f64 4621256167635550208] 44)).alloc (.cells #[.int .i64 40] 3)).alloc (.cells #[.int .i64 1, .int .i64 2, .float .f64 4607182418800017408, .float .f64 0, .float .f64 0, .int .i64 100, .slice (some ⟨w.heap.size + 1, 0, none⟩) 1 1] 47)).alloc (.cells #[.int .i64 1, .int .i64 1, .float .f64 4611686018427387904, .float .f64 0, .float .f64 0] 52)).heap.size = w.heap.size + 1 + 1 + 1 + 1 := by simp
  rw [← hs] at h
  rw [hw0]
  exact h.then (Below.al (Below.refl _ _) _))
 have HF := Lib.hid (show Cells4 w0 (w.heap.size + 1 + 1 + 1 + 1) (.slice (some ⟨w.heap.size, 0, none⟩) 2 2) (.slice (some ⟨w.heap.size + 1 + 1, 0, none⟩) 1 1) (.slice (some ⟨w.heap.size + 1 + 1 + 1, 0, none⟩) 1 1) (.int .i64 2) from by
  have hs : ((((w.alloc (.cells #[.float .f64 0, .float .f64 4621256167635550208] 44)).alloc (.cells #[.int .i64 40] 3)).alloc (.cells #[.int .i64 1, .int .i64 2, .float .f64 4607182418800017408, .float .f64 0, .float .f64 0, .int .i64 100, .slice (some ⟨w.heap.size + 1, 0, none⟩) 1 1] 47)).alloc (.cells #[.int .i64 1, .int .i64 1, .float .f64 4611686018427387904, .float .f64 0, .float .f64 0] 52)).heap.size = w.heap.size + 1 + 1 + 1 + 1 := by simp
  rw [hw0, ← hs]
  exact Cells4.new ((((w.alloc (.cells #[.float .f64 0, .float .f64 4621256167635550208] 44)).alloc (.cells #[.int .i64 40] 3)).alloc (.cells #[.int .i64 1, .int .i64 2, .float .f64 4607182418800017408, .float .f64 0, .float .f64 0, .int .i64 100, .slice (some ⟨w.heap.size + 1, 0, none⟩) 1 1] 47)).alloc (.cells #[.int .i64 1, .int .i64 1, .float .f64 4611686018427387904, .float .f64 0, .float .f64 0] 52)) 26 _ _ _ _)
 obtain ⟨A, hA⟩ : ∃ A, A = some (⟨w.heap.size, 0, none⟩ : Addr) := ⟨_, rfl⟩
 obtain ⟨P, hP⟩ : ∃ P, P = some (⟨w.heap.size + 1 + 1, 0, none⟩ : Addr) := ⟨_, rfl⟩
 obtain ⟨R, hR⟩ : ∃ R, R = some (⟨w.heap.size + 1 + 1 + 1, 0, none⟩ : Addr) := ⟨_, rfl⟩
 obtain ⟨S, hS⟩ : ∃ S, S = some (⟨w.heap.size + 1, 0, none⟩ : Addr) := ⟨_, rfl⟩
 rw [← hA, ← hP, ← hR] at HF
 rw [← hA, ← hP, ← hR, ← hS] at HD0
 obtain ⟨Db, hDb⟩ : ∃ Db, Db = w.heap.size + 1 + 1 + 1 + 1 := ⟨_, rfl⟩
 rw [← hDb] at HF
 have C1 := Lib.hid (fun (V : World) (h : Below w0.heap.size w0 V) => show Calls Tryz.prog 12 #[.agg #[.slice A 2 2, .slice P 1 1, .slice R 1 1, .int .i64 2]] V fun e w' => ∃ s : Stk, e = .returned (.tuple #[s.v, .int .i64 0]) ∧ s.In w' w'.heap.size ∧ s.ab = lsA ∧ Below V.heap.size V w' by
  have := new_any (lsD A P R S) V (HD0.out.then h)
  rw [ls_z, if_pos rfl, ls_new] at this
  exact this)
 have C2 := Lib.hid (fun (s : Stk) (ha : s.ab = lsA) (V : World) (h : Below w0.heap.size w0 V) (hs : s.In V V.heap.size) => show Calls Tryz.prog 13 #[.agg #[.slice A 2 2, .slice P 1 1, .slice R 1 1, .int .i64 2], s.v, .int .i64 2, .int .i64 0, .int .i64 1, .int .i64 15] V fun e w' => ∃ t : Stk, e = .returned (.tuple #[t.v, .int .i64 0]) ∧ t.In w' w'.heap.size ∧ t.ab = lsM ∧ Below V.heap.size V w' by
  have := move_any (lsD A P R S) s 2 0 1 15 V (HD0.out.then h) hs (by decide) (by decide) (by decide)
  rw [ha, ls_cm, if_pos rfl, ls_mA] at this
  exact this)
 have C3 := Lib.hid (fun (s : Stk) (ha : s.ab = lsM) (V : World) (hs : s.In V V.heap.size) => show Calls Tryz.prog 14 #[s.v] V fun e w' => e = .returned (.tuple #[.int .i64 40, .int .i64 0]) ∧ Below V.heap.size V w' by
  have hc : s.cl = lsM.c := congrArg Ab.c ha
  have := total_any s V hs (by rw [hc]; decide)
  rw [hc] at this
  exact this)
 have C4 := Lib.hid (fun (s : Stk) (ha : s.ab = lsM) (V : World) (h : Below w0.heap.size w0 V) (hs : s.In V V.heap.size) => show Calls Tryz.prog 15 #[.agg #[.slice A 2 2, .slice P 1 1, .slice R 1 1, .int .i64 2], s.v, .int .i64 1] V fun e w' => e = .returned (.tuple #[.agg #[.int .i64 100, .int .i64 15, .int .i64 1], .int .i64 0]) ∧ Below V.heap.size V w' by
  have := look_any (lsD A P R S) s 1 V (HD0.out.then h) hs (by decide)
  rw [ha, ls_lk] at this
  exact this)
 have C5 := Lib.hid (fun (s : Stk) (ha : s.ab = lsM) (V : World) (h : Below w0.heap.size w0 V) (hs : s.In V V.heap.size) => show Calls Tryz.prog 16 #[.agg #[.slice A 2 2, .slice P 1 1, .slice R 1 1, .int .i64 2], s.v, .int .i64 1, .int .i64 2] V fun e w' => ∃ t : Stk, e = .returned (.tuple #[t.v, .int .i64 0]) ∧ t.In w' w'.heap.size ∧ t.ab = lsT ∧ Below V.heap.size V w' by
  have := take_any (lsD A P R S) s 1 2 V (HD0.out.then h) hs (by decide)
  rw [ha, ls_ct, if_pos rfl, ls_tA] at this
  exact this)
 have C6 := Lib.hid (fun (s : Stk) (ha : s.ab = lsT) (V : World) (h : Below w0.heap.size w0 V) (hs : s.In V V.heap.size) => show Calls Tryz.prog 17 #[.agg #[.slice A 2 2, .slice P 1 1, .slice R 1 1, .int .i64 2], s.v, .int .i64 1] V fun e w' => e = .returned (.tuple #[.int .i64 2, .bool true]) ∧ Below V.heap.size V w' by
  have := hand_any (lsD A P R S) s 1 V (HD0.out.then h) hs
  rw [ha, ls_ha] at this
  exact this)
 have C7 := Lib.hid (fun (s : Stk) (ha : s.ab = lsT) (V : World) (h : Below w0.heap.size w0 V) (hs : s.In V V.heap.size) => show Calls Tryz.prog 11 #[.agg #[.slice A 2 2, .slice P 1 1, .slice R 1 1, .int .i64 2], s.v] V fun e w' => e = .returned (.bool true) ∧ Below V.heap.size V w' by
  have := right_s (lsD A P R S) s V (HD0.out.then h) hs
  rw [ha, ls_r2] at this
  exact this)
 clear hS
 go_enter Tryz.func6, Tryz.ntmps6
 go_wp2_with fail
 rw [← hw0, ← hA, ← hP, ← hR]
 try rw [← hDb]
 --CUT1
 clear hw0 hA hP hR hDb
 refine (C1.out w0 (Below.refl _ _)).mono ?_
 rintro e w1 ⟨s, rfl, hi1, ha1, hb1⟩
 obtain ⟨v1, hv1⟩ : ∃ v1, v1 = w1.alloc (.cells #[.slice s.cA s.cl.length s.cc, .slice s.lA s.ll.length s.lc, .slice s.tA s.tl.length s.tc, .int .i64 s.st, .int .i64 s.inn, .int .i64 s.out] 31) := ⟨_, rfl⟩
 have hba := Below.al (Below.refl w1.heap.size w1) (.cells #[.slice s.cA s.cl.length s.cc, .slice s.lA s.ll.length s.lc, .slice s.tA s.tl.length s.tc, .int .i64 s.st, .int .i64 s.inn, .int .i64 s.out] 31)
 rw [← hv1] at hba
 have HB1 := Lib.hid (show Below w0.heap.size w0 v1 from Below.call hb1 hba)
 have HI1 := Lib.hid (hi1.then hba)
 have HS1 := Lib.hid (show SkAt v1 w1.heap.size s by rw [hv1]; exact Cells6.new w1 _ _ _ _ _ _ _)
 have HA1 := Lib.hid ha1
 clear hi1 ha1 hb1 hba
 obtain ⟨d0, d1, d2, d3, -⟩ := HF.out.below HB1.out
 obtain ⟨a0, a1, a2, a3, a4, a5, -⟩ := HS1.out
 rw [hv1] at d0 d1 d2 d3 a0 a1 a2 a3 a4 a5
 go_wp2_with fail
 --CUT2
 rw [← hv1]
 clear hv1 d0 d1 d2 d3 a0 a1 a2 a3 a4 a5
 generalize w1.heap.size = G1 at *
 refine (C2.out s HA1.out v1 HB1.out HI1.out).mono ?_
 rintro e w2 ⟨t, rfl, hi2, ha2, hb2⟩
 obtain ⟨v2, hv2⟩ : ∃ v2, v2 = w2.alloc (.cells #[.slice t.cA t.cl.length t.cc, .slice t.lA t.ll.length t.lc, .slice t.tA t.tl.length t.tc, .int .i64 t.st, .int .i64 t.inn, .int .i64 t.out] 31) := ⟨_, rfl⟩
 have hba := Below.al (Below.refl w2.heap.size w2) (.cells #[.slice t.cA t.cl.length t.cc, .slice t.lA t.ll.length t.lc, .slice t.tA t.tl.length t.tc, .int .i64 t.st, .int .i64 t.inn, .int .i64 t.out] 31)
 rw [← hv2] at hba
 have HB2 := Lib.hid (show Below w0.heap.size w0 v2 from Below.call HB1.out (Below.call hb2 hba))
 have HI2 := Lib.hid (hi2.then hba)
 have HS2 := Lib.hid (show SkAt v2 w2.heap.size t by rw [hv2]; exact Cells6.new w2 _ _ _ _ _ _ _)
 have HA2 := Lib.hid ha2
 clear hi2 ha2 hb2 hba HI1 HS1 HB1
 obtain ⟨a0, a1, a2, a3, a4, a5, -⟩ := HS2.out
 rw [hv2] at a0 a1 a2 a3 a4 a5
 go_wp2_with fail
 --CUT3
 rw [← hv2]
 clear hv2 a0 a1 a2 a3 a4 a5
 generalize w2.heap.size = G2 at *
 refine (C3.out t HA2.out v2 HI2.out).mono ?_
 rintro e w3 ⟨rfl, hb3⟩
 have HB3 := Lib.hid (Below.call HB2.out hb3)
 have HI3 := Lib.hid (HI2.out.then hb3)
 have HS3 := Lib.hid (HS2.out.below hb3)
 clear hb3 HI2 HS2 HB2
 obtain ⟨d0, d1, d2, d3, -⟩ := HF.out.below HB3.out
 obtain ⟨a0, a1, a2, a3, a4, a5, -⟩ := HS3.out
 go_wp2_with fail
 --CUT4
 clear d0 d1 d2 d3 a0 a1 a2 a3 a4 a5
 refine (C4.out t HA2.out w3 HB3.out HI3.out).mono ?_
 rintro e w4 ⟨rfl, hb4⟩
 obtain ⟨v4, hv4⟩ : ∃ v4, v4 = w4.alloc (.cells #[.int .i64 100, .int .i64 15, .int .i64 1] 58) := ⟨_, rfl⟩
 have hba := Below.al hb4 (.cells #[.int .i64 100, .int .i64 15, .int .i64 1] 58)
 rw [← hv4] at hba
 have HB4 := Lib.hid (Below.call HB3.out hba)
 have HI4 := Lib.hid (HI3.out.then hba)
 have HS4 := Lib.hid (HS3.out.below hba)
 have HC4 := Lib.hid (show Cells3 v4 w4.heap.size (.int .i64 100) (.int .i64 15) (.int .i64 1) by rw [hv4]; exact Cells3.new w4 _ _ _ _)
 clear hb4 hba HI3 HS3 HB3
 obtain ⟨d0, d1, d2, d3, -⟩ := HF.out.below HB4.out
 obtain ⟨a0, a1, a2, a3, a4, a5, -⟩ := HS4.out
 rw [hv4] at d0 d1 d2 d3 a0 a1 a2 a3 a4 a5
 go_wp2_with fail
 --CUT5
 rw [← hv4]
 clear hv4 d0 d1 d2 d3 a0 a1 a2 a3 a4 a5
 generalize w4.heap.size = G4 at *
 refine (C5.out t HA2.out v4 HB4.out HI4.out).mono ?_
 rintro e w5 ⟨u, rfl, hi5, ha5, hb5⟩
 obtain ⟨v5, hv5⟩ : ∃ v5, v5 = w5.alloc (.cells #[.slice u.cA u.cl.length u.cc, .slice u.lA u.ll.length u.lc, .slice u.tA u.tl.length u.tc, .int .i64 u.st, .int .i64 u.inn, .int .i64 u.out] 31) := ⟨_, rfl⟩
 have hba := Below.al (Below.refl w5.heap.size w5) (.cells #[.slice u.cA u.cl.length u.cc, .slice u.lA u.ll.length u.lc, .slice u.tA u.tl.length u.tc, .int .i64 u.st, .int .i64 u.inn, .int .i64 u.out] 31)
 rw [← hv5] at hba
 have HB5 := Lib.hid (show Below w0.heap.size w0 v5 from Below.call HB4.out (Below.call hb5 hba))
 have HI5 := Lib.hid (hi5.then hba)
 have HS5 := Lib.hid (show SkAt v5 w5.heap.size u by rw [hv5]; exact Cells6.new w5 _ _ _ _ _ _ _)
 have HC5 := Lib.hid (HC4.out.below (Below.call hb5 hba))
 have HA5 := Lib.hid ha5
 clear hi5 ha5 hb5 hba HI4 HS4 HB4 HC4
 obtain ⟨d0, d1, d2, d3, -⟩ := HF.out.below HB5.out
 obtain ⟨a0, a1, a2, a3, a4, a5, -⟩ := HS5.out
 rw [hv5] at d0 d1 d2 d3 a0 a1 a2 a3 a4 a5
 go_wp2_with fail
 --CUT6
 rw [← hv5]
 clear hv5 d0 d1 d2 d3 a0 a1 a2 a3 a4 a5
 generalize w5.heap.size = G5 at *
 refine (C6.out u HA5.out v5 HB5.out HI5.out).mono ?_
 rintro e w6 ⟨rfl, hb6⟩
 have HB6 := Lib.hid (Below.call HB5.out hb6)
 have HI6 := Lib.hid (HI5.out.then hb6)
 have HS6 := Lib.hid (HS5.out.below hb6)
 have HC6 := Lib.hid (HC5.out.below hb6)
 clear hb6 HI5 HS5 HB5 HC5
 obtain ⟨d0, d1, d2, d3, -⟩ := HF.out.below HB6.out
 obtain ⟨a0, a1, a2, a3, a4, a5, -⟩ := HS6.out
 obtain ⟨c0, c1, c2, -⟩ := HC6.out
 go_wp2_with fail
 --CUT7
 refine (C7.out u HA5.out w6 HB6.out HI6.out).mono ?_
 rintro e w7 ⟨rfl, hb7⟩
 have HB7 := Lib.hid (Below.call HB0.out (Below.call HB6.out hb7))
 clear hb7 d0 d1 d2 d3 a0 a1 a2 a3 a4 a5 c0 c1 c2
 go_wp2
 go_ret
 exact ⟨rfl, HB7.out⟩
end Go.Proofs.YtacjonncakhhmaaGreat

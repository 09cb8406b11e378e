/- Stocks: two that are the same are told to be. -/
import Derived.Test.YtacjonncakhhmaaPa34
import Derived.Test.YtacjonncakhhmaaPa23
import Derived.Test.YtacjonncakhhmaaPa10
namespace Go.Proofs.Ytacjonncakhhmaa
open Go.RowKit
theorem cgE_ok {d : Dk} {a : Ab} {b' : Int} (E : Int) (h : rgS d a = true) (h1 : 1 ≤ b') (h2 : b' ≤ d.arms) : cgE d a b' E = E := by
 unfold cgE
 rw [if_pos h, if_pos ⟨h1, h2⟩]
theorem ls_cm (A P R S : Option Addr) : cgE (lsD A P R S) lsA 2 (moE (lsD A P R S) lsA 0 1 15) = 0 := by
 rw [cgE_ok _ (ls_r0 A P R S) (by decide) (by show (2 : Int) ≤ 2; decide)]
 exact ls_mE A P R S
theorem ls_ct (A P R S : Option Addr) : cgE (lsD A P R S) lsM 1 (taE (lsD A P R S) lsM 1 2) = 0 := by
 rw [cgE_ok _ (ls_r1 A P R S) (by decide) (by show (1 : Int) ≤ 2; decide)]
 exact ls_tE A P R S
theorem ls_lk (A P R S : Option Addr) : lkV (lsD A P R S) lsM 1 = (⟨100, 15, 1⟩, 0) := by
 unfold lkV
 rw [if_pos (ls_r1 A P R S), (isP_eq _ (ls_chk A P R S) 1).1, ls_well, if_pos (by decide)]
 rfl
theorem ls_ha (A P R S : Option Addr) : haV (lsD A P R S) lsT 1 = (2, true) := by
 unfold haV
 rw [if_pos (ls_r2 A P R S), ls_hd1, if_pos rfl]
 rfl
set_option maxRecDepth 100000 in
set_option maxHeartbeats 4000000 in
theorem ls_In (w : World) : (lsD (some ⟨w.heap.size, 0, none⟩) (some ⟨w.heap.size + 1 + 1, 0, none⟩) (some ⟨w.heap.size + 1 + 1 + 1, 0, none⟩) (some ⟨w.heap.size + 1, 0, none⟩)).In ((((w.alloc (.cells #[.float .f64 0, .float .f64 4621256167635550208] 70)).alloc (.cells #[.int .i64 40] 3)).alloc (.cells #[.int .i64 1, .int .i64 2, .float .f64 4607182418800017408, .float .f64 0, .float .f64 0, .int .i64 100, .slice (some ⟨w.heap.size + 1, 0, none⟩) 1 1] 72)).alloc (.cells #[.int .i64 1, .int .i64 1, .float .f64 4611686018427387904, .float .f64 0, .float .f64 0] 74)) (w.heap.size + 1 + 1 + 1 + 1) := by
 obtain ⟨H, hH⟩ : ∃ H, w.heap.size = H := ⟨_, rfl⟩
 rw [hH]
 have hA := Lk.IsL.lits (K := KF) w lsB #[.float .f64 0, .float .f64 4621256167635550208] (show ∀ x ∈ lsB, x < 18446744073709551616 by decide) rfl (by decide) H hH
 have hw2 : w.alloc (.cells #[.float .f64 0, .float .f64 4621256167635550208] KF.E) = w.alloc (.cells #[.float .f64 0, .float .f64 4621256167635550208] 70) := rfl
 rw [hw2] at hA
 clear hw2
 have hs2 : (w.alloc (.cells #[.float .f64 0, .float .f64 4621256167635550208] 70)).heap.size = H + 1 := by simp [hH]
 generalize w.alloc (.cells #[.float .f64 0, .float .f64 4621256167635550208] 70) = w2 at *
 have hS : KI.IsL (w2.alloc (.cells #[.int .i64 40] 3)) (H + 1 + 1) (.slice (some ⟨H + 1, 0, none⟩) 1 1) [40] := Lk.IsL.lits (K := KI) w2 [40] #[.int .i64 40] (by intro x hx; simp at hx; subst hx; show fits 40; decide) rfl (by decide) (H + 1) hs2
 have hb3 := Below.al (Below.refl w2.heap.size w2) (.cells #[.int .i64 40] 3)
 have hs3 : (w2.alloc (.cells #[.int .i64 40] 3)).heap.size = H + 1 + 1 := by simp [hs2]
 generalize w2.alloc (.cells #[.int .i64 40] 3) = w3 at *
 have hP : KP.IsL (w3.alloc (.cells #[.int .i64 1, .int .i64 2, .float .f64 4607182418800017408, .float .f64 0, .float .f64 0, .int .i64 100, .slice (some ⟨H + 1, 0, none⟩) 1 1] 72)) (H + 1 + 1 + 1) (.slice (some ⟨H + 1 + 1, 0, none⟩) 1 1) [lsP (some ⟨H + 1, 0, none⟩)] :=
  Lk.IsL.lits (K := KP) w3 [lsP (some ⟨H + 1, 0, none⟩)] #[.int .i64 1, .int .i64 2, .float .f64 4607182418800017408, .float .f64 0, .float .f64 0, .int .i64 100, .slice (some ⟨H + 1, 0, none⟩) 1 1] (by
   intro x hx
   simp at hx
   subst hx
   show fits 1 ∧ fits 2 ∧ (4607182418800017408 : Nat) < 18446744073709551616 ∧ (0 : Nat) < 18446744073709551616 ∧ (0 : Nat) < 18446744073709551616 ∧ fits 100
   decide) rfl (by simp) (H + 1 + 1) hs3
 have hb4 := Below.al (Below.refl w3.heap.size w3) (.cells #[.int .i64 1, .int .i64 2, .float .f64 4607182418800017408, .float .f64 0, .float .f64 0, .int .i64 100, .slice (some ⟨H + 1, 0, none⟩) 1 1] 72)
 have hs4 : (w3.alloc (.cells #[.int .i64 1, .int .i64 2, .float .f64 4607182418800017408, .float .f64 0, .float .f64 0, .int .i64 100, .slice (some ⟨H + 1, 0, none⟩) 1 1] 72)).heap.size = H + 1 + 1 + 1 := by simp [hs3]
 generalize w3.alloc (.cells #[.int .i64 1, .int .i64 2, .float .f64 4607182418800017408, .float .f64 0, .float .f64 0, .int .i64 100, .slice (some ⟨H + 1, 0, none⟩) 1 1] 72) = w4 at *
 have hR : KR.IsL (w4.alloc (.cells #[.int .i64 1, .int .i64 1, .float .f64 4611686018427387904, .float .f64 0, .float .f64 0] 74)) (H + 1 + 1 + 1 + 1) (.slice (some ⟨H + 1 + 1 + 1, 0, none⟩) 1 1) [lsR] :=
  Lk.IsL.lits (K := KR) w4 [lsR] #[.int .i64 1, .int .i64 1, .float .f64 4611686018427387904, .float .f64 0, .float .f64 0] (by
   intro x hx
   simp at hx
   subst hx
   show fits 1 ∧ fits 1 ∧ (4611686018427387904 : Nat) < 18446744073709551616 ∧ (0 : Nat) < 18446744073709551616 ∧ (0 : Nat) < 18446744073709551616
   decide) rfl (by simp) (H + 1 + 1 + 1) hs4
 have hb5 := Below.al (Below.refl w4.heap.size w4) (.cells #[.int .i64 1, .int .i64 1, .float .f64 4611686018427387904, .float .f64 0, .float .f64 0] 74)
 generalize w4.alloc (.cells #[.int .i64 1, .int .i64 1, .float .f64 4611686018427387904, .float .f64 0, .float .f64 0] 74) = w5 at *
 rw [hs4] at hb5
 rw [hs3] at hb4
 rw [hs2] at hb3
 refine ⟨(((hA.below hb3).more (by omega)).below (hb4.trans (hb5.mono (by omega))) : KF.IsL w5 (H + 1 + 1) _ _).more (by omega), ((hP.below hb5).more (by omega)), hR, fun q hq => ?_, (by show fits 2; decide)⟩
 have hq' : q = lsP (some ⟨H + 1, 0, none⟩) := by simpa [lsD] using hq
 subst hq'
 exact ((hS.below hb4).more (by omega : H + 1 + 1 ≤ H + 1 + 1 + 1)).below hb5 |>.more (by omega)
set_option maxRecDepth 100000 in
set_option maxHeartbeats 4000000 in
theorem lives13 (w : World) : Calls Try.prog 11 #[] w fun e w' => e = .returned (.bool true) ∧ Below w.heap.size w w' := by
 have hsf := fun (w : World) (a : Addr) (m : Mode) (b : Nat) => run_store_float (P := Try.prog) (w := w) (a := a) (m := m) .f64 b
 obtain ⟨w0, hw0⟩ : ∃ w0, w0 = (((((w.alloc (.cells #[.float .f64 0, .float .f64 4621256167635550208] 70)).alloc (.cells #[.int .i64 40] 3)).alloc (.cells #[.int .i64 1, .int .i64 2, .float .f64 4607182418800017408, .float .f64 0, .float .f64 0, .int .i64 100, .slice (some ⟨w.heap.size + 1, 0, none⟩) 1 1] 72)).alloc (.cells #[.int .i64 1, .int .i64 1, .float .f64 4611686018427387904, .float .f64 0, .float .f64 0] 74)).alloc (.cells #[.slice (some ⟨w.heap.size, 0, none⟩) 2 2, .slice (some ⟨w.heap.size + 1 + 1, 0, none⟩) 1 1, .slice (some ⟨w.heap.size + 1 + 1 + 1, 0, none⟩) 1 1, .int .i64 2] 26)) := ⟨_, rfl⟩
 have HB0 := Lib.hid (show Below w.heap.size w w0 by rw [hw0]; exact Below.al (Below.al (Below.al (Below.al (Below.al (Below.refl _ _) _) _) _) _) _)
 have HD0 := Lib.hid (show (lsD (some ⟨w.heap.size, 0, none⟩) (some ⟨w.heap.size + 1 + 1, 0, none⟩) (some ⟨w.heap.size + 1 + 1 + 1, 0, none⟩) (some ⟨w.heap.size + 1, 0, none⟩)).In w0 w0.heap.size by
  have h := ls_In w
  have hs : ((((w.alloc (.cells #[.float .f64 0, .float .f64 4621256167635550208] 70)).alloc (.cells #[.int .i64 40] 3)).alloc (.cells #[.int .i64 1, .int .i64 2, .float .f64 4607182418800017408, .float .f64 0, .float .f64 0, .int .i64 100, .slice (some ⟨w.heap.size + 1, 0, none⟩) 1 1] 72)).alloc (.cells #[.int .i64 1, .int .i64 1, .float .f64 4611686018427387904, .float .f64 0, .float .f64 0] 74)).heap.size = w.heap.size + 1 + 1 + 1 + 1 := by simp
  rw [← hs] at h
  rw [hw0]
  exact h.then (Below.al (Below.refl _ _) _))
 have HF := Lib.hid (show Cells4 w0 (w.heap.size + 1 + 1 + 1 + 1) (.slice (some ⟨w.heap.size, 0, none⟩) 2 2) (.slice (some ⟨w.heap.size + 1 + 1, 0, none⟩) 1 1) (.slice (some ⟨w.heap.size + 1 + 1 + 1, 0, none⟩) 1 1) (.int .i64 2) from by
  have hs : ((((w.alloc (.cells #[.float .f64 0, .float .f64 4621256167635550208] 70)).alloc (.cells #[.int .i64 40] 3)).alloc (.cells #[.int .i64 1, .int .i64 2, .float .f64 4607182418800017408, .float .f64 0, .float .f64 0, .int .i64 100, .slice (some ⟨w.heap.size + 1, 0, none⟩) 1 1] 72)).alloc (.cells #[.int .i64 1, .int .i64 1, .float .f64 4611686018427387904, .float .f64 0, .float .f64 0] 74)).heap.size = w.heap.size + 1 + 1 + 1 + 1 := by simp
  rw [hw0, ← hs]
  exact Cells4.new ((((w.alloc (.cells #[.float .f64 0, .float .f64 4621256167635550208] 70)).alloc (.cells #[.int .i64 40] 3)).alloc (.cells #[.int .i64 1, .int .i64 2, .float .f64 4607182418800017408, .float .f64 0, .float .f64 0, .int .i64 100, .slice (some ⟨w.heap.size + 1, 0, none⟩) 1 1] 72)).alloc (.cells #[.int .i64 1, .int .i64 1, .float .f64 4611686018427387904, .float .f64 0, .float .f64 0] 74)) 26 _ _ _ _)
 obtain ⟨A, hA⟩ : ∃ A, A = some (⟨w.heap.size, 0, none⟩ : Addr) := ⟨_, rfl⟩
 obtain ⟨P, hP⟩ : ∃ P, P = some (⟨w.heap.size + 1 + 1, 0, none⟩ : Addr) := ⟨_, rfl⟩
 obtain ⟨R, hR⟩ : ∃ R, R = some (⟨w.heap.size + 1 + 1 + 1, 0, none⟩ : Addr) := ⟨_, rfl⟩
 obtain ⟨S, hS⟩ : ∃ S, S = some (⟨w.heap.size + 1, 0, none⟩ : Addr) := ⟨_, rfl⟩
 rw [← hA, ← hP, ← hR] at HF
 rw [← hA, ← hP, ← hR, ← hS] at HD0
 obtain ⟨Db, hDb⟩ : ∃ Db, Db = w.heap.size + 1 + 1 + 1 + 1 := ⟨_, rfl⟩
 rw [← hDb] at HF
 have C1 := Lib.hid (fun (V : World) (h : Below w0.heap.size w0 V) => show Calls Try.prog 12 #[.agg #[.slice A 2 2, .slice P 1 1, .slice R 1 1, .int .i64 2]] V fun e w' => ∃ s : Stk, e = .returned (.tuple #[s.v, .int .i64 0]) ∧ s.In w' w'.heap.size ∧ s.ab = lsA ∧ Below V.heap.size V w' by
  have := new_any (lsD A P R S) V (HD0.out.then h)
  rw [ls_z, if_pos rfl, ls_new] at this
  exact this)
 have C2 := Lib.hid (fun (s : Stk) (ha : s.ab = lsA) (V : World) (h : Below w0.heap.size w0 V) (hs : s.In V V.heap.size) => show Calls Try.prog 43 #[.agg #[.slice A 2 2, .slice P 1 1, .slice R 1 1, .int .i64 2], s.v, .int .i64 2, .int .i64 0, .int .i64 1, .int .i64 15] V fun e w' => ∃ t : Stk, e = .returned (.tuple #[t.v, .int .i64 0]) ∧ t.In w' w'.heap.size ∧ t.ab = lsM ∧ Below V.heap.size V w' by
  have := move_any (lsD A P R S) s 2 0 1 15 V (HD0.out.then h) hs (by decide) (by decide) (by decide)
  rw [ha, ls_cm, if_pos rfl, ls_mA] at this
  exact this)
 have C3 := Lib.hid (fun (s : Stk) (ha : s.ab = lsM) (V : World) (hs : s.In V V.heap.size) => show Calls Try.prog 21 #[s.v] V fun e w' => e = .returned (.tuple #[.int .i64 40, .int .i64 0]) ∧ Below V.heap.size V w' by
  have hc : s.cl = lsM.c := congrArg Ab.c ha
  have := total_any s V hs (by rw [hc]; decide)
  rw [hc] at this
  exact this)
 have C4 := Lib.hid (fun (s : Stk) (ha : s.ab = lsM) (V : World) (h : Below w0.heap.size w0 V) (hs : s.In V V.heap.size) => show Calls Try.prog 17 #[.agg #[.slice A 2 2, .slice P 1 1, .slice R 1 1, .int .i64 2], s.v, .int .i64 1] V fun e w' => e = .returned (.tuple #[.agg #[.int .i64 100, .int .i64 15, .int .i64 1], .int .i64 0]) ∧ Below V.heap.size V w' by
  have := look_any (lsD A P R S) s 1 V (HD0.out.then h) hs (by decide)
  rw [ha, ls_lk] at this
  exact this)
 have C5 := Lib.hid (fun (s : Stk) (ha : s.ab = lsM) (V : World) (h : Below w0.heap.size w0 V) (hs : s.In V V.heap.size) => show Calls Try.prog 44 #[.agg #[.slice A 2 2, .slice P 1 1, .slice R 1 1, .int .i64 2], s.v, .int .i64 1, .int .i64 2] V fun e w' => ∃ t : Stk, e = .returned (.tuple #[t.v, .int .i64 0]) ∧ t.In w' w'.heap.size ∧ t.ab = lsT ∧ Below V.heap.size V w' by
  have := take_any (lsD A P R S) s 1 2 V (HD0.out.then h) hs (by decide)
  rw [ha, ls_ct, if_pos rfl, ls_tA] at this
  exact this)
 have C6 := Lib.hid (fun (s : Stk) (ha : s.ab = lsT) (V : World) (h : Below w0.heap.size w0 V) (hs : s.In V V.heap.size) => show Calls Try.prog 19 #[.agg #[.slice A 2 2, .slice P 1 1, .slice R 1 1, .int .i64 2], s.v, .int .i64 1] V fun e w' => e = .returned (.tuple #[.int .i64 2, .bool true]) ∧ Below V.heap.size V w' by
  have := hand_any (lsD A P R S) s 1 V (HD0.out.then h) hs
  rw [ha, ls_ha] at this
  exact this)
 have C7 := Lib.hid (fun (s : Stk) (ha : s.ab = lsT) (V : World) (h : Below w0.heap.size w0 V) (hs : s.In V V.heap.size) => show Calls Try.prog 15 #[.agg #[.slice A 2 2, .slice P 1 1, .slice R 1 1, .int .i64 2], s.v] V fun e w' => e = .returned (.bool true) ∧ Below V.heap.size V w' by
  have := right_s (lsD A P R S) s V (HD0.out.then h) hs
  rw [ha, ls_r2] at this
  exact this)
 clear hS
 go_enter Try.func11, Try.ntmps11
 go_wp2_with fail
 rw [← hw0, ← hA, ← hP, ← hR]
 try rw [← hDb]
 --CUT1
 clear hw0 hA hP hR hDb
 refine (C1.out w0 (Below.refl _ _)).mono ?_
 rintro e w1 ⟨s, rfl, hi1, ha1, hb1⟩
 obtain ⟨v1, hv1⟩ : ∃ v1, v1 = w1.alloc (.cells #[.slice s.cA s.cl.length s.cc, .slice s.lA s.ll.length s.lc, .slice s.tA s.tl.length s.tc, .int .i64 s.st, .int .i64 s.inn, .int .i64 s.out] 33) := ⟨_, rfl⟩
 have hba := Below.al (Below.refl w1.heap.size w1) (.cells #[.slice s.cA s.cl.length s.cc, .slice s.lA s.ll.length s.lc, .slice s.tA s.tl.length s.tc, .int .i64 s.st, .int .i64 s.inn, .int .i64 s.out] 33)
 rw [← hv1] at hba
 have HB1 := Lib.hid (show Below w0.heap.size w0 v1 from Below.call hb1 hba)
 have HI1 := Lib.hid (hi1.then hba)
 have HS1 := Lib.hid (show SkAt v1 w1.heap.size s by rw [hv1]; exact Cells6.new w1 _ _ _ _ _ _ _)
 have HA1 := Lib.hid ha1
 clear hi1 ha1 hb1 hba
 obtain ⟨d0, d1, d2, d3, -⟩ := HF.out.below HB1.out
 obtain ⟨a0, a1, a2, a3, a4, a5, -⟩ := HS1.out
 rw [hv1] at d0 d1 d2 d3 a0 a1 a2 a3 a4 a5
 go_wp2_with fail
 --CUT2
 rw [← hv1]
 clear hv1 d0 d1 d2 d3 a0 a1 a2 a3 a4 a5
 generalize w1.heap.size = G1 at *
 refine (C2.out s HA1.out v1 HB1.out HI1.out).mono ?_
 rintro e w2 ⟨t, rfl, hi2, ha2, hb2⟩
 obtain ⟨v2, hv2⟩ : ∃ v2, v2 = w2.alloc (.cells #[.slice t.cA t.cl.length t.cc, .slice t.lA t.ll.length t.lc, .slice t.tA t.tl.length t.tc, .int .i64 t.st, .int .i64 t.inn, .int .i64 t.out] 33) := ⟨_, rfl⟩
 have hba := Below.al (Below.refl w2.heap.size w2) (.cells #[.slice t.cA t.cl.length t.cc, .slice t.lA t.ll.length t.lc, .slice t.tA t.tl.length t.tc, .int .i64 t.st, .int .i64 t.inn, .int .i64 t.out] 33)
 rw [← hv2] at hba
 have HB2 := Lib.hid (show Below w0.heap.size w0 v2 from Below.call HB1.out (Below.call hb2 hba))
 have HI2 := Lib.hid (hi2.then hba)
 have HS2 := Lib.hid (show SkAt v2 w2.heap.size t by rw [hv2]; exact Cells6.new w2 _ _ _ _ _ _ _)
 have HA2 := Lib.hid ha2
 clear hi2 ha2 hb2 hba HI1 HS1 HB1
 obtain ⟨a0, a1, a2, a3, a4, a5, -⟩ := HS2.out
 rw [hv2] at a0 a1 a2 a3 a4 a5
 go_wp2_with fail
 --CUT3
 rw [← hv2]
 clear hv2 a0 a1 a2 a3 a4 a5
 generalize w2.heap.size = G2 at *
 refine (C3.out t HA2.out v2 HI2.out).mono ?_
 rintro e w3 ⟨rfl, hb3⟩
 have HB3 := Lib.hid (Below.call HB2.out hb3)
 have HI3 := Lib.hid (HI2.out.then hb3)
 have HS3 := Lib.hid (HS2.out.below hb3)
 clear hb3 HI2 HS2 HB2
 obtain ⟨d0, d1, d2, d3, -⟩ := HF.out.below HB3.out
 obtain ⟨a0, a1, a2, a3, a4, a5, -⟩ := HS3.out
 go_wp2_with fail
 --CUT4
 clear d0 d1 d2 d3 a0 a1 a2 a3 a4 a5
 refine (C4.out t HA2.out w3 HB3.out HI3.out).mono ?_
 rintro e w4 ⟨rfl, hb4⟩
 obtain ⟨v4, hv4⟩ : ∃ v4, v4 = w4.alloc (.cells #[.int .i64 100, .int .i64 15, .int .i64 1] 41) := ⟨_, rfl⟩
 have hba := Below.al hb4 (.cells #[.int .i64 100, .int .i64 15, .int .i64 1] 41)
 rw [← hv4] at hba
 have HB4 := Lib.hid (Below.call HB3.out hba)
 have HI4 := Lib.hid (HI3.out.then hba)
 have HS4 := Lib.hid (HS3.out.below hba)
 have HC4 := Lib.hid (show Cells3 v4 w4.heap.size (.int .i64 100) (.int .i64 15) (.int .i64 1) by rw [hv4]; exact Cells3.new w4 _ _ _ _)
 clear hb4 hba HI3 HS3 HB3
 obtain ⟨d0, d1, d2, d3, -⟩ := HF.out.below HB4.out
 obtain ⟨a0, a1, a2, a3, a4, a5, -⟩ := HS4.out
 rw [hv4] at d0 d1 d2 d3 a0 a1 a2 a3 a4 a5
 go_wp2_with fail
 --CUT5
 rw [← hv4]
 clear hv4 d0 d1 d2 d3 a0 a1 a2 a3 a4 a5
 generalize w4.heap.size = G4 at *
 refine (C5.out t HA2.out v4 HB4.out HI4.out).mono ?_
 rintro e w5 ⟨u, rfl, hi5, ha5, hb5⟩
 obtain ⟨v5, hv5⟩ : ∃ v5, v5 = w5.alloc (.cells #[.slice u.cA u.cl.length u.cc, .slice u.lA u.ll.length u.lc, .slice u.tA u.tl.length u.tc, .int .i64 u.st, .int .i64 u.inn, .int .i64 u.out] 33) := ⟨_, rfl⟩
 have hba := Below.al (Below.refl w5.heap.size w5) (.cells #[.slice u.cA u.cl.length u.cc, .slice u.lA u.ll.length u.lc, .slice u.tA u.tl.length u.tc, .int .i64 u.st, .int .i64 u.inn, .int .i64 u.out] 33)
 rw [← hv5] at hba
 have HB5 := Lib.hid (show Below w0.heap.size w0 v5 from Below.call HB4.out (Below.call hb5 hba))
 have HI5 := Lib.hid (hi5.then hba)
 have HS5 := Lib.hid (show SkAt v5 w5.heap.size u by rw [hv5]; exact Cells6.new w5 _ _ _ _ _ _ _)
 have HC5 := Lib.hid (HC4.out.below (Below.call hb5 hba))
 have HA5 := Lib.hid ha5
 clear hi5 ha5 hb5 hba HI4 HS4 HB4 HC4
 obtain ⟨d0, d1, d2, d3, -⟩ := HF.out.below HB5.out
 obtain ⟨a0, a1, a2, a3, a4, a5, -⟩ := HS5.out
 rw [hv5] at d0 d1 d2 d3 a0 a1 a2 a3 a4 a5
 go_wp2_with fail
 --CUT6
 rw [← hv5]
 clear hv5 d0 d1 d2 d3 a0 a1 a2 a3 a4 a5
 generalize w5.heap.size = G5 at *
 refine (C6.out u HA5.out v5 HB5.out HI5.out).mono ?_
 rintro e w6 ⟨rfl, hb6⟩
 have HB6 := Lib.hid (Below.call HB5.out hb6)
 have HI6 := Lib.hid (HI5.out.then hb6)
 have HS6 := Lib.hid (HS5.out.below hb6)
 have HC6 := Lib.hid (HC5.out.below hb6)
 clear hb6 HI5 HS5 HB5 HC5
 obtain ⟨d0, d1, d2, d3, -⟩ := HF.out.below HB6.out
 obtain ⟨a0, a1, a2, a3, a4, a5, -⟩ := HS6.out
 obtain ⟨c0, c1, c2, -⟩ := HC6.out
 go_wp2_with fail
 --CUT7
 refine (C7.out u HA5.out w6 HB6.out HI6.out).mono ?_
 rintro e w7 ⟨rfl, hb7⟩
 have HB7 := Lib.hid (Below.call HB0.out (Below.call HB6.out hb7))
 clear hb7 d0 d1 d2 d3 a0 a1 a2 a3 a4 a5 c0 c1 c2
 go_wp2
 go_ret
 exact ⟨rfl, HB7.out⟩
end Go.Proofs.Ytacjonncakhhmaa
namespace Go.Proofs.Ytacjonncakhhmaa
open Go.RowKit
set_option maxRecDepth 100000 in
set_option maxHeartbeats 4000000 in
theorem same_s (s u : Stk) (h : s.ab = u.ab) (w : World) (hs : s.In w w.heap.size) (hu : u.In w w.heap.size) : Calls Try.prog 14 #[s.v, u.v] w fun e w' => e = .returned (.bool true) ∧ Below w.heap.size w w' := by
 obtain ⟨w0, hw0⟩ : ∃ w0, w0 = (w.alloc (.cells #[.slice s.cA s.cl.length s.cc, .slice s.lA s.ll.length s.lc, .slice s.tA s.tl.length s.tc, .int .i64 s.st, .int .i64 s.inn, .int .i64 s.out] 33)).alloc (.cells #[.slice u.cA u.cl.length u.cc, .slice u.lA u.ll.length u.lc, .slice u.tA u.tl.length u.tc, .int .i64 u.st, .int .i64 u.inn, .int .i64 u.out] 33) := ⟨_, rfl⟩
 have HB0 := Lib.hid (show Below w.heap.size w w0 by rw [hw0]; exact Below.al (Below.al (Below.refl _ _) _) _)
 have HS := Lib.hid (hs.then HB0.out)
 have HU := Lib.hid (hu.then HB0.out)
 have HS1 := Lib.hid (show SkAt w0 w.heap.size s by rw [hw0]; exact (Cells6.new w _ _ _ _ _ _ _).below (Below.al (Below.refl _ _) _))
 have HU1 := Lib.hid (show SkAt w0 (w.heap.size + 1) u by
  have e : (w.alloc (.cells #[.slice s.cA s.cl.length s.cc, .slice s.lA s.ll.length s.lc, .slice s.tA s.tl.length s.tc, .int .i64 s.st, .int .i64 s.inn, .int .i64 s.out] 33)).heap.size = w.heap.size + 1 := by simp
  rw [hw0, ← e]
  exact Cells6.new _ _ _ _ _ _ _ _)
 have h1 : s.cl = u.cl := congrArg Ab.c h
 have h2 : s.ll.map Lo.ab = u.ll.map Lo.ab := congrArg Ab.l h
 have h3 : s.tl = u.tl := congrArg Ab.t h
 have h4 : s.st = u.st := congrArg Ab.st h
 have h5 : s.inn = u.inn := congrArg Ab.inn h
 have h6 : s.out = u.out := congrArg Ab.out h
 have hll : s.ll.length = u.ll.length := by have := congrArg List.length h2; simpa using this
 have HQ := Lib.hid (show ∀ k, k < s.ll.length → (s.ll.getD k lo0).r = (u.ll.getD k lo0).r ∧ (s.ll.getD k lo0).l = (u.ll.getD k lo0).l ∧ (s.ll.getD k lo0).xs = (u.ll.getD k lo0).xs from fun k hk => by
  have e1 := ab_l s k hk
  have e2 := ab_l u k (by omega)
  have e : s.ab.l = u.ab.l := congrArg Ab.l h
  rw [e, e2] at e1
  have a1 := congrArg Prod.fst e1
  have a2 := congrArg Prod.snd e1
  exact ⟨a1.symm, (congrArg Prod.fst a2).symm, (congrArg Prod.snd a2).symm⟩)
 clear hs hu h h2
 obtain ⟨cA, cc, cl, lA, lc, ll, tA, tc, tl, st, inn, out⟩ := s
 obtain ⟨cA2, cc2, cl2, lA2, lc2, ll2, tA2, tc2, tl2, st2, inn2, out2⟩ := u
 dsimp only at *
 subst h1 h3 h4 h5 h6
 have HLL := Lib.hid hll
 have hli : ((ll.length : Int) != (ll2.length : Int)) = false := by rw [hll]; simp
 clear hll
 obtain ⟨g0, g1, g2, g3, g4, g5, -⟩ := HS1.out
 obtain ⟨f0, f1, f2, f3, f4, f5, -⟩ := HU1.out
 dsimp only at g0 g1 g2 g3 g4 g5 f0 f1 f2 f3 f4 f5
 rw [hw0] at g0 g1 g2 g3 g4 g5 f0 f1 f2 f3 f4 f5
 have hl1 := HS.out.c.2.2
 have hl2 := HS.out.l.2.2
 have hl3 := HS.out.t.2.2
 dsimp only at hl1 hl2 hl3
 go_enter Try.func14, Try.ntmps14
 go_wp2_with fail
 rw [← hw0]
 clear hw0 g0 g1 g2 g3 g4 g5 f0 f1 f2 f3 f4 f5 hli
 --CUT1
 go_loopw [5] (fun i wr => ∃ k : Nat, k ≤ cl.length ∧ i = .int .i64 k ∧ Hid (Below w0.heap.size w0 wr)) (fun i _ => cl.length - (intOf i).toNat)
 case atStart => exact ⟨0, Nat.zero_le _, rfl, Lib.hid (Below.refl _ _)⟩
 case round =>
  obtain ⟨k, hk, rfl, hbl⟩ := hrel
  have HB := Lib.hid hbl.out
  clear hbl
  have G1 := (HS1.out.below HB.out).1
  have G2 := (HU1.out.below HB.out).1
  dsimp only at G1 G2
  by_cases hlt : k < cl.length
  ·obtain ⟨b1, o1, rfl, hb1, hc1, hcell1⟩ := ce_cells (HS.out.then HB.out).c (by dsimp only; omega)
   obtain ⟨b2, o2, rfl, hb2, hc2, hcell2⟩ := ce_cells (HU.out.then HB.out).c (by dsimp only; omega)
   obtain ⟨e1, e2, e3⟩ := hcell1 k hlt
   obtain ⟨f1, f2, f3⟩ := hcell2 k hlt
   dsimp only at e1 e2 e3 f1 f2 f3
   clear hcell1 hcell2
   generalize cl.getD k ce0 = q at *
   obtain ⟨qa, qb, qc⟩ := q
   dsimp only at e1 e2 e3 f1 f2 f3
   go_wp2_with fail
   go_quiet (fail)
   go_wp2
   go_roundw
   case rel => exact ⟨k + 1, by omega, num_i (by omega), Lib.hid (below_drewN HB.out _)⟩
   case measure => simp [intOf]; omega
  ·obtain rfl : k = cl.length := by omega
   obtain ⟨wA, hwA⟩ : ∃ wA, wA = wr := ⟨_, rfl⟩
   have HBA := Lib.hid (show Below w0.heap.size w0 wA by rw [hwA]; exact HB.out)
   go_wp2_with fail
   rw [← hwA]
   clear hwA HB G1 G2
   --CUT2
   go_loopw [6] (fun i wr => ∃ k : Nat, k ≤ ll.length ∧ i = .int .i64 k ∧ Hid (Below w0.heap.size w0 wr)) (fun i _ => ll.length - (intOf i).toNat)
   case atStart => exact ⟨0, Nat.zero_le _, rfl, Lib.hid HBA.out⟩
   case round =>
    clear HBA
    obtain ⟨k, hk, rfl, hbl⟩ := hrel
    have HB := Lib.hid hbl.out
    clear hbl
    have G1 := (HS1.out.below HB.out).2.1
    have G2 := (HU1.out.below HB.out).2.1
    dsimp only at G1 G2
    by_cases hlt : k < ll.length
    ·have hlt2 : k < ll2.length := by have := HLL.out; omega
     obtain ⟨b1, o1, rfl, hb1, hc1, hcell1⟩ := lo_cells (HS.out.then HB.out).l (by dsimp only; omega)
     obtain ⟨b2, o2, rfl, hb2, hc2, hcell2⟩ := lo_cells (HU.out.then HB.out).l (by dsimp only; omega)
     obtain ⟨e1, e2, e3⟩ := hcell1 k hlt
     obtain ⟨f1, f2, f3⟩ := hcell2 k hlt2
     dsimp only at e1 e2 e3 f1 f2 f3 hc1 hc2
     have HX1 := Lib.hid ((HS.out.then HB.out).x _ (getD_mem' ll k lo0 hlt))
     have HX2 := Lib.hid ((HU.out.then HB.out).x _ (getD_mem' ll2 k lo0 hlt2))
     obtain ⟨p1, p2, p3⟩ := HQ.out k hlt
     rw [← p1] at f1
     rw [← p2] at f2
     rw [← p3] at f3 HX2
     clear hcell1 hcell2 p1 p2 p3
     generalize (ll2.getD k lo0).A = pA at *
     generalize (ll2.getD k lo0).c = pc at *
     generalize ll.getD k lo0 = q at *
     obtain ⟨qr, ql, qA, qc, qx⟩ := q
     dsimp only at e1 e2 e3 f1 f2 f3 HX1 HX2
     have hlt' : (k : Int) < ll.length := by omega
     have hlt2' : (k : Int) < ll2.length := by omega
     go_upto_region 11 with fail
     --CUT3
     refine wp_region_held_drew (S := fun w' => w'.cell? ⟨w.heap.size, 1, none⟩ = some (Value.slice (some ⟨b1, o1, none⟩) ll.length lc) ∧ w'.cell? ⟨w.heap.size + 1, 1, none⟩ = some (Value.slice (some ⟨b2, o2, none⟩) ll2.length lc2) ∧ w'.cell? ⟨b1, o1 + k * 3, none⟩ = some (.int .i64 qr) ∧ w'.cell? ⟨b1, o1 + k * 3 + 1, none⟩ = some (.int .i64 ql) ∧ w'.cell? ⟨b1, o1 + k * 3 + 2, none⟩ = some (.slice qA qx.length qc) ∧ w'.cell? ⟨b2, o2 + k * 3, none⟩ = some (.int .i64 qr) ∧ w'.cell? ⟨b2, o2 + k * 3 + 1, none⟩ = some (.int .i64 ql) ∧ w'.cell? ⟨b2, o2 + k * 3 + 2, none⟩ = some (.slice pA qx.length pc)) (by kernel_rfl) ?_ (fun hHeld => ?_)
     ·exact ⟨G1, G2, e1, e2, e3, f1, f2, f3⟩
     have bw := (Below.refl wr.heap.size wr).drew
     have X1 := Lib.hid (HX1.out.then bw)
     have X2 := Lib.hid (HX2.out.then bw)
     have B1 := Lib.hid (Below.drew HB.out)
     clear bw G1 G2 e1 e2 e3 f1 f2 f3 HX1 HX2
     generalize wr.drew = v0 at *
     refine wpAnyH_take (i := 0) (oi := ⟨some 79, _, _, _, _, _⟩) (v := ?_) rfl (by kernel_rfl) (by kernel_rfl) (by kernel_rfl) (fun _ _ _ h => h) (Or.inl ⟨by kernel_rfl, ?_⟩) (by assumption) ?_
     rotate_left 1
     ·((intro w hSw; (try dsimp only at hSw); go_simp) <;> (try with_reducible rfl))
     (try simp only [Act.put, List.setIfInBounds_toArray, List.set_cons_zero, List.set_cons_succ])
     refine wpAnyH_take (i := 1) (oi := ⟨some 80, _, _, _, _, _⟩) (v := ?_) rfl (by kernel_rfl) (by kernel_rfl) (by kernel_rfl) (fun _ _ _ h => h) (Or.inl ⟨by kernel_rfl, ?_⟩) (by assumption) ?_
     rotate_left 1
     ·((intro w hSw; (try dsimp only at hSw); go_simp) <;> (try with_reducible rfl))
     (try simp only [Act.put, List.setIfInBounds_toArray, List.set_cons_zero, List.set_cons_succ])
     refine wpAnyH_take (i := 2) (oi := ⟨some 81, _, _, _, _, _⟩) (v := ?_) rfl (by kernel_rfl) (by kernel_rfl) (by kernel_rfl) (fun _ _ _ h => h) (Or.inl ⟨by kernel_rfl, ?_⟩) (by assumption) ?_
     rotate_left 1
     ·((intro w hSw; (try dsimp only at hSw); go_simp) <;> (try with_reducible rfl))
     (try simp only [Act.put, List.setIfInBounds_toArray, List.set_cons_zero, List.set_cons_succ])
     refine wpAnyH_take (i := 3) (oi := ⟨some 82, _, _, _, _, _⟩) (v := ?_) rfl (by kernel_rfl) (by kernel_rfl) (by kernel_rfl) (fun _ _ _ h => h) (Or.inl ⟨by kernel_rfl, ?_⟩) (by assumption) ?_
     rotate_left 1
     ·((intro w hSw; (try dsimp only at hSw); go_simp) <;> (try with_reducible rfl))
     (try simp only [Act.put, List.setIfInBounds_toArray, List.set_cons_zero, List.set_cons_succ])
     refine wpAnyH_take (i := 4) (oi := ⟨some 83, _, _, _, _, _⟩) (v := ?_) rfl (by kernel_rfl) (by kernel_rfl) (by kernel_rfl) (fun _ _ _ h => h) (Or.inl ⟨by kernel_rfl, ?_⟩) (by assumption) ?_
     rotate_left 1
     ·((intro w hSw; (try dsimp only at hSw); go_simp) <;> (try with_reducible rfl))
     (try simp only [Act.put, List.setIfInBounds_toArray, List.set_cons_zero, List.set_cons_succ])
     refine wpAnyH_take (i := 5) (oi := ⟨some 84, _, _, _, _, _⟩) (v := ?_) rfl (by kernel_rfl) (by kernel_rfl) (by kernel_rfl) (fun _ _ _ h => h) (Or.inl ⟨by kernel_rfl, ?_⟩) (by assumption) ?_
     rotate_left 1
     ·((intro w hSw; (try dsimp only at hSw); go_simp) <;> (try with_reducible rfl))
     (try simp only [Act.put, List.setIfInBounds_toArray, List.set_cons_zero, List.set_cons_succ])
     refine wpAnyH_take (i := 6) (oi := ⟨some 85, _, _, _, _, _⟩) (v := ?_) rfl (by kernel_rfl) (by kernel_rfl) (by kernel_rfl) (fun _ _ _ h => h) (Or.inl ⟨by kernel_rfl, ?_⟩) (by assumption) ?_
     rotate_left 1
     ·((intro w hSw; (try dsimp only at hSw); go_simp) <;> (try with_reducible rfl))
     (try simp only [Act.put, List.setIfInBounds_toArray, List.set_cons_zero, List.set_cons_succ])
     refine wpAnyH_take (i := 7) (oi := ⟨some 86, _, _, _, _, _⟩) (v := ?_) rfl (by kernel_rfl) (by kernel_rfl) (by kernel_rfl) (fun _ _ _ h => h) (Or.inl ⟨by kernel_rfl, ?_⟩) (by assumption) ?_
     rotate_left 1
     ·((intro w hSw; (try dsimp only at hSw); go_simp) <;> (try with_reducible rfl))
     (try simp only [Act.put, List.setIfInBounds_toArray, List.set_cons_zero, List.set_cons_succ])
     refine wpAnyH_take (i := 8) (oi := ⟨some 87, _, _, _, _, _⟩) (v := ?_) rfl (by kernel_rfl) (by kernel_rfl) (by kernel_rfl) (fun _ _ _ h => h) (Or.inl ⟨by kernel_rfl, ?_⟩) (by assumption) ?_
     rotate_left 1
     ·((intro w hSw; (try dsimp only at hSw); go_simp) <;> (try with_reducible rfl))
     (try simp only [Act.put, List.setIfInBounds_toArray, List.set_cons_zero, List.set_cons_succ])
     refine wpAnyH_take (i := 9) (oi := ⟨some 88, _, _, _, _, _⟩) (v := ?_) rfl (by kernel_rfl) (by kernel_rfl) (by kernel_rfl) (fun _ _ _ h => h) (Or.inl ⟨by kernel_rfl, ?_⟩) (by assumption) ?_
     rotate_left 1
     ·((intro w hSw; (try dsimp only at hSw); go_simp) <;> (try with_reducible rfl))
     (try simp only [Act.put, List.setIfInBounds_toArray, List.set_cons_zero, List.set_cons_succ])
     refine wpAnyH_ready (rs := [10]) (by kernel_rfl) (by simp) ?_
     refine AllReadyH.cons (o := ⟨some 89, _, _, _, _, _⟩) rfl (fun K hK => ?_) AllReadyH.nil
     go_simp
     refine (Lg.same_any qr ql qA pA qc pc qx v0 X1.out X2.out).mono ?_
     rintro e v1 ⟨rfl, hb⟩
     have B2 := Lib.hid (B1.out.trans (hb.mono B1.out.size))
     obtain ⟨k1, k2, k3, k4, k5, k6, k7, k8⟩ := hHeld
     have hH := And.intro (keep_cell hb k1) (And.intro (keep_cell hb k2) (And.intro (keep_cell hb k3) (And.intro (keep_cell hb k4) (And.intro (keep_cell hb k5) (And.intro (keep_cell hb k6) (And.intro (keep_cell hb k7) (keep_cell hb k8)))))))
     clear k1 k2 k3 k4 k5 k6 k7 k8 hb X1 X2 B1
     go_wp2_with fail
     refine hK.out _ _ hH (fun hHeld => ?_)
     clear hK K
     clear hH
     (try simp only [Act.put, List.setIfInBounds_toArray, List.set_cons_zero, List.set_cons_succ])
     refine wpAnyH_take (i := 11) (oi := ⟨some 90, _, _, _, _, _⟩) (v := ?_) rfl (by kernel_rfl) (by kernel_rfl) (by kernel_rfl) (fun _ _ _ h => h) (Or.inl ⟨by kernel_rfl, ?_⟩) (by assumption) ?_
     rotate_left 1
     ·((intro w hSw; (try dsimp only at hSw); go_simp) <;> (try with_reducible rfl))
     (try simp only [Act.put, List.setIfInBounds_toArray, List.set_cons_zero, List.set_cons_succ])
     refine wpAnyH_done (by kernel_rfl) ?_ _
     clear hHeld
     go_wp2
     go_roundw
     case rel => exact ⟨k + 1, by omega, num_i (by omega), Lib.hid B2.out⟩
     case measure => simp [intOf]; omega
    ·obtain rfl : k = ll.length := by omega
     obtain ⟨wA, hwA⟩ : ∃ wA, wA = wr := ⟨_, rfl⟩
     have HBA := Lib.hid (show Below w0.heap.size w0 wA by rw [hwA]; exact HB.out)
     go_wp2_with fail
     rw [← hwA]
     clear hwA HB G1 G2
     go_loopw [7] (fun i wr => ∃ k : Nat, k ≤ tl.length ∧ i = .int .i64 k ∧ Hid (Below w0.heap.size w0 wr)) (fun i _ => tl.length - (intOf i).toNat)
     case atStart => exact ⟨0, Nat.zero_le _, rfl, Lib.hid HBA.out⟩
     case round =>
      clear HBA
      obtain ⟨k, hk, rfl, hbl⟩ := hrel
      have HB := Lib.hid hbl.out
      clear hbl
      have G1 := (HS1.out.below HB.out).2.2.1
      have G2 := (HU1.out.below HB.out).2.2.1
      dsimp only at G1 G2
      by_cases hlt : k < tl.length
      ·obtain ⟨b1, o1, rfl, hb1, hc1, hcell1⟩ := tip_cells (HS.out.then HB.out).t (by dsimp only; omega)
       obtain ⟨b2, o2, rfl, hb2, hc2, hcell2⟩ := tip_cells (HU.out.then HB.out).t (by dsimp only; omega)
       obtain ⟨e1, e2⟩ := hcell1 k hlt
       obtain ⟨f1, f2⟩ := hcell2 k hlt
       dsimp only at e1 e2 f1 f2
       clear hcell1 hcell2
       generalize tl.getD k (0, 0) = q at *
       obtain ⟨qa, qb⟩ := q
       dsimp only at e1 e2 f1 f2
       go_wp2_with fail
       go_quiet (fail)
       go_wp2
       go_roundw
       case rel => exact ⟨k + 1, by omega, num_i (by omega), Lib.hid (below_drewN HB.out _)⟩
       case measure => simp [intOf]; omega
      ·obtain rfl : k = tl.length := by omega
       go_wp2
       go_ret
       exact ⟨rfl, Below.call HB0.out HB.out⟩
end Go.Proofs.Ytacjonncakhhmaa

/- Stocks: what must come of every program. -/
import Derived.Test.YtacjonncakhhmaaPc32
import Derived.Test.YtacjonncakhhmaaPc36
namespace Go.Proofs.Ytacjonncakhhmaa
open Go.RowKit
/-- The tip in an arm's hand, by the stock itself. -/
noncomputable def haV (d : Dk) (a : Ab) (b' : Int) : Int × Bool := if rgS d a = true then (if (hdF a b').2 = true then ((a.c.length : Int) + (hdF a b').1, true) else (-1, false)) else (-1, false)
set_option maxRecDepth 100000 in
set_option maxHeartbeats 4000000 in
theorem hand_any (d : Dk) (s : Stk) (b' : Int) (w : World) (hd : d.In w w.heap.size) (hs : s.In w w.heap.size) : Calls Try.prog 19 #[d.v, s.v, .int .i64 b'] w fun e w' => e = .returned (.tuple #[.int .i64 (haV d s.ab b').1, .bool (haV d s.ab b').2]) ∧ Below w.heap.size w w' := by
 obtain ⟨w0, hw0⟩ : ∃ w0, w0 = (w.alloc (.cells #[.slice d.bA d.bn d.bc, .slice d.pA d.pn d.pc, .slice d.rA d.rn d.rc, .int .i64 d.arms] 26)).alloc (.cells #[.slice s.cA s.cl.length s.cc, .slice s.lA s.ll.length s.lc, .slice s.tA s.tl.length s.tc, .int .i64 s.st, .int .i64 s.inn, .int .i64 s.out] 33) := ⟨_, rfl⟩
 have HB0 := Lib.hid (show Below w.heap.size w w0 by rw [hw0]; exact Below.al (Below.al (Below.refl _ _) _) _)
 have HD0 := Lib.hid (hd.then HB0.out)
 have HS0 := Lib.hid (hs.then HB0.out)
 have HK0 := Lib.hid (show DkAt w0 w.heap.size d by rw [hw0]; exact (Cells4.new w _ _ _ _ _).below (Below.al (Below.refl _ _) _))
 have HT0 := Lib.hid (show SkAt w0 (w.heap.size + 1) s by
  have e : (w.alloc (.cells #[.slice d.bA d.bn d.bc, .slice d.pA d.pn d.pc, .slice d.rA d.rn d.rc, .int .i64 d.arms] 26)).heap.size = w.heap.size + 1 := by simp
  rw [hw0, ← e]
  exact Cells6.new (w.alloc (.cells #[.slice d.bA d.bn d.bc, .slice d.pA d.pn d.pc, .slice d.rA d.rn d.rc, .int .i64 d.arms] 26)) 33 _ _ _ _ _ _)
 have HRG := Lib.hid (fun w h1 h2 => right_s d s w h1 h2)
 have HHD := Lib.hid (fun w h => Tp.held_any (.slice s.tA s.tl.length s.tc) s.tl b' w h)
 have HHF := Lib.hid (show Tp.fstV (Tp.hdP s.tl b' 0) s.tl.length = hdF s.ab b' from rfl)
 have HL := Lib.hid (rg_lens d s)
 have HV := Lib.hid (show haV d s.ab b' = (if rgS d s.ab = true then (if (hdF s.ab b').2 = true then ((s.cl.length : Int) + (hdF s.ab b').1, true) else (-1, false)) else (-1, false)) from rfl)
 have HAT := Lib.hid (hdF_at s.ab b')
 obtain ⟨⟨f1, f2⟩, hf⟩ : ∃ x, hdF s.ab b' = x := ⟨_, rfl⟩
 rw [hf] at HV HAT HHF
 dsimp only at HV HAT
 obtain ⟨⟨v1, v2⟩, hv⟩ : ∃ x, haV d s.ab b' = x := ⟨_, rfl⟩
 rw [hv]
 rw [hv] at HV
 dsimp only
 obtain ⟨r, hr⟩ : ∃ r, rgS d s.ab = r := ⟨_, rfl⟩
 rw [hr] at HV HRG HL
 obtain ⟨t0, t1, t2, t3, t4, t5, _⟩ := HT0.out
 obtain ⟨d0, d1, d2, d3, _⟩ := HK0.out
 clear hd hs hf hv hr
 cases r
 case false =>
  have hVV : v1 = -1 ∧ v2 = false := by have h := HV.out; exact ⟨congrArg Prod.fst h, congrArg Prod.snd h⟩
  obtain ⟨rfl, rfl⟩ := hVV
  go_enter Try.func19, Try.ntmps19
  go_wp2_with fail
  rw [← hw0]
  clear hw0
  refine (HRG.out _ HD0.out HS0.out).mono ?_
  rintro e w1 ⟨rfl, hb1⟩
  have HB1 := Lib.hid (Below.call HB0.out hb1)
  clear hb1 t0 t1 t2 t3 t4 t5 d0 d1 d2 d3
  go_wp2
  refine bodyPost_ret (v := .tuple #[.int .i64 (-1), .bool false]) ?_ rfl ⟨rfl, HB1.out⟩
  simp [results, Try.results19, go_sem]
 go_enter Try.func19, Try.ntmps19
 go_wp2_with fail
 rw [← hw0]
 clear hw0
 refine (HRG.out _ HD0.out HS0.out).mono ?_
 rintro e w1 ⟨rfl, hb1⟩
 have HB1 := Lib.hid (Below.call HB0.out hb1)
 have HS1 := Lib.hid (HS0.out.then hb1)
 have HT1 := Lib.hid (HT0.out.below hb1)
 clear hb1 t0 t1 t2 t3 t4 t5 d0 d1 d2 d3
 obtain ⟨t0, t1, t2, t3, t4, t5, _⟩ := HT1.out
 go_wp2_with fail
 refine (HHD.out _ HS1.out.t).mono ?_
 rintro e w2 ⟨rfl, hb2⟩
 rw [HHF.out]
 have HB2 := Lib.hid (Below.call HB1.out hb2)
 have HT2 := Lib.hid (HT1.out.below hb2)
 clear hb2 t0 t1 t2 t3 t4 t5
 obtain ⟨t0, t1, t2, t3, t4, t5, _⟩ := HT2.out
 cases f2
 case false =>
  have hVV : v1 = -1 ∧ v2 = false := by have h := HV.out; exact ⟨congrArg Prod.fst h, congrArg Prod.snd h⟩
  obtain ⟨rfl, rfl⟩ := hVV
  go_wp2
  refine bodyPost_ret (v := .tuple #[.int .i64 (-1), .bool false]) ?_ rfl ⟨rfl, HB2.out⟩
  simp [results, Try.results19, go_sem]
 have hVV : v1 = (s.cl.length : Int) + f1 ∧ v2 = true := by have h := HV.out; exact ⟨congrArg Prod.fst h, congrArg Prod.snd h⟩
 obtain ⟨rfl, rfl⟩ := hVV
 obtain ⟨k, rfl, hk⟩ := HAT.out rfl
 have hwr : Go.RowKit.wrap64 ((s.cl.length : Int) + (k : Int)) = (s.cl.length : Int) + k := by
  have h1 := (HL.out (by simp)).1
  have h2 := (HL.out (by simp)).2.2.1
  have h3 : k < s.tl.length := hk
  exact wrap64_fits _ (by unfold fits; omega)
 clear hk
 go_wp2
 --CUT1
 refine bodyPost_ret (v := .tuple #[.int .i64 ((s.cl.length : Int) + k), .bool true]) ?_ rfl ⟨rfl, HB2.out⟩
 simp [results, Try.results19, go_sem]
 exact hwr
end Go.Proofs.Ytacjonncakhhmaa
namespace Go.Proofs.Ytacjonncakhhmaa
open Go.RowKit
/-- A well's cell, by the stock itself. -/
noncomputable def lkV (d : Dk) (a : Ab) (id : Int) : Cel.Ce × Int := if rgS d a = true then (if isP d 1 id = true then (a.c.getD id.toNat ce0, 0) else (ce0, 3)) else (ce0, 130)
set_option maxRecDepth 100000 in
set_option maxHeartbeats 4000000 in
theorem look_any (d : Dk) (s : Stk) (id : Int) (w : World) (hd : d.In w w.heap.size) (hs : s.In w w.heap.size) (hid : fits id) : Calls Try.prog 17 #[d.v, s.v, .int .i64 id] w fun e w' => e = .returned (Cel.ceE (lkV d s.ab id).1 (lkV d s.ab id).2) ∧ Below w.heap.size w w' := by
 obtain ⟨w0, hw0⟩ : ∃ w0, w0 = ((w.alloc (.cells #[.slice d.bA d.bn d.bc, .slice d.pA d.pn d.pc, .slice d.rA d.rn d.rc, .int .i64 d.arms] 26)).alloc (.cells #[.slice s.cA s.cl.length s.cc, .slice s.lA s.ll.length s.lc, .slice s.tA s.tl.length s.tc, .int .i64 s.st, .int .i64 s.inn, .int .i64 s.out] 33)).alloc (.cells #[.int .i64 0, .int .i64 0, .int .i64 0] 41) := ⟨_, rfl⟩
 have HB0 := Lib.hid (show Below w.heap.size w w0 by rw [hw0]; exact Below.al (Below.al (Below.al (Below.refl _ _) _) _) _)
 have HD0 := Lib.hid (hd.then HB0.out)
 have HS0 := Lib.hid (hs.then HB0.out)
 have HK0 := Lib.hid (show DkAt w0 w.heap.size d by rw [hw0]; exact ((Cells4.new w _ _ _ _ _).below (Below.al (Below.refl _ _) _)).below (Below.al (Below.refl _ _) _))
 have HT0 := Lib.hid (show SkAt w0 (w.heap.size + 1) s by
  have e : (w.alloc (.cells #[.slice d.bA d.bn d.bc, .slice d.pA d.pn d.pc, .slice d.rA d.rn d.rc, .int .i64 d.arms] 26)).heap.size = w.heap.size + 1 := by simp
  rw [hw0, ← e]
  exact (Cells6.new (w.alloc (.cells #[.slice d.bA d.bn d.bc, .slice d.pA d.pn d.pc, .slice d.rA d.rn d.rc, .int .i64 d.arms] 26)) 33 _ _ _ _ _ _).below (Below.al (Below.refl _ _) _))
 have HR0 := Lib.hid (show Cells3 w0 (w.heap.size + 2) (.int .i64 0) (.int .i64 0) (.int .i64 0) by
  have e : ((w.alloc (.cells #[.slice d.bA d.bn d.bc, .slice d.pA d.pn d.pc, .slice d.rA d.rn d.rc, .int .i64 d.arms] 26)).alloc (.cells #[.slice s.cA s.cl.length s.cc, .slice s.lA s.ll.length s.lc, .slice s.tA s.tl.length s.tc, .int .i64 s.st, .int .i64 s.inn, .int .i64 s.out] 33)).heap.size = w.heap.size + 2 := by simp
  rw [hw0, ← e]
  exact Cells3.new ((w.alloc (.cells #[.slice d.bA d.bn d.bc, .slice d.pA d.pn d.pc, .slice d.rA d.rn d.rc, .int .i64 d.arms] 26)).alloc (.cells #[.slice s.cA s.cl.length s.cc, .slice s.lA s.ll.length s.lc, .slice s.tA s.tl.length s.tc, .int .i64 s.st, .int .i64 s.inn, .int .i64 s.out] 33)) 41 _ _ _)
 have HRG := Lib.hid (fun w h1 h2 => right_s d s w h1 h2)
 have HIP := Lib.hid (fun w h => isPart_any d 1 id hid w h)
 have HAB := Lib.hid (rg_ab d s.ab)
 have HPE := Lib.hid (fun h => (isP_eq d h id).1)
 have HV := Lib.hid (show lkV d s.ab id = (if rgS d s.ab = true then (if isP d 1 id = true then (s.cl.getD id.toNat ce0, 0) else (ce0, 3)) else (ce0, 130)) from rfl)
 obtain ⟨⟨v1, v2⟩, hv⟩ : ∃ x, lkV d s.ab id = x := ⟨_, rfl⟩
 rw [hv]
 rw [hv] at HV
 dsimp only
 obtain ⟨r, hr⟩ : ∃ r, rgS d s.ab = r := ⟨_, rfl⟩
 obtain ⟨p, hp⟩ : ∃ p, isP d 1 id = p := ⟨_, rfl⟩
 rw [hr] at HV HRG HAB
 rw [hp] at HV HIP HPE
 obtain ⟨t0, t1, t2, t3, t4, t5, _⟩ := HT0.out
 obtain ⟨d0, d1, d2, d3, _⟩ := HK0.out
 clear hd hs hv hr hp hid
 cases r
 case false =>
  have hVV : v1 = ce0 ∧ v2 = 130 := by have h := HV.out; exact ⟨congrArg Prod.fst h, congrArg Prod.snd h⟩
  obtain ⟨rfl, rfl⟩ := hVV
  go_enter Try.func17, Try.ntmps17
  go_wp2_with fail
  rw [← hw0]
  clear hw0
  refine (HRG.out _ HD0.out HS0.out).mono ?_
  rintro e w1 ⟨rfl, hb1⟩
  have HB1 := Lib.hid (Below.call HB0.out hb1)
  have HR1 := Lib.hid (HR0.out.below hb1)
  obtain ⟨r0, r1, r2, y0, y1, y2, _⟩ := HR1.out
  clear hb1 t0 t1 t2 t3 t4 t5 d0 d1 d2 d3
  go_wp2
  obtain ⟨q0, q1, q2, _⟩ := HR1.out.set (.int .i64 0) (.int .i64 0) (.int .i64 0)
  refine bodyPost_ret (v := Cel.ceE ce0 130) ?_ rfl ⟨rfl, below_set3 HB1.out (by omega) _ _ _⟩
  simp [results, Try.results17, go_sem, q0, q1, q2, ce0]
 go_enter Try.func17, Try.ntmps17
 go_wp2_with fail
 rw [← hw0]
 clear hw0
 refine (HRG.out _ HD0.out HS0.out).mono ?_
 rintro e w1 ⟨rfl, hb1⟩
 have HB1 := Lib.hid (Below.call HB0.out hb1)
 have HD1 := Lib.hid (HD0.out.then hb1)
 have HS1 := Lib.hid (HS0.out.then hb1)
 have HT1 := Lib.hid (HT0.out.below hb1)
 have HR1 := Lib.hid (HR0.out.below hb1)
 have HK1 := Lib.hid (HK0.out.below hb1)
 clear hb1 t0 t1 t2 t3 t4 t5 d0 d1 d2 d3
 obtain ⟨d0, d1, d2, d3, _⟩ := HK1.out
 go_wp2_with fail
 refine (HIP.out _ HD1.out).mono ?_
 rintro e w2 ⟨rfl, hb2⟩
 have HB2 := Lib.hid (Below.call HB1.out hb2)
 have HT2 := Lib.hid (HT1.out.below hb2)
 have HR2 := Lib.hid (HR1.out.below hb2)
 have HS2 := Lib.hid (HS1.out.then hb2)
 clear hb2 d0 d1 d2 d3
 obtain ⟨r0, r1, r2, y0, y1, y2, _⟩ := HR2.out
 cases p
 case false =>
  have hVV : v1 = ce0 ∧ v2 = 3 := by have h := HV.out; exact ⟨congrArg Prod.fst h, congrArg Prod.snd h⟩
  obtain ⟨rfl, rfl⟩ := hVV
  go_wp2
  obtain ⟨q0, q1, q2, _⟩ := HR2.out.set (.int .i64 0) (.int .i64 0) (.int .i64 0)
  refine bodyPost_ret (v := Cel.ceE ce0 3) ?_ rfl ⟨rfl, below_set3 HB2.out (by omega) _ _ _⟩
  simp [results, Try.results17, go_sem, q0, q1, q2, ce0]
 have hVV : v1 = s.cl.getD id.toNat ce0 ∧ v2 = 0 := by have h := HV.out; exact ⟨congrArg Prod.fst h, congrArg Prod.snd h⟩
 obtain ⟨hv1, rfl⟩ := hVV
 have hin : 0 ≤ id ∧ id < (wellN d : Int) := of_decide_eq_true (HPE.out (HAB.out (by simp)).2.2.2.1).symm
 have hlen : s.cl.length = wellN d := (HAB.out (by simp)).2.2.2.2.1
 obtain ⟨k, rfl⟩ : ∃ k : Nat, id = k := ⟨id.toNat, by omega⟩
 have hk : k < s.cl.length := by omega
 obtain ⟨gb, off, eA, _, hc, hcell⟩ := ce_cells HS2.out.c (by omega)
 obtain ⟨c0, c1, c2⟩ := hcell k hk
 have e2 : (k : Int).toNat = k := by omega
 rw [e2] at hv1
 rw [← hv1] at c0 c1 c2
 obtain ⟨va, vb, vc⟩ := v1
 obtain ⟨t0, _⟩ := HT2.out
 rw [eA] at t0
 have HH := Lib.hid (show (k : Int) < s.cl.length by omega)
 have hkk := HH.out
 clear hcell hin hlen hv1 e2 hk eA
 go_wp2
 --CUT1
 obtain ⟨q0, q1, q2, _⟩ := HR2.out.set (.int .i64 va) (.int .i64 vb) (.int .i64 vc)
 refine bodyPost_ret (v := Cel.ceE ⟨va, vb, vc⟩ 0) ?_ rfl ⟨rfl, below_set3 HB2.out (by omega) _ _ _⟩
 simp [results, Try.results17, go_sem, q0, q1, q2]
end Go.Proofs.Ytacjonncakhhmaa
namespace Go.Proofs.Ytacjonncakhhmaa
open Go.RowKit
theorem cgE_ok {d : Dk} {a : Ab} {b' : Int} (E : Int) (h : rgS d a = true) (h1 : 1 ≤ b') (h2 : b' ≤ d.arms) : cgE d a b' E = E := by
 unfold cgE
 rw [if_pos h, if_pos ⟨h1, h2⟩]
theorem ls_cm (A P R S : Option Addr) : cgE (lsD A P R S) lsA 2 (moE (lsD A P R S) lsA 0 1 15) = 0 := by
 rw [cgE_ok _ (ls_r0 A P R S) (by decide) (by show (2 : Int) ≤ 2; decide)]
 exact ls_mE A P R S
theorem ls_ct (A P R S : Option Addr) : cgE (lsD A P R S) lsM 1 (taE (lsD A P R S) lsM 1 2) = 0 := by
 rw [cgE_ok _ (ls_r1 A P R S) (by decide) (by show (1 : Int) ≤ 2; decide)]
 exact ls_tE A P R S
theorem ls_lk (A P R S : Option Addr) : lkV (lsD A P R S) lsM 1 = (⟨100, 15, 1⟩, 0) := by
 unfold lkV
 rw [if_pos (ls_r1 A P R S), (isP_eq _ (ls_chk A P R S) 1).1, ls_well, if_pos (by decide)]
 rfl
theorem ls_ha (A P R S : Option Addr) : haV (lsD A P R S) lsT 1 = (2, true) := by
 unfold haV
 rw [if_pos (ls_r2 A P R S), ls_hd1, if_pos rfl]
 rfl
set_option maxRecDepth 100000 in
set_option maxHeartbeats 4000000 in
theorem ls_In (w : World) : (lsD (some ⟨w.heap.size, 0, none⟩) (some ⟨w.heap.size + 1 + 1, 0, none⟩) (some ⟨w.heap.size + 1 + 1 + 1, 0, none⟩) (some ⟨w.heap.size + 1, 0, none⟩)).In ((((w.alloc (.cells #[.float .f64 0, .float .f64 4621256167635550208] 70)).alloc (.cells #[.int .i64 40] 3)).alloc (.cells #[.int .i64 1, .int .i64 2, .float .f64 4607182418800017408, .float .f64 0, .float .f64 0, .int .i64 100, .slice (some ⟨w.heap.size + 1, 0, none⟩) 1 1] 72)).alloc (.cells #[.int .i64 1, .int .i64 1, .float .f64 4611686018427387904, .float .f64 0, .float .f64 0] 74)) (w.heap.size + 1 + 1 + 1 + 1) := by
 obtain ⟨H, hH⟩ : ∃ H, w.heap.size = H := ⟨_, rfl⟩
 rw [hH]
 have hA := Lk.IsL.lits (K := KF) w lsB #[.float .f64 0, .float .f64 4621256167635550208] (show ∀ x ∈ lsB, x < 18446744073709551616 by decide) rfl (by decide) H hH
 have hw2 : w.alloc (.cells #[.float .f64 0, .float .f64 4621256167635550208] KF.E) = w.alloc (.cells #[.float .f64 0, .float .f64 4621256167635550208] 70) := rfl
 rw [hw2] at hA
 clear hw2
 have hs2 : (w.alloc (.cells #[.float .f64 0, .float .f64 4621256167635550208] 70)).heap.size = H + 1 := by simp [hH]
 generalize w.alloc (.cells #[.float .f64 0, .float .f64 4621256167635550208] 70) = w2 at *
 have hS : KI.IsL (w2.alloc (.cells #[.int .i64 40] 3)) (H + 1 + 1) (.slice (some ⟨H + 1, 0, none⟩) 1 1) [40] := Lk.IsL.lits (K := KI) w2 [40] #[.int .i64 40] (by intro x hx; simp at hx; subst hx; show fits 40; decide) rfl (by decide) (H + 1) hs2
 have hb3 := Below.al (Below.refl w2.heap.size w2) (.cells #[.int .i64 40] 3)
 have hs3 : (w2.alloc (.cells #[.int .i64 40] 3)).heap.size = H + 1 + 1 := by simp [hs2]
 generalize w2.alloc (.cells #[.int .i64 40] 3) = w3 at *
 have hP : KP.IsL (w3.alloc (.cells #[.int .i64 1, .int .i64 2, .float .f64 4607182418800017408, .float .f64 0, .float .f64 0, .int .i64 100, .slice (some ⟨H + 1, 0, none⟩) 1 1] 72)) (H + 1 + 1 + 1) (.slice (some ⟨H + 1 + 1, 0, none⟩) 1 1) [lsP (some ⟨H + 1, 0, none⟩)] :=
  Lk.IsL.lits (K := KP) w3 [lsP (some ⟨H + 1, 0, none⟩)] #[.int .i64 1, .int .i64 2, .float .f64 4607182418800017408, .float .f64 0, .float .f64 0, .int .i64 100, .slice (some ⟨H + 1, 0, none⟩) 1 1] (by
   intro x hx
   simp at hx
   subst hx
   show fits 1 ∧ fits 2 ∧ (4607182418800017408 : Nat) < 18446744073709551616 ∧ (0 : Nat) < 18446744073709551616 ∧ (0 : Nat) < 18446744073709551616 ∧ fits 100
   decide) rfl (by simp) (H + 1 + 1) hs3
 have hb4 := Below.al (Below.refl w3.heap.size w3) (.cells #[.int .i64 1, .int .i64 2, .float .f64 4607182418800017408, .float .f64 0, .float .f64 0, .int .i64 100, .slice (some ⟨H + 1, 0, none⟩) 1 1] 72)
 have hs4 : (w3.alloc (.cells #[.int .i64 1, .int .i64 2, .float .f64 4607182418800017408, .float .f64 0, .float .f64 0, .int .i64 100, .slice (some ⟨H + 1, 0, none⟩) 1 1] 72)).heap.size = H + 1 + 1 + 1 := by simp [hs3]
 generalize w3.alloc (.cells #[.int .i64 1, .int .i64 2, .float .f64 4607182418800017408, .float .f64 0, .float .f64 0, .int .i64 100, .slice (some ⟨H + 1, 0, none⟩) 1 1] 72) = w4 at *
 have hR : KR.IsL (w4.alloc (.cells #[.int .i64 1, .int .i64 1, .float .f64 4611686018427387904, .float .f64 0, .float .f64 0] 74)) (H + 1 + 1 + 1 + 1) (.slice (some ⟨H + 1 + 1 + 1, 0, none⟩) 1 1) [lsR] :=
  Lk.IsL.lits (K := KR) w4 [lsR] #[.int .i64 1, .int .i64 1, .float .f64 4611686018427387904, .float .f64 0, .float .f64 0] (by
   intro x hx
   simp at hx
   subst hx
   show fits 1 ∧ fits 1 ∧ (4611686018427387904 : Nat) < 18446744073709551616 ∧ (0 : Nat) < 18446744073709551616 ∧ (0 : Nat) < 18446744073709551616
   decide) rfl (by simp) (H + 1 + 1 + 1) hs4
 have hb5 := Below.al (Below.refl w4.heap.size w4) (.cells #[.int .i64 1, .int .i64 1, .float .f64 4611686018427387904, .float .f64 0, .float .f64 0] 74)
 generalize w4.alloc (.cells #[.int .i64 1, .int .i64 1, .float .f64 4611686018427387904, .float .f64 0, .float .f64 0] 74) = w5 at *
 rw [hs4] at hb5
 rw [hs3] at hb4
 rw [hs2] at hb3
 refine ⟨(((hA.below hb3).more (by omega)).below (hb4.trans (hb5.mono (by omega))) : KF.IsL w5 (H + 1 + 1) _ _).more (by omega), ((hP.below hb5).more (by omega)), hR, fun q hq => ?_, (by show fits 2; decide)⟩
 have hq' : q = lsP (some ⟨H + 1, 0, none⟩) := by simpa [lsD] using hq
 subst hq'
 exact ((hS.below hb4).more (by omega : H + 1 + 1 ≤ H + 1 + 1 + 1)).below hb5 |>.more (by omega)
set_option maxRecDepth 100000 in
set_option maxHeartbeats 4000000 in
theorem lives13 (w : World) : Calls Try.prog 11 #[] w fun e w' => e = .returned (.bool true) ∧ Below w.heap.size w w' := by
 have hsf := fun (w : World) (a : Addr) (m : Mode) (b : Nat) => run_store_float (P := Try.prog) (w := w) (a := a) (m := m) .f64 b
 obtain ⟨w0, hw0⟩ : ∃ w0, w0 = (((((w.alloc (.cells #[.float .f64 0, .float .f64 4621256167635550208] 70)).alloc (.cells #[.int .i64 40] 3)).alloc (.cells #[.int .i64 1, .int .i64 2, .float .f64 4607182418800017408, .float .f64 0, .float .f64 0, .int .i64 100, .slice (some ⟨w.heap.size + 1, 0, none⟩) 1 1] 72)).alloc (.cells #[.int .i64 1, .int .i64 1, .float .f64 4611686018427387904, .float .f64 0, .float .f64 0] 74)).alloc (.cells #[.slice (some ⟨w.heap.size, 0, none⟩) 2 2, .slice (some ⟨w.heap.size + 1 + 1, 0, none⟩) 1 1, .slice (some ⟨w.heap.size + 1 + 1 + 1, 0, none⟩) 1 1, .int .i64 2] 26)) := ⟨_, rfl⟩
 have HB0 := Lib.hid (show Below w.heap.size w w0 by rw [hw0]; exact Below.al (Below.al (Below.al (Below.al (Below.al (Below.refl _ _) _) _) _) _) _)
 have HD0 := Lib.hid (show (lsD (some ⟨w.heap.size, 0, none⟩) (some ⟨w.heap.size + 1 + 1, 0, none⟩) (some ⟨w.heap.size + 1 + 1 + 1, 0, none⟩) (some ⟨w.heap.size + 1, 0, none⟩)).In w0 w0.heap.size by
  have h := ls_In w
  have hs : ((((w.alloc (.cells #[.float .f64 0, .float .f64 4621256167635550208] 70)).alloc (.cells #[.int .i64 40] 3)).alloc (.cells #[.int .i64 1, .int .i64 2, .float .f64 4607182418800017408, .float .f64 0, .float .f64 0, .int .i64 100, .slice (some ⟨w.heap.size + 1, 0, none⟩) 1 1] 72)).alloc (.cells #[.int .i64 1, .int .i64 1, .float .f64 4611686018427387904, .float .f64 0, .float .f64 0] 74)).heap.size = w.heap.size + 1 + 1 + 1 + 1 := by simp
  rw [← hs] at h
  rw [hw0]
  exact h.then (Below.al (Below.refl _ _) _))
 have HF := Lib.hid (show Cells4 w0 (w.heap.size + 1 + 1 + 1 + 1) (.slice (some ⟨w.heap.size, 0, none⟩) 2 2) (.slice (some ⟨w.heap.size + 1 + 1, 0, none⟩) 1 1) (.slice (some ⟨w.heap.size + 1 + 1 + 1, 0, none⟩) 1 1) (.int .i64 2) from by
  have hs : ((((w.alloc (.cells #[.float .f64 0, .float .f64 4621256167635550208] 70)).alloc (.cells #[.int .i64 40] 3)).alloc (.cells #[.int .i64 1, .int .i64 2, .float .f64 4607182418800017408, .float .f64 0, .float .f64 0, .int .i64 100, .slice (some ⟨w.heap.size + 1, 0, none⟩) 1 1] 72)).alloc (.cells #[.int .i64 1, .int .i64 1, .float .f64 4611686018427387904, .float .f64 0, .float .f64 0] 74)).heap.size = w.heap.size + 1 + 1 + 1 + 1 := by simp
  rw [hw0, ← hs]
  exact Cells4.new ((((w.alloc (.cells #[.float .f64 0, .float .f64 4621256167635550208] 70)).alloc (.cells #[.int .i64 40] 3)).alloc (.cells #[.int .i64 1, .int .i64 2, .float .f64 4607182418800017408, .float .f64 0, .float .f64 0, .int .i64 100, .slice (some ⟨w.heap.size + 1, 0, none⟩) 1 1] 72)).alloc (.cells #[.int .i64 1, .int .i64 1, .float .f64 4611686018427387904, .float .f64 0, .float .f64 0] 74)) 26 _ _ _ _)
 obtain ⟨A, hA⟩ : ∃ A, A = some (⟨w.heap.size, 0, none⟩ : Addr) := ⟨_, rfl⟩
 obtain ⟨P, hP⟩ : ∃ P, P = some (⟨w.heap.size + 1 + 1, 0, none⟩ : Addr) := ⟨_, rfl⟩
 obtain ⟨R, hR⟩ : ∃ R, R = some (⟨w.heap.size + 1 + 1 + 1, 0, none⟩ : Addr) := ⟨_, rfl⟩
 obtain ⟨S, hS⟩ : ∃ S, S = some (⟨w.heap.size + 1, 0, none⟩ : Addr) := ⟨_, rfl⟩
 rw [← hA, ← hP, ← hR] at HF
 rw [← hA, ← hP, ← hR, ← hS] at HD0
 obtain ⟨Db, hDb⟩ : ∃ Db, Db = w.heap.size + 1 + 1 + 1 + 1 := ⟨_, rfl⟩
 rw [← hDb] at HF
 have C1 := Lib.hid (fun (V : World) (h : Below w0.heap.size w0 V) => show Calls Try.prog 12 #[.agg #[.slice A 2 2, .slice P 1 1, .slice R 1 1, .int .i64 2]] V fun e w' => ∃ s : Stk, e = .returned (.tuple #[s.v, .int .i64 0]) ∧ s.In w' w'.heap.size ∧ s.ab = lsA ∧ Below V.heap.size V w' by
  have := new_any (lsD A P R S) V (HD0.out.then h)
  rw [ls_z, if_pos rfl, ls_new] at this
  exact this)
 have C2 := Lib.hid (fun (s : Stk) (ha : s.ab = lsA) (V : World) (h : Below w0.heap.size w0 V) (hs : s.In V V.heap.size) => show Calls Try.prog 43 #[.agg #[.slice A 2 2, .slice P 1 1, .slice R 1 1, .int .i64 2], s.v, .int .i64 2, .int .i64 0, .int .i64 1, .int .i64 15] V fun e w' => ∃ t : Stk, e = .returned (.tuple #[t.v, .int .i64 0]) ∧ t.In w' w'.heap.size ∧ t.ab = lsM ∧ Below V.heap.size V w' by
  have := move_any (lsD A P R S) s 2 0 1 15 V (HD0.out.then h) hs (by decide) (by decide) (by decide)
  rw [ha, ls_cm, if_pos rfl, ls_mA] at this
  exact this)
 have C3 := Lib.hid (fun (s : Stk) (ha : s.ab = lsM) (V : World) (hs : s.In V V.heap.size) => show Calls Try.prog 21 #[s.v] V fun e w' => e = .returned (.tuple #[.int .i64 40, .int .i64 0]) ∧ Below V.heap.size V w' by
  have hc : s.cl = lsM.c := congrArg Ab.c ha
  have := total_any s V hs (by rw [hc]; decide)
  rw [hc] at this
  exact this)
 have C4 := Lib.hid (fun (s : Stk) (ha : s.ab = lsM) (V : World) (h : Below w0.heap.size w0 V) (hs : s.In V V.heap.size) => show Calls Try.prog 17 #[.agg #[.slice A 2 2, .slice P 1 1, .slice R 1 1, .int .i64 2], s.v, .int .i64 1] V fun e w' => e = .returned (.tuple #[.agg #[.int .i64 100, .int .i64 15, .int .i64 1], .int .i64 0]) ∧ Below V.heap.size V w' by
  have := look_any (lsD A P R S) s 1 V (HD0.out.then h) hs (by decide)
  rw [ha, ls_lk] at this
  exact this)
 have C5 := Lib.hid (fun (s : Stk) (ha : s.ab = lsM) (V : World) (h : Below w0.heap.size w0 V) (hs : s.In V V.heap.size) => show Calls Try.prog 44 #[.agg #[.slice A 2 2, .slice P 1 1, .slice R 1 1, .int .i64 2], s.v, .int .i64 1, .int .i64 2] V fun e w' => ∃ t : Stk, e = .returned (.tuple #[t.v, .int .i64 0]) ∧ t.In w' w'.heap.size ∧ t.ab = lsT ∧ Below V.heap.size V w' by
  have := take_any (lsD A P R S) s 1 2 V (HD0.out.then h) hs (by decide)
  rw [ha, ls_ct, if_pos rfl, ls_tA] at this
  exact this)
 have C6 := Lib.hid (fun (s : Stk) (ha : s.ab = lsT) (V : World) (h : Below w0.heap.size w0 V) (hs : s.In V V.heap.size) => show Calls Try.prog 19 #[.agg #[.slice A 2 2, .slice P 1 1, .slice R 1 1, .int .i64 2], s.v, .int .i64 1] V fun e w' => e = .returned (.tuple #[.int .i64 2, .bool true]) ∧ Below V.heap.size V w' by
  have := hand_any (lsD A P R S) s 1 V (HD0.out.then h) hs
  rw [ha, ls_ha] at this
  exact this)
 have C7 := Lib.hid (fun (s : Stk) (ha : s.ab = lsT) (V : World) (h : Below w0.heap.size w0 V) (hs : s.In V V.heap.size) => show Calls Try.prog 15 #[.agg #[.slice A 2 2, .slice P 1 1, .slice R 1 1, .int .i64 2], s.v] V fun e w' => e = .returned (.bool true) ∧ Below V.heap.size V w' by
  have := right_s (lsD A P R S) s V (HD0.out.then h) hs
  rw [ha, ls_r2] at this
  exact this)
 clear hS
 go_enter Try.func11, Try.ntmps11
 go_wp2_with fail
 rw [← hw0, ← hA, ← hP, ← hR]
 try rw [← hDb]
 --CUT1
 clear hw0 hA hP hR hDb
 refine (C1.out w0 (Below.refl _ _)).mono ?_
 rintro e w1 ⟨s, rfl, hi1, ha1, hb1⟩
 obtain ⟨v1, hv1⟩ : ∃ v1, v1 = w1.alloc (.cells #[.slice s.cA s.cl.length s.cc, .slice s.lA s.ll.length s.lc, .slice s.tA s.tl.length s.tc, .int .i64 s.st, .int .i64 s.inn, .int .i64 s.out] 33) := ⟨_, rfl⟩
 have hba := Below.al (Below.refl w1.heap.size w1) (.cells #[.slice s.cA s.cl.length s.cc, .slice s.lA s.ll.length s.lc, .slice s.tA s.tl.length s.tc, .int .i64 s.st, .int .i64 s.inn, .int .i64 s.out] 33)
 rw [← hv1] at hba
 have HB1 := Lib.hid (show Below w0.heap.size w0 v1 from Below.call hb1 hba)
 have HI1 := Lib.hid (hi1.then hba)
 have HS1 := Lib.hid (show SkAt v1 w1.heap.size s by rw [hv1]; exact Cells6.new w1 _ _ _ _ _ _ _)
 have HA1 := Lib.hid ha1
 clear hi1 ha1 hb1 hba
 obtain ⟨d0, d1, d2, d3, -⟩ := HF.out.below HB1.out
 obtain ⟨a0, a1, a2, a3, a4, a5, -⟩ := HS1.out
 rw [hv1] at d0 d1 d2 d3 a0 a1 a2 a3 a4 a5
 go_wp2_with fail
 --CUT2
 rw [← hv1]
 clear hv1 d0 d1 d2 d3 a0 a1 a2 a3 a4 a5
 generalize w1.heap.size = G1 at *
 refine (C2.out s HA1.out v1 HB1.out HI1.out).mono ?_
 rintro e w2 ⟨t, rfl, hi2, ha2, hb2⟩
 obtain ⟨v2, hv2⟩ : ∃ v2, v2 = w2.alloc (.cells #[.slice t.cA t.cl.length t.cc, .slice t.lA t.ll.length t.lc, .slice t.tA t.tl.length t.tc, .int .i64 t.st, .int .i64 t.inn, .int .i64 t.out] 33) := ⟨_, rfl⟩
 have hba := Below.al (Below.refl w2.heap.size w2) (.cells #[.slice t.cA t.cl.length t.cc, .slice t.lA t.ll.length t.lc, .slice t.tA t.tl.length t.tc, .int .i64 t.st, .int .i64 t.inn, .int .i64 t.out] 33)
 rw [← hv2] at hba
 have HB2 := Lib.hid (show Below w0.heap.size w0 v2 from Below.call HB1.out (Below.call hb2 hba))
 have HI2 := Lib.hid (hi2.then hba)
 have HS2 := Lib.hid (show SkAt v2 w2.heap.size t by rw [hv2]; exact Cells6.new w2 _ _ _ _ _ _ _)
 have HA2 := Lib.hid ha2
 clear hi2 ha2 hb2 hba HI1 HS1 HB1
 obtain ⟨a0, a1, a2, a3, a4, a5, -⟩ := HS2.out
 rw [hv2] at a0 a1 a2 a3 a4 a5
 go_wp2_with fail
 --CUT3
 rw [← hv2]
 clear hv2 a0 a1 a2 a3 a4 a5
 generalize w2.heap.size = G2 at *
 refine (C3.out t HA2.out v2 HI2.out).mono ?_
 rintro e w3 ⟨rfl, hb3⟩
 have HB3 := Lib.hid (Below.call HB2.out hb3)
 have HI3 := Lib.hid (HI2.out.then hb3)
 have HS3 := Lib.hid (HS2.out.below hb3)
 clear hb3 HI2 HS2 HB2
 obtain ⟨d0, d1, d2, d3, -⟩ := HF.out.below HB3.out
 obtain ⟨a0, a1, a2, a3, a4, a5, -⟩ := HS3.out
 go_wp2_with fail
 --CUT4
 clear d0 d1 d2 d3 a0 a1 a2 a3 a4 a5
 refine (C4.out t HA2.out w3 HB3.out HI3.out).mono ?_
 rintro e w4 ⟨rfl, hb4⟩
 obtain ⟨v4, hv4⟩ : ∃ v4, v4 = w4.alloc (.cells #[.int .i64 100, .int .i64 15, .int .i64 1] 41) := ⟨_, rfl⟩
 have hba := Below.al hb4 (.cells #[.int .i64 100, .int .i64 15, .int .i64 1] 41)
 rw [← hv4] at hba
 have HB4 := Lib.hid (Below.call HB3.out hba)
 have HI4 := Lib.hid (HI3.out.then hba)
 have HS4 := Lib.hid (HS3.out.below hba)
 have HC4 := Lib.hid (show Cells3 v4 w4.heap.size (.int .i64 100) (.int .i64 15) (.int .i64 1) by rw [hv4]; exact Cells3.new w4 _ _ _ _)
 clear hb4 hba HI3 HS3 HB3
 obtain ⟨d0, d1, d2, d3, -⟩ := HF.out.below HB4.out
 obtain ⟨a0, a1, a2, a3, a4, a5, -⟩ := HS4.out
 rw [hv4] at d0 d1 d2 d3 a0 a1 a2 a3 a4 a5
 go_wp2_with fail
 --CUT5
 rw [← hv4]
 clear hv4 d0 d1 d2 d3 a0 a1 a2 a3 a4 a5
 generalize w4.heap.size = G4 at *
 refine (C5.out t HA2.out v4 HB4.out HI4.out).mono ?_
 rintro e w5 ⟨u, rfl, hi5, ha5, hb5⟩
 obtain ⟨v5, hv5⟩ : ∃ v5, v5 = w5.alloc (.cells #[.slice u.cA u.cl.length u.cc, .slice u.lA u.ll.length u.lc, .slice u.tA u.tl.length u.tc, .int .i64 u.st, .int .i64 u.inn, .int .i64 u.out] 33) := ⟨_, rfl⟩
 have hba := Below.al (Below.refl w5.heap.size w5) (.cells #[.slice u.cA u.cl.length u.cc, .slice u.lA u.ll.length u.lc, .slice u.tA u.tl.length u.tc, .int .i64 u.st, .int .i64 u.inn, .int .i64 u.out] 33)
 rw [← hv5] at hba
 have HB5 := Lib.hid (show Below w0.heap.size w0 v5 from Below.call HB4.out (Below.call hb5 hba))
 have HI5 := Lib.hid (hi5.then hba)
 have HS5 := Lib.hid (show SkAt v5 w5.heap.size u by rw [hv5]; exact Cells6.new w5 _ _ _ _ _ _ _)
 have HC5 := Lib.hid (HC4.out.below (Below.call hb5 hba))
 have HA5 := Lib.hid ha5
 clear hi5 ha5 hb5 hba HI4 HS4 HB4 HC4
 obtain ⟨d0, d1, d2, d3, -⟩ := HF.out.below HB5.out
 obtain ⟨a0, a1, a2, a3, a4, a5, -⟩ := HS5.out
 rw [hv5] at d0 d1 d2 d3 a0 a1 a2 a3 a4 a5
 go_wp2_with fail
 --CUT6
 rw [← hv5]
 clear hv5 d0 d1 d2 d3 a0 a1 a2 a3 a4 a5
 generalize w5.heap.size = G5 at *
 refine (C6.out u HA5.out v5 HB5.out HI5.out).mono ?_
 rintro e w6 ⟨rfl, hb6⟩
 have HB6 := Lib.hid (Below.call HB5.out hb6)
 have HI6 := Lib.hid (HI5.out.then hb6)
 have HS6 := Lib.hid (HS5.out.below hb6)
 have HC6 := Lib.hid (HC5.out.below hb6)
 clear hb6 HI5 HS5 HB5 HC5
 obtain ⟨d0, d1, d2, d3, -⟩ := HF.out.below HB6.out
 obtain ⟨a0, a1, a2, a3, a4, a5, -⟩ := HS6.out
 obtain ⟨c0, c1, c2, -⟩ := HC6.out
 go_wp2_with fail
 --CUT7
 refine (C7.out u HA5.out w6 HB6.out HI6.out).mono ?_
 rintro e w7 ⟨rfl, hb7⟩
 have HB7 := Lib.hid (Below.call HB0.out (Below.call HB6.out hb7))
 clear hb7 d0 d1 d2 d3 a0 a1 a2 a3 a4 a5 c0 c1 c2
 go_wp2
 go_ret
 exact ⟨rfl, HB7.out⟩
end Go.Proofs.Ytacjonncakhhmaa

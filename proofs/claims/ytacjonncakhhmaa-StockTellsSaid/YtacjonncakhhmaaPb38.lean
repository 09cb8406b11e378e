/- Stocks: Hand, Look, by the reference. -/
import Derived.Test.YtacjonncakhhmaaPb34
import Derived.Test.YtacjonncakhhmaaPb35
import Derived.Test.YtacjonncakhhmaaPb37
namespace Go.Proofs.Ytacjonncakhhmaa
open Go.RowKit
/-- The tip in an arm's hand, by the stock itself. -/
noncomputable def haV (d : Dk) (a : Ab) (b' : Int) : Int × Bool := if rgS d a = true then (if (hdF a b').2 = true then ((a.c.length : Int) + (hdF a b').1, true) else (-1, false)) else (-1, false)
set_option maxRecDepth 100000 in
set_option maxHeartbeats 4000000 in
theorem hand_any (d : Dk) (s : Stk) (b' : Int) (w : World) (hd : d.In w w.heap.size) (hs : s.In w w.heap.size) : Calls Try.prog 19 #[d.v, s.v, .int .i64 b'] w fun e w' => e = .returned (.tuple #[.int .i64 (haV d s.ab b').1, .bool (haV d s.ab b').2]) ∧ Below w.heap.size w w' := by
 obtain ⟨w0, hw0⟩ : ∃ w0, w0 = (w.alloc (.cells #[.slice d.bA d.bn d.bc, .slice d.pA d.pn d.pc, .slice d.rA d.rn d.rc, .int .i64 d.arms] 26)).alloc (.cells #[.slice s.cA s.cl.length s.cc, .slice s.lA s.ll.length s.lc, .slice s.tA s.tl.length s.tc, .int .i64 s.st, .int .i64 s.inn, .int .i64 s.out] 33) := ⟨_, rfl⟩
 have HB0 := Lib.hid (show Below w.heap.size w w0 by rw [hw0]; exact Below.al (Below.al (Below.refl _ _) _) _)
 have HD0 := Lib.hid (hd.then HB0.out)
 have HS0 := Lib.hid (hs.then HB0.out)
 have HK0 := Lib.hid (show DkAt w0 w.heap.size d by rw [hw0]; exact (Cells4.new w _ _ _ _ _).below (Below.al (Below.refl _ _) _))
 have HT0 := Lib.hid (show SkAt w0 (w.heap.size + 1) s by
  have e : (w.alloc (.cells #[.slice d.bA d.bn d.bc, .slice d.pA d.pn d.pc, .slice d.rA d.rn d.rc, .int .i64 d.arms] 26)).heap.size = w.heap.size + 1 := by simp
  rw [hw0, ← e]
  exact Cells6.new (w.alloc (.cells #[.slice d.bA d.bn d.bc, .slice d.pA d.pn d.pc, .slice d.rA d.rn d.rc, .int .i64 d.arms] 26)) 33 _ _ _ _ _ _)
 have HRG := Lib.hid (fun w h1 h2 => right_s d s w h1 h2)
 have HHD := Lib.hid (fun w h => Tp.held_any (.slice s.tA s.tl.length s.tc) s.tl b' w h)
 have HHF := Lib.hid (show Tp.fstV (Tp.hdP s.tl b' 0) s.tl.length = hdF s.ab b' from rfl)
 have HL := Lib.hid (rg_lens d s)
 have HV := Lib.hid (show haV d s.ab b' = (if rgS d s.ab = true then (if (hdF s.ab b').2 = true then ((s.cl.length : Int) + (hdF s.ab b').1, true) else (-1, false)) else (-1, false)) from rfl)
 have HAT := Lib.hid (hdF_at s.ab b')
 obtain ⟨⟨f1, f2⟩, hf⟩ : ∃ x, hdF s.ab b' = x := ⟨_, rfl⟩
 rw [hf] at HV HAT HHF
 dsimp only at HV HAT
 obtain ⟨⟨v1, v2⟩, hv⟩ : ∃ x, haV d s.ab b' = x := ⟨_, rfl⟩
 rw [hv]
 rw [hv] at HV
 dsimp only
 obtain ⟨r, hr⟩ : ∃ r, rgS d s.ab = r := ⟨_, rfl⟩
 rw [hr] at HV HRG HL
 obtain ⟨t0, t1, t2, t3, t4, t5, _⟩ := HT0.out
 obtain ⟨d0, d1, d2, d3, _⟩ := HK0.out
 clear hd hs hf hv hr
 cases r
 case false =>
  have hVV : v1 = -1 ∧ v2 = false := by have h := HV.out; exact ⟨congrArg Prod.fst h, congrArg Prod.snd h⟩
  obtain ⟨rfl, rfl⟩ := hVV
  go_enter Try.func19, Try.ntmps19
  go_wp2_with fail
  rw [← hw0]
  clear hw0
  refine (HRG.out _ HD0.out HS0.out).mono ?_
  rintro e w1 ⟨rfl, hb1⟩
  have HB1 := Lib.hid (Below.call HB0.out hb1)
  clear hb1 t0 t1 t2 t3 t4 t5 d0 d1 d2 d3
  go_wp2
  refine bodyPost_ret (v := .tuple #[.int .i64 (-1), .bool false]) ?_ rfl ⟨rfl, HB1.out⟩
  simp [results, Try.results19, go_sem]
 go_enter Try.func19, Try.ntmps19
 go_wp2_with fail
 rw [← hw0]
 clear hw0
 refine (HRG.out _ HD0.out HS0.out).mono ?_
 rintro e w1 ⟨rfl, hb1⟩
 have HB1 := Lib.hid (Below.call HB0.out hb1)
 have HS1 := Lib.hid (HS0.out.then hb1)
 have HT1 := Lib.hid (HT0.out.below hb1)
 clear hb1 t0 t1 t2 t3 t4 t5 d0 d1 d2 d3
 obtain ⟨t0, t1, t2, t3, t4, t5, _⟩ := HT1.out
 go_wp2_with fail
 refine (HHD.out _ HS1.out.t).mono ?_
 rintro e w2 ⟨rfl, hb2⟩
 rw [HHF.out]
 have HB2 := Lib.hid (Below.call HB1.out hb2)
 have HT2 := Lib.hid (HT1.out.below hb2)
 clear hb2 t0 t1 t2 t3 t4 t5
 obtain ⟨t0, t1, t2, t3, t4, t5, _⟩ := HT2.out
 cases f2
 case false =>
  have hVV : v1 = -1 ∧ v2 = false := by have h := HV.out; exact ⟨congrArg Prod.fst h, congrArg Prod.snd h⟩
  obtain ⟨rfl, rfl⟩ := hVV
  go_wp2
  refine bodyPost_ret (v := .tuple #[.int .i64 (-1), .bool false]) ?_ rfl ⟨rfl, HB2.out⟩
  simp [results, Try.results19, go_sem]
 have hVV : v1 = (s.cl.length : Int) + f1 ∧ v2 = true := by have h := HV.out; exact ⟨congrArg Prod.fst h, congrArg Prod.snd h⟩
 obtain ⟨rfl, rfl⟩ := hVV
 obtain ⟨k, rfl, hk⟩ := HAT.out rfl
 have hwr : Go.RowKit.wrap64 ((s.cl.length : Int) + (k : Int)) = (s.cl.length : Int) + k := by
  have h1 := (HL.out (by simp)).1
  have h2 := (HL.out (by simp)).2.2.1
  have h3 : k < s.tl.length := hk
  exact wrap64_fits _ (by unfold fits; omega)
 clear hk
 go_wp2
 --CUT1
 refine bodyPost_ret (v := .tuple #[.int .i64 ((s.cl.length : Int) + k), .bool true]) ?_ rfl ⟨rfl, HB2.out⟩
 simp [results, Try.results19, go_sem]
 exact hwr
end Go.Proofs.Ytacjonncakhhmaa
namespace Go.Proofs.Ytacjonncakhhmaa
open Go.RowKit
/-- A well's cell, by the stock itself. -/
noncomputable def lkV (d : Dk) (a : Ab) (id : Int) : Cel.Ce × Int := if rgS d a = true then (if isP d 1 id = true then (a.c.getD id.toNat ce0, 0) else (ce0, 3)) else (ce0, 130)
set_option maxRecDepth 100000 in
set_option maxHeartbeats 4000000 in
theorem look_any (d : Dk) (s : Stk) (id : Int) (w : World) (hd : d.In w w.heap.size) (hs : s.In w w.heap.size) (hid : fits id) : Calls Try.prog 17 #[d.v, s.v, .int .i64 id] w fun e w' => e = .returned (Cel.ceE (lkV d s.ab id).1 (lkV d s.ab id).2) ∧ Below w.heap.size w w' := by
 obtain ⟨w0, hw0⟩ : ∃ w0, w0 = ((w.alloc (.cells #[.slice d.bA d.bn d.bc, .slice d.pA d.pn d.pc, .slice d.rA d.rn d.rc, .int .i64 d.arms] 26)).alloc (.cells #[.slice s.cA s.cl.length s.cc, .slice s.lA s.ll.length s.lc, .slice s.tA s.tl.length s.tc, .int .i64 s.st, .int .i64 s.inn, .int .i64 s.out] 33)).alloc (.cells #[.int .i64 0, .int .i64 0, .int .i64 0] 41) := ⟨_, rfl⟩
 have HB0 := Lib.hid (show Below w.heap.size w w0 by rw [hw0]; exact Below.al (Below.al (Below.al (Below.refl _ _) _) _) _)
 have HD0 := Lib.hid (hd.then HB0.out)
 have HS0 := Lib.hid (hs.then HB0.out)
 have HK0 := Lib.hid (show DkAt w0 w.heap.size d by rw [hw0]; exact ((Cells4.new w _ _ _ _ _).below (Below.al (Below.refl _ _) _)).below (Below.al (Below.refl _ _) _))
 have HT0 := Lib.hid (show SkAt w0 (w.heap.size + 1) s by
  have e : (w.alloc (.cells #[.slice d.bA d.bn d.bc, .slice d.pA d.pn d.pc, .slice d.rA d.rn d.rc, .int .i64 d.arms] 26)).heap.size = w.heap.size + 1 := by simp
  rw [hw0, ← e]
  exact (Cells6.new (w.alloc (.cells #[.slice d.bA d.bn d.bc, .slice d.pA d.pn d.pc, .slice d.rA d.rn d.rc, .int .i64 d.arms] 26)) 33 _ _ _ _ _ _).below (Below.al (Below.refl _ _) _))
 have HR0 := Lib.hid (show Cells3 w0 (w.heap.size + 2) (.int .i64 0) (.int .i64 0) (.int .i64 0) by
  have e : ((w.alloc (.cells #[.slice d.bA d.bn d.bc, .slice d.pA d.pn d.pc, .slice d.rA d.rn d.rc, .int .i64 d.arms] 26)).alloc (.cells #[.slice s.cA s.cl.length s.cc, .slice s.lA s.ll.length s.lc, .slice s.tA s.tl.length s.tc, .int .i64 s.st, .int .i64 s.inn, .int .i64 s.out] 33)).heap.size = w.heap.size + 2 := by simp
  rw [hw0, ← e]
  exact Cells3.new ((w.alloc (.cells #[.slice d.bA d.bn d.bc, .slice d.pA d.pn d.pc, .slice d.rA d.rn d.rc, .int .i64 d.arms] 26)).alloc (.cells #[.slice s.cA s.cl.length s.cc, .slice s.lA s.ll.length s.lc, .slice s.tA s.tl.length s.tc, .int .i64 s.st, .int .i64 s.inn, .int .i64 s.out] 33)) 41 _ _ _)
 have HRG := Lib.hid (fun w h1 h2 => right_s d s w h1 h2)
 have HIP := Lib.hid (fun w h => isPart_any d 1 id hid w h)
 have HAB := Lib.hid (rg_ab d s.ab)
 have HPE := Lib.hid (fun h => (isP_eq d h id).1)
 have HV := Lib.hid (show lkV d s.ab id = (if rgS d s.ab = true then (if isP d 1 id = true then (s.cl.getD id.toNat ce0, 0) else (ce0, 3)) else (ce0, 130)) from rfl)
 obtain ⟨⟨v1, v2⟩, hv⟩ : ∃ x, lkV d s.ab id = x := ⟨_, rfl⟩
 rw [hv]
 rw [hv] at HV
 dsimp only
 obtain ⟨r, hr⟩ : ∃ r, rgS d s.ab = r := ⟨_, rfl⟩
 obtain ⟨p, hp⟩ : ∃ p, isP d 1 id = p := ⟨_, rfl⟩
 rw [hr] at HV HRG HAB
 rw [hp] at HV HIP HPE
 obtain ⟨t0, t1, t2, t3, t4, t5, _⟩ := HT0.out
 obtain ⟨d0, d1, d2, d3, _⟩ := HK0.out
 clear hd hs hv hr hp hid
 cases r
 case false =>
  have hVV : v1 = ce0 ∧ v2 = 130 := by have h := HV.out; exact ⟨congrArg Prod.fst h, congrArg Prod.snd h⟩
  obtain ⟨rfl, rfl⟩ := hVV
  go_enter Try.func17, Try.ntmps17
  go_wp2_with fail
  rw [← hw0]
  clear hw0
  refine (HRG.out _ HD0.out HS0.out).mono ?_
  rintro e w1 ⟨rfl, hb1⟩
  have HB1 := Lib.hid (Below.call HB0.out hb1)
  have HR1 := Lib.hid (HR0.out.below hb1)
  obtain ⟨r0, r1, r2, y0, y1, y2, _⟩ := HR1.out
  clear hb1 t0 t1 t2 t3 t4 t5 d0 d1 d2 d3
  go_wp2
  obtain ⟨q0, q1, q2, _⟩ := HR1.out.set (.int .i64 0) (.int .i64 0) (.int .i64 0)
  refine bodyPost_ret (v := Cel.ceE ce0 130) ?_ rfl ⟨rfl, below_set3 HB1.out (by omega) _ _ _⟩
  simp [results, Try.results17, go_sem, q0, q1, q2, ce0]
 go_enter Try.func17, Try.ntmps17
 go_wp2_with fail
 rw [← hw0]
 clear hw0
 refine (HRG.out _ HD0.out HS0.out).mono ?_
 rintro e w1 ⟨rfl, hb1⟩
 have HB1 := Lib.hid (Below.call HB0.out hb1)
 have HD1 := Lib.hid (HD0.out.then hb1)
 have HS1 := Lib.hid (HS0.out.then hb1)
 have HT1 := Lib.hid (HT0.out.below hb1)
 have HR1 := Lib.hid (HR0.out.below hb1)
 have HK1 := Lib.hid (HK0.out.below hb1)
 clear hb1 t0 t1 t2 t3 t4 t5 d0 d1 d2 d3
 obtain ⟨d0, d1, d2, d3, _⟩ := HK1.out
 go_wp2_with fail
 refine (HIP.out _ HD1.out).mono ?_
 rintro e w2 ⟨rfl, hb2⟩
 have HB2 := Lib.hid (Below.call HB1.out hb2)
 have HT2 := Lib.hid (HT1.out.below hb2)
 have HR2 := Lib.hid (HR1.out.below hb2)
 have HS2 := Lib.hid (HS1.out.then hb2)
 clear hb2 d0 d1 d2 d3
 obtain ⟨r0, r1, r2, y0, y1, y2, _⟩ := HR2.out
 cases p
 case false =>
  have hVV : v1 = ce0 ∧ v2 = 3 := by have h := HV.out; exact ⟨congrArg Prod.fst h, congrArg Prod.snd h⟩
  obtain ⟨rfl, rfl⟩ := hVV
  go_wp2
  obtain ⟨q0, q1, q2, _⟩ := HR2.out.set (.int .i64 0) (.int .i64 0) (.int .i64 0)
  refine bodyPost_ret (v := Cel.ceE ce0 3) ?_ rfl ⟨rfl, below_set3 HB2.out (by omega) _ _ _⟩
  simp [results, Try.results17, go_sem, q0, q1, q2, ce0]
 have hVV : v1 = s.cl.getD id.toNat ce0 ∧ v2 = 0 := by have h := HV.out; exact ⟨congrArg Prod.fst h, congrArg Prod.snd h⟩
 obtain ⟨hv1, rfl⟩ := hVV
 have hin : 0 ≤ id ∧ id < (wellN d : Int) := of_decide_eq_true (HPE.out (HAB.out (by simp)).2.2.2.1).symm
 have hlen : s.cl.length = wellN d := (HAB.out (by simp)).2.2.2.2.1
 obtain ⟨k, rfl⟩ : ∃ k : Nat, id = k := ⟨id.toNat, by omega⟩
 have hk : k < s.cl.length := by omega
 obtain ⟨gb, off, eA, _, hc, hcell⟩ := ce_cells HS2.out.c (by omega)
 obtain ⟨c0, c1, c2⟩ := hcell k hk
 have e2 : (k : Int).toNat = k := by omega
 rw [e2] at hv1
 rw [← hv1] at c0 c1 c2
 obtain ⟨va, vb, vc⟩ := v1
 obtain ⟨t0, _⟩ := HT2.out
 rw [eA] at t0
 have HH := Lib.hid (show (k : Int) < s.cl.length by omega)
 have hkk := HH.out
 clear hcell hin hlen hv1 e2 hk eA
 go_wp2
 --CUT1
 obtain ⟨q0, q1, q2, _⟩ := HR2.out.set (.int .i64 va) (.int .i64 vb) (.int .i64 vc)
 refine bodyPost_ret (v := Cel.ceE ⟨va, vb, vc⟩ 0) ?_ rfl ⟨rfl, below_set3 HB2.out (by omega) _ _ _⟩
 simp [results, Try.results17, go_sem, q0, q1, q2]
end Go.Proofs.Ytacjonncakhhmaa
namespace Go.Proofs.Ytacjonncakhhmaa
open Go.RowKit
/-- Is a tip in an arm's hand, by what it says? -/
def rhP (xs : List (Int × Int)) (b' : Int) (i : Nat) : Bool := (xs.getD i (0, 0)).1 == 2 && (xs.getD i (0, 0)).2 == b'
def rhV (xs : List (Int × Int)) (b' : Int) : Int := if (Tp.fstV (rhP xs b') xs.length).2 = true then (Tp.fstV (rhP xs b') xs.length).1 else -1
theorem rh_hit {xs : List (Int × Int)} {b' : Int} {k : Nat} (hk : k < xs.length) (h : rhP xs b' k = true) (hn : ∀ j, j < k → rhP xs b' j = false) : rhV xs b' = k := by
 unfold rhV
 rw [Tp.fst_hit _ _ _ hk h hn, if_pos rfl]
theorem rh_none {xs : List (Int × Int)} {b' : Int} (hn : ∀ j, j < xs.length → rhP xs b' j = false) : rhV xs b' = -1 := by
 unfold rhV
 rw [Tp.fst_none _ _ hn, if_neg (by simp)]
theorem fst_same (p q : Nat → Bool) (n : Nat) (h : ∀ i, i < n → p i = q i) : Tp.fstV p n = Tp.fstV q n := by
 by_cases he : ∃ i, i < n ∧ p i = true
 ·obtain ⟨i, hi, hp⟩ := he
  obtain ⟨m, hm, hmin⟩ : ∃ m, (m < n ∧ p m = true) ∧ ∀ j, j < m → ¬ (j < n ∧ p j = true) := by
   induction i using Nat.strongRecOn with
   | ind i ih =>
    by_cases hj : ∃ j, j < i ∧ (j < n ∧ p j = true)
    ·obtain ⟨j, h1, h2, h3⟩ := hj
     exact ih j h1 h2 h3
    ·exact ⟨i, ⟨hi, hp⟩, fun j h1 h2 => hj ⟨j, h1, h2⟩⟩
  have hf : ∀ j, j < m → p j = false := fun j hj => by
   cases e : p j with
   | false => rfl
   | true => exact absurd ⟨by omega, e⟩ (hmin j hj)
  rw [Tp.fst_hit p n m hm.1 hm.2 hf, Tp.fst_hit q n m hm.1 (by rw [← h m hm.1]; exact hm.2) (fun j hj => by rw [← h j (by omega)]; exact hf j hj)]
 ·have hf : ∀ j, j < n → p j = false := fun j hj => by
   cases e : p j with
   | false => rfl
   | true => exact absurd ⟨j, hj, e⟩ he
  rw [Tp.fst_none p n hf, Tp.fst_none q n (fun j hj => by rw [← h j hj]; exact hf j hj)]
/-- In a right stock a tip is in a hand as it says. -/
theorem rh_hd {d : Dk} {a : Ab} (hr : rgS d a = true) (b' : Int) : Tp.fstV (rhP a.t b') a.t.length = hdF a b' := by
 have P := rg_P d a hr
 have hR := (rt_iff _ _).1 P.r
 unfold hdF
 refine fst_same _ _ _ (fun i hi => ?_)
 unfold rhP Tp.hdP
 have h1 := (hR i hi).1
 have e : (Tp.ofV (a.t.getD i (0, 0)).1 (a.t.getD i (0, 0)).2 == 2) = ((a.t.getD i (0, 0)).1 == 2) := by
  rw [Bool.eq_iff_iff, ofV_2, beq_iff_eq]
  constructor
  ·exact fun h => h.1
  ·intro h
   rcases ofV_nz h1 with q | q
   ·omega
   ·exact q
 rw [e, decide_eq_true (show (0 : Int) ≤ (i : Int) by omega), Bool.true_and]
set_option maxRecDepth 100000 in
set_option maxHeartbeats 4000000 in
theorem rhand0_any (s : Stk) (b' : Int) (w : World) (hs : s.In w w.heap.size) : Calls Try.prog 57 #[s.v, .int .i64 b'] w fun e w' => e = .returned (.int .i64 (rhV s.tl b')) ∧ Below w.heap.size w w' := by
 obtain ⟨w0, hw0⟩ : ∃ w0, w0 = w.alloc (.cells #[.slice s.cA s.cl.length s.cc, .slice s.lA s.ll.length s.lc, .slice s.tA s.tl.length s.tc, .int .i64 s.st, .int .i64 s.inn, .int .i64 s.out] 33) := ⟨_, rfl⟩
 have HB0 := Lib.hid (show Below w.heap.size w w0 by rw [hw0]; exact Below.al (Below.refl _ _) _)
 have HT := Lib.hid (hs.t.then HB0.out)
 have HS0 := Lib.hid (show SkAt w0 w.heap.size s by rw [hw0]; exact Cells6.new w _ _ _ _ _ _ _)
 have hl9 := hs.t.2.2
 clear hs
 obtain ⟨cA, cc, cl, lA, lc, ll, tA, tc, tl, st, inn, out⟩ := s
 dsimp only at *
 obtain ⟨-, -, g2, -⟩ := HS0.out
 dsimp only at g2
 have HHIT := Lib.hid (fun k h1 h2 h3 => @rh_hit tl b' k h1 h2 h3)
 have HNON := Lib.hid (fun h => @rh_none tl b' h)
 have HP := Lib.hid (fun k => show rhP tl b' k = ((tl.getD k (0, 0)).1 == 2 && (tl.getD k (0, 0)).2 == b') from rfl)
 generalize rhV tl b' = R at *
 generalize rhP tl b' = P at *
 go_enter Try.func57, Try.ntmps57
 go_wp2_with fail
 rw [← hw0]
 clear hw0
 go_loopw [5] (fun i wr => ∃ k : Nat, k ≤ tl.length ∧ i = .int .i64 k ∧ Hid (∀ j, j < k → P j = false) ∧ wr = w0) (fun i _ => tl.length - (intOf i).toNat)
 case atStart => exact ⟨0, Nat.zero_le _, rfl, Lib.hid (fun j hj => absurd hj (Nat.not_lt_zero _)), rfl⟩
 case round =>
  obtain ⟨k, hk, rfl, hno, rfl⟩ := hrel
  have HNO := Lib.hid hno.out
  clear hno
  by_cases hlt : k < tl.length
  ·obtain ⟨b, off, rfl, hb, hbc, hcell⟩ := tip_cells HT.out (by omega)
   obtain ⟨e1, e2⟩ := hcell k hlt
   have HPk := Lib.hid (HP.out k)
   have HHk := Lib.hid (HHIT.out k hlt)
   clear hcell
   generalize tl.getD k (0, 0) = t at *
   obtain ⟨t1, t2⟩ := t
   dsimp only at e1 e2 HPk
   by_cases h1 : t1 = 2
   ·have h1b : (t1 == 2) = true := by simpa using h1
    by_cases h2 : t2 = b'
    ·have h2b : (t2 == b') = true := by simpa using h2
     have HR := Lib.hid (HHk.out (by rw [HPk.out, h1b, h2b]; rfl) HNO.out)
     clear h1 h2
     go_wp2
     go_ret
     exact ⟨by rw [HR.out]; rfl, HB0.out⟩
    ·have h2b : (t2 == b') = false := by simpa using h2
     have HF := Lib.hid (show P k = false by rw [HPk.out, h1b, h2b]; rfl)
     clear h1 h2
     go_wp2
     go_roundw
     case rel => exact ⟨k + 1, by omega, num_i (by omega), Lib.hid (fun j hj => by
      by_cases e : j = k
      ·rw [e]; exact HF.out
      ·exact HNO.out j (by omega)), by trivial⟩
     case measure => simp [intOf]; omega
   ·have h1b : (t1 == 2) = false := by simpa using h1
    have HF := Lib.hid (show P k = false by rw [HPk.out, h1b]; rfl)
    clear h1
    go_wp2
    go_roundw
    case rel => exact ⟨k + 1, by omega, num_i (by omega), Lib.hid (fun j hj => by
     by_cases e : j = k
     ·rw [e]; exact HF.out
     ·exact HNO.out j (by omega)), by trivial⟩
    case measure => simp [intOf]; omega
  ·obtain rfl : k = tl.length := by omega
   have HR := Lib.hid (HNON.out HNO.out)
   go_wp2
   go_ret
   exact ⟨by rw [HR.out]; rfl, HB0.out⟩
--CUTW
end Go.Proofs.Ytacjonncakhhmaa
namespace Go.Proofs.Ytacjonncakhhmaa
open Go.RowKit
set_option maxRecDepth 100000 in
set_option maxHeartbeats 4000000 in
theorem rhand_any (d : Dk) (s : Stk) (b' : Int) (w : World) (hd : d.In w w.heap.size) (hs : s.In w w.heap.size) : Calls Try.prog 20 #[d.v, s.v, .int .i64 b'] w fun e w' => e = .returned (.tuple #[.int .i64 (haV d s.ab b').1, .bool (haV d s.ab b').2]) ∧ Below w.heap.size w w' := by
 obtain ⟨w0, hw0⟩ : ∃ w0, w0 = (w.alloc (.cells #[.slice d.bA d.bn d.bc, .slice d.pA d.pn d.pc, .slice d.rA d.rn d.rc, .int .i64 d.arms] 26)).alloc (.cells #[.slice s.cA s.cl.length s.cc, .slice s.lA s.ll.length s.lc, .slice s.tA s.tl.length s.tc, .int .i64 s.st, .int .i64 s.inn, .int .i64 s.out] 33) := ⟨_, rfl⟩
 have HB0 := Lib.hid (show Below w.heap.size w w0 by rw [hw0]; exact Below.al (Below.al (Below.refl _ _) _) _)
 have HD0 := Lib.hid (hd.then HB0.out)
 have HS0 := Lib.hid (hs.then HB0.out)
 have HK0 := Lib.hid (show DkAt w0 w.heap.size d by rw [hw0]; exact (Cells4.new w _ _ _ _ _).below (Below.al (Below.refl _ _) _))
 have HT0 := Lib.hid (show SkAt w0 (w.heap.size + 1) s by
  have e : (w.alloc (.cells #[.slice d.bA d.bn d.bc, .slice d.pA d.pn d.pc, .slice d.rA d.rn d.rc, .int .i64 d.arms] 26)).heap.size = w.heap.size + 1 := by simp
  rw [hw0, ← e]
  exact Cells6.new (w.alloc (.cells #[.slice d.bA d.bn d.bc, .slice d.pA d.pn d.pc, .slice d.rA d.rn d.rc, .int .i64 d.arms] 26)) 33 _ _ _ _ _ _)
 have HRG := Lib.hid (fun w h1 h2 => rright_s d s w h1 h2)
 have HHD := Lib.hid (fun w h => rhand0_any s b' w h)
 have HRV := Lib.hid (show rgS d s.ab = true → rhV s.tl b' = (if (hdF s.ab b').2 = true then (hdF s.ab b').1 else -1) from fun h => by
  have e := rh_hd h b'
  show (if (Tp.fstV (rhP s.ab.t b') s.ab.t.length).2 = true then (Tp.fstV (rhP s.ab.t b') s.ab.t.length).1 else -1) = _
  rw [e])
 have HL := Lib.hid (rg_lens d s)
 have HV := Lib.hid (show haV d s.ab b' = (if rgS d s.ab = true then (if (hdF s.ab b').2 = true then ((s.cl.length : Int) + (hdF s.ab b').1, true) else (-1, false)) else (-1, false)) from rfl)
 have HAT := Lib.hid (hdF_at s.ab b')
 obtain ⟨⟨f1, f2⟩, hf⟩ : ∃ x, hdF s.ab b' = x := ⟨_, rfl⟩
 rw [hf] at HV HAT HRV
 dsimp only at HV HAT HRV
 obtain ⟨⟨v1, v2⟩, hv⟩ : ∃ x, haV d s.ab b' = x := ⟨_, rfl⟩
 rw [hv]
 rw [hv] at HV
 dsimp only
 generalize rhV s.tl b' = rv at *
 obtain ⟨r, hr⟩ : ∃ r, rgS d s.ab = r := ⟨_, rfl⟩
 rw [hr] at HV HRG HL HRV
 obtain ⟨t0, t1, t2, t3, t4, t5, _⟩ := HT0.out
 obtain ⟨d0, d1, d2, d3, _⟩ := HK0.out
 clear hd hs hf hv hr
 cases r
 case false =>
  have hVV : v1 = -1 ∧ v2 = false := by have h := HV.out; exact ⟨congrArg Prod.fst h, congrArg Prod.snd h⟩
  obtain ⟨rfl, rfl⟩ := hVV
  go_enter Try.func20, Try.ntmps20
  go_wp2_with fail
  rw [← hw0]
  clear hw0
  refine (HRG.out _ HD0.out HS0.out).mono ?_
  rintro e w1 ⟨rfl, hb1⟩
  have HB1 := Lib.hid (Below.call HB0.out hb1)
  clear hb1 t0 t1 t2 t3 t4 t5 d0 d1 d2 d3
  go_wp2
  refine bodyPost_ret (v := .tuple #[.int .i64 (-1), .bool false]) ?_ rfl ⟨rfl, HB1.out⟩
  simp [results, Try.results20, go_sem]
 go_enter Try.func20, Try.ntmps20
 go_wp2_with fail
 rw [← hw0]
 clear hw0
 refine (HRG.out _ HD0.out HS0.out).mono ?_
 rintro e w1 ⟨rfl, hb1⟩
 have HB1 := Lib.hid (Below.call HB0.out hb1)
 have HS1 := Lib.hid (HS0.out.then hb1)
 have HT1 := Lib.hid (HT0.out.below hb1)
 clear hb1 t0 t1 t2 t3 t4 t5 d0 d1 d2 d3
 obtain ⟨t0, t1, t2, t3, t4, t5, _⟩ := HT1.out
 go_wp2_with fail
 refine (HHD.out _ HS1.out).mono ?_
 rintro e w2 ⟨rfl, hb2⟩
 have HB2 := Lib.hid (Below.call HB1.out hb2)
 have HT2 := Lib.hid (HT1.out.below hb2)
 have HRV := Lib.hid (HRV.out (by simp))
 clear hb2 t0 t1 t2 t3 t4 t5
 obtain ⟨t0, t1, t2, t3, t4, t5, _⟩ := HT2.out
 cases f2
 case false =>
  have hVV : v1 = -1 ∧ v2 = false := by have h := HV.out; exact ⟨congrArg Prod.fst h, congrArg Prod.snd h⟩
  obtain ⟨rfl, rfl⟩ := hVV
  have hrv : rv = -1 := by rw [HRV.out]; rfl
  subst hrv
  go_wp2
  refine bodyPost_ret (v := .tuple #[.int .i64 (-1), .bool false]) ?_ rfl ⟨rfl, HB2.out⟩
  simp [results, Try.results20, go_sem]
 have hVV : v1 = (s.cl.length : Int) + f1 ∧ v2 = true := by have h := HV.out; exact ⟨congrArg Prod.fst h, congrArg Prod.snd h⟩
 obtain ⟨rfl, rfl⟩ := hVV
 obtain ⟨k, rfl, hk⟩ := HAT.out rfl
 have hrv : rv = (k : Int) := by rw [HRV.out]; rfl
 subst hrv
 have hwr : Go.RowKit.wrap64 ((s.cl.length : Int) + (k : Int)) = (s.cl.length : Int) + k := by
  have h1 := (HL.out (by simp)).1
  have h2 := (HL.out (by simp)).2.2.1
  have h3 : k < s.tl.length := hk
  exact wrap64_fits _ (by unfold fits; omega)
 have hk0 : ¬ (k : Int) < 0 := by omega
 clear hk
 go_wp2
 --CUT1
 refine bodyPost_ret (v := .tuple #[.int .i64 ((s.cl.length : Int) + k), .bool true]) ?_ rfl ⟨rfl, HB2.out⟩
 simp [results, Try.results20, go_sem]
 exact hwr
set_option maxRecDepth 100000 in
set_option maxHeartbeats 4000000 in
theorem rlook_any (d : Dk) (s : Stk) (id : Int) (w : World) (hd : d.In w w.heap.size) (hs : s.In w w.heap.size) : Calls Try.prog 18 #[d.v, s.v, .int .i64 id] w fun e w' => e = .returned (Cel.ceE (lkV d s.ab id).1 (lkV d s.ab id).2) ∧ Below w.heap.size w w' := by
 obtain ⟨w0, hw0⟩ : ∃ w0, w0 = ((w.alloc (.cells #[.slice d.bA d.bn d.bc, .slice d.pA d.pn d.pc, .slice d.rA d.rn d.rc, .int .i64 d.arms] 26)).alloc (.cells #[.slice s.cA s.cl.length s.cc, .slice s.lA s.ll.length s.lc, .slice s.tA s.tl.length s.tc, .int .i64 s.st, .int .i64 s.inn, .int .i64 s.out] 33)).alloc (.cells #[.int .i64 0, .int .i64 0, .int .i64 0] 41) := ⟨_, rfl⟩
 have HB0 := Lib.hid (show Below w.heap.size w w0 by rw [hw0]; exact Below.al (Below.al (Below.al (Below.refl _ _) _) _) _)
 have HD0 := Lib.hid (hd.then HB0.out)
 have HS0 := Lib.hid (hs.then HB0.out)
 have HK0 := Lib.hid (show DkAt w0 w.heap.size d by rw [hw0]; exact ((Cells4.new w _ _ _ _ _).below (Below.al (Below.refl _ _) _)).below (Below.al (Below.refl _ _) _))
 have HT0 := Lib.hid (show SkAt w0 (w.heap.size + 1) s by
  have e : (w.alloc (.cells #[.slice d.bA d.bn d.bc, .slice d.pA d.pn d.pc, .slice d.rA d.rn d.rc, .int .i64 d.arms] 26)).heap.size = w.heap.size + 1 := by simp
  rw [hw0, ← e]
  exact (Cells6.new (w.alloc (.cells #[.slice d.bA d.bn d.bc, .slice d.pA d.pn d.pc, .slice d.rA d.rn d.rc, .int .i64 d.arms] 26)) 33 _ _ _ _ _ _).below (Below.al (Below.refl _ _) _))
 have HR0 := Lib.hid (show Cells3 w0 (w.heap.size + 2) (.int .i64 0) (.int .i64 0) (.int .i64 0) by
  have e : ((w.alloc (.cells #[.slice d.bA d.bn d.bc, .slice d.pA d.pn d.pc, .slice d.rA d.rn d.rc, .int .i64 d.arms] 26)).alloc (.cells #[.slice s.cA s.cl.length s.cc, .slice s.lA s.ll.length s.lc, .slice s.tA s.tl.length s.tc, .int .i64 s.st, .int .i64 s.inn, .int .i64 s.out] 33)).heap.size = w.heap.size + 2 := by simp
  rw [hw0, ← e]
  exact Cells3.new ((w.alloc (.cells #[.slice d.bA d.bn d.bc, .slice d.pA d.pn d.pc, .slice d.rA d.rn d.rc, .int .i64 d.arms] 26)).alloc (.cells #[.slice s.cA s.cl.length s.cc, .slice s.lA s.ll.length s.lc, .slice s.tA s.tl.length s.tc, .int .i64 s.st, .int .i64 s.inn, .int .i64 s.out] 33)) 41 _ _ _)
 have HRG := Lib.hid (fun w h1 h2 => rright_s d s w h1 h2)
 have HIP := Lib.hid (fun w => well_any s id w)
 have HPB := Lib.hid (show rgS d s.ab = true → decide (0 ≤ id ∧ id < s.cl.length) = isP d 1 id from fun h => by
  have hh := rg_ab d s.ab h
  have e : s.ab.c.length = s.cl.length := rfl
  rw [(isP_eq d hh.2.2.2.1 id).1, ← hh.2.2.2.2.1, e])
 have HV := Lib.hid (show lkV d s.ab id = (if rgS d s.ab = true then (if isP d 1 id = true then (s.cl.getD id.toNat ce0, 0) else (ce0, 3)) else (ce0, 130)) from rfl)
 obtain ⟨⟨v1, v2⟩, hv⟩ : ∃ x, lkV d s.ab id = x := ⟨_, rfl⟩
 rw [hv]
 rw [hv] at HV
 dsimp only
 obtain ⟨r, hr⟩ : ∃ r, rgS d s.ab = r := ⟨_, rfl⟩
 obtain ⟨p, hp⟩ : ∃ p, isP d 1 id = p := ⟨_, rfl⟩
 rw [hr] at HV HRG HPB
 rw [hp] at HV HPB
 obtain ⟨t0, t1, t2, t3, t4, t5, _⟩ := HT0.out
 obtain ⟨d0, d1, d2, d3, _⟩ := HK0.out
 clear hd hs hv hr hp
 cases r
 case false =>
  have hVV : v1 = ce0 ∧ v2 = 130 := by have h := HV.out; exact ⟨congrArg Prod.fst h, congrArg Prod.snd h⟩
  obtain ⟨rfl, rfl⟩ := hVV
  go_enter Try.func18, Try.ntmps18
  go_wp2_with fail
  rw [← hw0]
  clear hw0
  refine (HRG.out _ HD0.out HS0.out).mono ?_
  rintro e w1 ⟨rfl, hb1⟩
  have HB1 := Lib.hid (Below.call HB0.out hb1)
  have HR1 := Lib.hid (HR0.out.below hb1)
  obtain ⟨r0, r1, r2, y0, y1, y2, _⟩ := HR1.out
  clear hb1 t0 t1 t2 t3 t4 t5 d0 d1 d2 d3
  go_wp2
  obtain ⟨q0, q1, q2, _⟩ := HR1.out.set (.int .i64 0) (.int .i64 0) (.int .i64 0)
  refine bodyPost_ret (v := Cel.ceE ce0 130) ?_ rfl ⟨rfl, below_set3 HB1.out (by omega) _ _ _⟩
  simp [results, Try.results18, go_sem, q0, q1, q2, ce0]
 have HPC := Lib.hid (HPB.out (by simp))
 rw [HPC.out] at HIP
 go_enter Try.func18, Try.ntmps18
 go_wp2_with fail
 rw [← hw0]
 clear hw0
 refine (HRG.out _ HD0.out HS0.out).mono ?_
 rintro e w1 ⟨rfl, hb1⟩
 have HB1 := Lib.hid (Below.call HB0.out hb1)
 have HS1 := Lib.hid (HS0.out.then hb1)
 have HT1 := Lib.hid (HT0.out.below hb1)
 have HR1 := Lib.hid (HR0.out.below hb1)
 clear hb1 t0 t1 t2 t3 t4 t5 d0 d1 d2 d3
 obtain ⟨t0, t1, t2, t3, t4, t5, _⟩ := HT1.out
 go_wp2_with fail
 refine (HIP.out _).mono ?_
 rintro e w2 ⟨rfl, hb2⟩
 have HB2 := Lib.hid (Below.call HB1.out hb2)
 have HT2 := Lib.hid (HT1.out.below hb2)
 have HR2 := Lib.hid (HR1.out.below hb2)
 have HS2 := Lib.hid (HS1.out.then hb2)
 clear hb2 t0 t1 t2 t3 t4 t5
 obtain ⟨r0, r1, r2, y0, y1, y2, _⟩ := HR2.out
 cases p
 case false =>
  have hVV : v1 = ce0 ∧ v2 = 3 := by have h := HV.out; exact ⟨congrArg Prod.fst h, congrArg Prod.snd h⟩
  obtain ⟨rfl, rfl⟩ := hVV
  go_wp2
  obtain ⟨q0, q1, q2, _⟩ := HR2.out.set (.int .i64 0) (.int .i64 0) (.int .i64 0)
  refine bodyPost_ret (v := Cel.ceE ce0 3) ?_ rfl ⟨rfl, below_set3 HB2.out (by omega) _ _ _⟩
  simp [results, Try.results18, go_sem, q0, q1, q2, ce0]
 have hVV : v1 = s.cl.getD id.toNat ce0 ∧ v2 = 0 := by have h := HV.out; exact ⟨congrArg Prod.fst h, congrArg Prod.snd h⟩
 obtain ⟨hv1, rfl⟩ := hVV
 have hin : 0 ≤ id ∧ id < (s.cl.length : Int) := of_decide_eq_true HPC.out
 obtain ⟨k, rfl⟩ : ∃ k : Nat, id = k := ⟨id.toNat, by omega⟩
 have hk : k < s.cl.length := by omega
 obtain ⟨gb, off, eA, _, hc, hcell⟩ := ce_cells HS2.out.c (by omega)
 obtain ⟨c0, c1, c2⟩ := hcell k hk
 have e2 : (k : Int).toNat = k := by omega
 rw [e2] at hv1
 rw [← hv1] at c0 c1 c2
 obtain ⟨va, vb, vc⟩ := v1
 obtain ⟨t0, _⟩ := HT2.out
 rw [eA] at t0
 have HH := Lib.hid (show (k : Int) < s.cl.length by omega)
 have hkk := HH.out
 clear hcell hin hv1 e2 hk eA
 go_wp2
 --CUT1
 obtain ⟨q0, q1, q2, _⟩ := HR2.out.set (.int .i64 va) (.int .i64 vb) (.int .i64 vc)
 refine bodyPost_ret (v := Cel.ceE ⟨va, vb, vc⟩ 0) ?_ rfl ⟨rfl, below_set3 HB2.out (by omega) _ _ _⟩
 simp [results, Try.results18, go_sem, q0, q1, q2]
end Go.Proofs.Ytacjonncakhhmaa

/- Why a request is refused: the reference. -/
import Derived.Test.YtmecohdedghiaaaGreatDoorPl15
import Derived.Test.YtmecohdedghiaaaGreatDoorPl12
import Derived.Deep.Cut
namespace Go.Proofs.YtmecohdedghiaaaGreatDoor
open Go.RowKit
theorem ref_z {d : Dk} {r : Rq} (h : zchk d ≠ 0) : refV d r = (zchk d, 0) := if_pos h
theorem ref_k {d : Dk} {r : Rq} (h : zchk d = 0) (hk : r.k < 1 ∨ 10 < r.k) : refV d r = (150, 0) := by
  have hm : mfV r = (150, 0) := if_pos hk
  unfold refV
  rw [if_neg (by simpa using h), hm, if_pos (by intro h; injection h with h _; exact absurd h (by decide))]
theorem ref_bad {d : Dk} {r : Rq} (h : zchk d = 0) (hk : ¬ (r.k < 1 ∨ 10 < r.k)) (hu : unO r = false) : refV d r = (151, 0) := by
  have hm : mfV r = (151, 0) := by unfold mfV; rw [if_neg hk, if_pos hu]
  unfold refV
  rw [if_neg (by simpa using h), hm, if_pos (by intro h; injection h with h _; exact absurd h (by decide))]
theorem ref_ids {d : Dk} {r : Rq} (h : zchk d = 0) (hk : r.k = 1 ∨ r.k = 2) (hu : unO r = true) : refV d r = idsV d r.il := by
  have hm : mfV r = mbV r.il := by unfold mfV; rw [if_neg (by omega), if_neg (by rw [hu]; simp), if_pos hk]
  have hl : nmL r = r.il.map (fun x => (0, x)) := if_pos hk
  have hf : nmF d r = (r.il.find? fun x => !iwP d 0 x).map (fun x => ((0 : Int), x)) := by unfold nmF; rw [hl, List.find?_map]; rfl
  have hla : lastV r = (0, 0) := by unfold lastV; rw [if_neg (by omega), if_neg (by omega)]
  unfold refV idsV
  rw [if_neg (by simpa using h), hm, hf, hla]
  cases r.il.find? fun x => !iwP d 0 x <;> rfl
theorem ref_go {d : Dk} {r : Rq} (h : zchk d = 0) (hk : ¬ (r.k < 1 ∨ 10 < r.k)) (hu : unO r = true) (hk2 : ¬ (r.k = 1 ∨ r.k = 2)) : refV d r = match nmF d r with | some x => (3, x.2) | none => lastV r := by
  have hm : mfV r = (0, 0) := by unfold mfV; rw [if_neg hk, if_neg (by rw [hu]; simp), if_neg hk2]
  unfold refV
  rw [if_neg (by simpa using h), hm, if_neg (by simp)]; rfl
set_option maxRecDepth 100000 in
set_option maxHeartbeats 4000000 in
theorem rcheck15_any (d : Dk) (r : Rq) (w : World) (hd : d.In w w.heap.size) (hr : r.In w w.heap.size) : Calls Tryz.prog 42 #[d.v, r.val] w fun e w' => e = .returned (rsv (refV d r)) ∧ Below w.heap.size w w' := by
  obtain ⟨w0, hw0⟩ : ∃ w0, w0 = ((w.alloc (.cells #[.slice d.bA d.bn d.bc, .slice d.pA d.pn d.pc, .slice d.rA d.rn d.rc, .int .i64 d.arms] 26)).alloc (.cells r.ob 30)).alloc (.cells #[.int .i64 0, .int .i64 0, .int .i64 0, .int .i64 0, .slice none 0 0] 56) := ⟨_, rfl⟩
  have HB0 := Lib.hid (show Below w.heap.size w w0 by rw [hw0]; exact Below.al (Below.al (Below.al (Below.refl _ _) _) _) _)
  have HD0 := Lib.hid (hd.then HB0.out)
  have HR0 := Lib.hid (hr.then HB0.out)
  have HS0 := Lib.hid (show w0.heap.size = w.heap.size + 3 by rw [hw0]; simp)
  have HK0 := Lib.hid (show DkAt w0 w.heap.size d by rw [hw0]; exact ((Cells4.new w _ _ _ _ _).below (Below.al (Below.refl _ _) _)).below (Below.al (Below.refl _ _) _))
  have HQ0 := Lib.hid (show RqAt w0 (w.heap.size + 1) r by
    have h := (Cells6.new (w.alloc (.cells #[.slice d.bA d.bn d.bc, .slice d.pA d.pn d.pc, .slice d.rA d.rn d.rc, .int .i64 d.arms] 26)) 30 (.int .i64 r.k) (.slice r.iA r.il.length r.ic) (.int .i64 r.a) (.int .i64 r.b) (.int .i64 r.u) (.int .u64 r.v)).below (Below.al (Below.refl _ _) (.cells #[.int .i64 0, .int .i64 0, .int .i64 0, .int .i64 0, .slice none 0 0] 56))
    rw [World.size_alloc] at h
    rw [hw0]; exact h)
  have HC0 := Lib.hid (show Cells5 w0 (w.heap.size + 2) (.int .i64 0) (.int .i64 0) (.int .i64 0) (.int .i64 0) (.slice none 0 0) by
    have h := Cells5.new ((w.alloc (.cells #[.slice d.bA d.bn d.bc, .slice d.pA d.pn d.pc, .slice d.rA d.rn d.rc, .int .i64 d.arms] 26)).alloc (.cells r.ob 30)) 56 (.int .i64 0) (.int .i64 0) (.int .i64 0) (.int .i64 0) (.slice none 0 0)
    rw [World.size_alloc, World.size_alloc] at h
    rw [hw0]; exact h)
  have HZ := Lib.hid (rzcheck_any d w0 HD0.out)
  have HV1 := Lib.hid (fun h => ref_z (d := d) (r := r) h)
  have HV2 := Lib.hid (fun h => ref_k (d := d) (r := r) h)
  have HV3 := Lib.hid (fun h => ref_bad (d := d) (r := r) h)
  have HV4 := Lib.hid (fun h => ref_ids (d := d) (r := r) h)
  have HV5 := Lib.hid (fun h => ref_go (d := d) (r := r) h)
  have HKD := Lib.hid (fun id h w h2 => kind_any d id h w h2)
  have HVO := Lib.hid (fun w => rvolume_any r w hr.v)
  have HRF := Lib.hid (Below.refl w0.heap.size w0)
  have HNF := Lib.hid (show nmF d r = (nmL r).find? fun x => !iwP d x.1 x.2 from rfl)
  obtain ⟨V, hV⟩ : ∃ V, refV d r = V := ⟨_, rfl⟩
  rw [hV] at HV1 HV2 HV3 HV4 HV5 ⊢
  generalize zchk d = z at *
  obtain ⟨k, iA, ic, il, a, b, u, v⟩ := r
  dsimp only at *
  clear hd hr hV
  go_enter Tryz.func42, Tryz.ntmps42
  go_wp2_with fail
  rw [← hw0]
  clear hw0
  refine HZ.out.mono ?_
  rintro e w1 ⟨rfl, hb1⟩
  have HB1 := Lib.hid hb1
  obtain ⟨q0, q1, q2, q3, q4, q5, -⟩ := HQ0.out.below hb1
  clear hb1
  by_cases hz : z = 0
  case neg =>
    have HE := Lib.hid (HV1.out hz)
    have hz' : (z != 0) = true := by simpa using hz
    clear hz
    go_wp2_with fail
    refine (no_any z 0 _).mono ?_
    rintro e wn ⟨rfl, hbn⟩
    obtain ⟨c0, c1, c2, c3, c4, y0, y1, y2, y3, y4, -⟩ := HC0.out.below (Below.call HB1.out hbn)
    have HBN := Lib.hid (Below.call (Below.call HB0.out HB1.out) hbn)
    clear hbn
    unfold rsv
    go_wp2
    refine bodyPost_ret (v := rsv (z, 0)) ?_ rfl ⟨by rw [HE.out], ?_⟩
    · simp [results, Tryz.results42, go_sem, rsv, c0, c1, c2, c3, c4]
    · refine Below.st (Below.st (Below.st (Below.st (Below.st HBN.out ?_) ?_) ?_) ?_) ?_ <;> (simp; omega)
  subst hz
  by_cases h1 : k < 1
  · have HE := Lib.hid (HV2.out rfl (.inl h1))
    go_wp2_with fail
    refine (no_any 150 0 _).mono ?_
    rintro e wn ⟨rfl, hbn⟩
    obtain ⟨c0, c1, c2, c3, c4, y0, y1, y2, y3, y4, -⟩ := HC0.out.below (Below.call HB1.out hbn)
    have HBN := Lib.hid (Below.call (Below.call HB0.out HB1.out) hbn)
    clear hbn
    unfold rsv
    go_wp2
    refine bodyPost_ret (v := rsv (150, 0)) ?_ rfl ⟨by rw [HE.out], ?_⟩
    · simp [results, Tryz.results42, go_sem, rsv, c0, c1, c2, c3, c4]
    · refine Below.st (Below.st (Below.st (Below.st (Below.st HBN.out ?_) ?_) ?_) ?_) ?_ <;> (simp; omega)
  by_cases h2 : 10 < k
  · have HE := Lib.hid (HV2.out rfl (.inr h2))
    go_wp2_with fail
    refine (no_any 150 0 _).mono ?_
    rintro e wn ⟨rfl, hbn⟩
    obtain ⟨c0, c1, c2, c3, c4, y0, y1, y2, y3, y4, -⟩ := HC0.out.below (Below.call HB1.out hbn)
    have HBN := Lib.hid (Below.call (Below.call HB0.out HB1.out) hbn)
    clear hbn
    unfold rsv
    go_wp2
    refine bodyPost_ret (v := rsv (150, 0)) ?_ rfl ⟨by rw [HE.out], ?_⟩
    · simp [results, Tryz.results42, go_sem, rsv, c0, c1, c2, c3, c4]
    · refine Below.st (Below.st (Below.st (Below.st (Below.st HBN.out ?_) ?_) ?_) ?_) ?_ <;> (simp; omega)
  have HBAD := Lib.hid (HV3.out rfl (by omega))
  have HIDS := Lib.hid (HV4.out rfl)
  have HGO := Lib.hid (HV5.out rfl (by omega))
  clear HV1 HV2 HV3 HV4 HV5
  go_wp2_with fail
  refine (names_any k w1).mono ?_
  rintro e w2 ⟨rfl, hb2⟩
  obtain ⟨n0, hn0⟩ : ∃ x, nm0 k = x := ⟨_, rfl⟩
  obtain ⟨n1, hn1⟩ : ∃ x, nm1 k = x := ⟨_, rfl⟩
  obtain ⟨n2, hn2⟩ : ∃ x, nm2 k = x := ⟨_, rfl⟩
  obtain ⟨n3, hn3⟩ : ∃ x, nm3 k = x := ⟨_, rfl⟩
  obtain ⟨n4, hn4⟩ : ∃ x, nm4 k = x := ⟨_, rfl⟩
  rw [hn0, hn1, hn2, hn3, hn4]
  have HN0 := Lib.hid hn0.symm
  have HN1 := Lib.hid hn1.symm
  have HN2 := Lib.hid hn2.symm
  have HN3 := Lib.hid hn3.symm
  have HN4 := Lib.hid hn4.symm
  obtain ⟨v3, hv3⟩ : ∃ v3, v3 = w2.alloc (.cells #[.bool n0, .bool n1, .bool n2, .bool n3, .bool n4] 126) := ⟨_, rfl⟩
  have hba := Below.al (Below.refl w2.heap.size w2) (.cells #[.bool n0, .bool n1, .bool n2, .bool n3, .bool n4] 126)
  rw [← hv3] at hba
  have HB3 := Lib.hid (Below.call HB1.out (Below.call hb2 hba))
  have HN5 := Lib.hid (show Cells5 v3 w2.heap.size (.bool n0) (.bool n1) (.bool n2) (.bool n3) (.bool n4) by rw [hv3]; exact Cells5.new w2 _ _ _ _ _ _)
  have hs3 : w.heap.size + 3 ≤ v3.heap.size := by have := HB3.out.size; have := HS0.out; omega
  clear hn0 hn1 hn2 hn3 hn4 hb2 hba q0 q1 q2 q3 q4 q5
  go_upto_region 7 with (fail)
  rw [← hv3]
  clear hv3
  obtain ⟨q0, q1, q2, q3, q4, q5, -⟩ := HQ0.out.below HB3.out
  obtain ⟨d0, d1, d2, d3, -⟩ := HK0.out.below HB3.out
  rcases kinds k with rfl | rfl | rfl | rfl | rfl | rfl | rfl | rfl | ⟨k1, k2, k4, k5, k6, k7, k9, k10⟩
  · obtain rfl : n0 = true := HN0.out
    obtain rfl : n1 = false := HN1.out
    obtain rfl : n2 = false := HN2.out
    obtain rfl : n3 = false := HN3.out
    obtain rfl : n4 = false := HN4.out
    obtain ⟨n0, n1, n2, n3, n4, -⟩ := HN5.out
    by_cases ha : a = 0
    case neg =>
      have fa : (a != 0) = true := by simpa using ha
      have HE := Lib.hid (show V = (151, 0) from HBAD.out (by unfold unO unN unA unB unU unV; simp [*]))
      clear ha
      go_wp2_with fail
      refine (no_any 151 0 _).mono ?_
      rintro e wn ⟨rfl, hbn⟩
      obtain ⟨c0, c1, c2, c3, c4, y0, y1, y2, y3, y4, -⟩ := HC0.out.below (Below.call HB3.out hbn)
      have HBN := Lib.hid (Below.call (Below.call HB0.out HB3.out) hbn)
      clear hbn
      unfold rsv
      go_wp2
      refine bodyPost_ret (v := rsv (151, 0)) ?_ rfl ⟨by rw [HE.out], ?_⟩
      · simp [results, Tryz.results42, go_sem, rsv, c0, c1, c2, c3, c4]
      · refine Below.st (Below.st (Below.st (Below.st (Below.st HBN.out ?_) ?_) ?_) ?_) ?_ <;> (simp; omega)
    subst ha
    by_cases hb : b = 0
    case neg =>
      have fb : (b != 0) = true := by simpa using hb
      have HE := Lib.hid (show V = (151, 0) from HBAD.out (by unfold unO unN unA unB unU unV; simp [*]))
      clear hb
      go_wp2_with fail
      refine (no_any 151 0 _).mono ?_
      rintro e wn ⟨rfl, hbn⟩
      obtain ⟨c0, c1, c2, c3, c4, y0, y1, y2, y3, y4, -⟩ := HC0.out.below (Below.call HB3.out hbn)
      have HBN := Lib.hid (Below.call (Below.call HB0.out HB3.out) hbn)
      clear hbn
      unfold rsv
      go_wp2
      refine bodyPost_ret (v := rsv (151, 0)) ?_ rfl ⟨by rw [HE.out], ?_⟩
      · simp [results, Tryz.results42, go_sem, rsv, c0, c1, c2, c3, c4]
      · refine Below.st (Below.st (Below.st (Below.st (Below.st HBN.out ?_) ?_) ?_) ?_) ?_ <;> (simp; omega)
    subst hb
    by_cases hu : u = 0
    case neg =>
      have fu : (u != 0) = true := by simpa using hu
      have HE := Lib.hid (show V = (151, 0) from HBAD.out (by unfold unO unN unA unB unU unV; simp [*]))
      clear hu
      go_wp2_with fail
      refine (no_any 151 0 _).mono ?_
      rintro e wn ⟨rfl, hbn⟩
      obtain ⟨c0, c1, c2, c3, c4, y0, y1, y2, y3, y4, -⟩ := HC0.out.below (Below.call HB3.out hbn)
      have HBN := Lib.hid (Below.call (Below.call HB0.out HB3.out) hbn)
      clear hbn
      unfold rsv
      go_wp2
      refine bodyPost_ret (v := rsv (151, 0)) ?_ rfl ⟨by rw [HE.out], ?_⟩
      · simp [results, Tryz.results42, go_sem, rsv, c0, c1, c2, c3, c4]
      · refine Below.st (Below.st (Below.st (Below.st (Below.st HBN.out ?_) ?_) ?_) ?_) ?_ <;> (simp; omega)
    subst hu
    by_cases hv : v = 0
    case neg =>
      have fv : ((v : Int) != 0) = true := by simpa using hv
      have HE := Lib.hid (show V = (151, 0) from HBAD.out (by unfold unO unN unA unB unU unV; simp [*]))
      go_wp2_with fail
      refine (no_any 151 0 _).mono ?_
      rintro e wn ⟨rfl, hbn⟩
      obtain ⟨c0, c1, c2, c3, c4, y0, y1, y2, y3, y4, -⟩ := HC0.out.below (Below.call HB3.out hbn)
      have HBN := Lib.hid (Below.call (Below.call HB0.out HB3.out) hbn)
      clear hbn
      unfold rsv
      go_wp2
      refine bodyPost_ret (v := rsv (151, 0)) ?_ rfl ⟨by rw [HE.out], ?_⟩
      · simp [results, Tryz.results42, go_sem, rsv, c0, c1, c2, c3, c4]
      · refine Below.st (Below.st (Below.st (Below.st (Below.st HBN.out ?_) ?_) ?_) ?_) ?_ <;> (simp; omega)
    subst hv
    have HU := Lib.hid (show unO ⟨1, iA, ic, il, 0, 0, 0, 0⟩ = true by unfold unO unN unA unB unU unV; simp)
    have HE := Lib.hid (HIDS.out (by decide) HU.out)
    go_wp2_with fail
    refine (ids_any d (.slice iA il.length ic) il v3 (HD0.out.then HB3.out) (HR0.out.then HB3.out).l).mono ?_
    rintro e wn ⟨rfl, hbn⟩
    obtain ⟨c0, c1, c2, c3, c4, y0, y1, y2, y3, y4, -⟩ := HC0.out.below (Below.call HB3.out hbn)
    have HBN := Lib.hid (Below.call (Below.call HB0.out HB3.out) hbn)
    clear hbn
    rw [← HE.out]
    obtain ⟨e1, e2⟩ := V
    unfold rsv
    dsimp only
    go_wp2
    refine bodyPost_ret (v := rsv (e1, e2)) ?_ rfl ⟨rfl, ?_⟩
    · simp [results, Tryz.results42, go_sem, rsv, c0, c1, c2, c3, c4]
    · refine Below.st (Below.st (Below.st (Below.st (Below.st HBN.out ?_) ?_) ?_) ?_) ?_ <;> (simp; omega)
  · obtain rfl : n0 = true := HN0.out
    obtain rfl : n1 = false := HN1.out
    obtain rfl : n2 = false := HN2.out
    obtain rfl : n3 = false := HN3.out
    obtain rfl : n4 = false := HN4.out
    obtain ⟨n0, n1, n2, n3, n4, -⟩ := HN5.out
    by_cases ha : a = 0
    case neg =>
      have fa : (a != 0) = true := by simpa using ha
      have HE := Lib.hid (show V = (151, 0) from HBAD.out (by unfold unO unN unA unB unU unV; simp [*]))
      clear ha
      go_wp2_with fail
      refine (no_any 151 0 _).mono ?_
      rintro e wn ⟨rfl, hbn⟩
      obtain ⟨c0, c1, c2, c3, c4, y0, y1, y2, y3, y4, -⟩ := HC0.out.below (Below.call HB3.out hbn)
      have HBN := Lib.hid (Below.call (Below.call HB0.out HB3.out) hbn)
      clear hbn
      unfold rsv
      go_wp2
      refine bodyPost_ret (v := rsv (151, 0)) ?_ rfl ⟨by rw [HE.out], ?_⟩
      · simp [results, Tryz.results42, go_sem, rsv, c0, c1, c2, c3, c4]
      · refine Below.st (Below.st (Below.st (Below.st (Below.st HBN.out ?_) ?_) ?_) ?_) ?_ <;> (simp; omega)
    subst ha
    by_cases hb : b = 0
    case neg =>
      have fb : (b != 0) = true := by simpa using hb
      have HE := Lib.hid (show V = (151, 0) from HBAD.out (by unfold unO unN unA unB unU unV; simp [*]))
      clear hb
      go_wp2_with fail
      refine (no_any 151 0 _).mono ?_
      rintro e wn ⟨rfl, hbn⟩
      obtain ⟨c0, c1, c2, c3, c4, y0, y1, y2, y3, y4, -⟩ := HC0.out.below (Below.call HB3.out hbn)
      have HBN := Lib.hid (Below.call (Below.call HB0.out HB3.out) hbn)
      clear hbn
      unfold rsv
      go_wp2
      refine bodyPost_ret (v := rsv (151, 0)) ?_ rfl ⟨by rw [HE.out], ?_⟩
      · simp [results, Tryz.results42, go_sem, rsv, c0, c1, c2, c3, c4]
      · refine Below.st (Below.st (Below.st (Below.st (Below.st HBN.out ?_) ?_) ?_) ?_) ?_ <;> (simp; omega)
    subst hb
    by_cases hu : u = 0
    case neg =>
      have fu : (u != 0) = true := by simpa using hu
      have HE := Lib.hid (show V = (151, 0) from HBAD.out (by unfold unO unN unA unB unU unV; simp [*]))
      clear hu
      go_wp2_with fail
      refine (no_any 151 0 _).mono ?_
      rintro e wn ⟨rfl, hbn⟩
      obtain ⟨c0, c1, c2, c3, c4, y0, y1, y2, y3, y4, -⟩ := HC0.out.below (Below.call HB3.out hbn)
      have HBN := Lib.hid (Below.call (Below.call HB0.out HB3.out) hbn)
      clear hbn
      unfold rsv
      go_wp2
      refine bodyPost_ret (v := rsv (151, 0)) ?_ rfl ⟨by rw [HE.out], ?_⟩
      · simp [results, Tryz.results42, go_sem, rsv, c0, c1, c2, c3, c4]
      · refine Below.st (Below.st (Below.st (Below.st (Below.st HBN.out ?_) ?_) ?_) ?_) ?_ <;> (simp; omega)
    subst hu
    by_cases hv : v = 0
    case neg =>
      have fv : ((v : Int) != 0) = true := by simpa using hv
      have HE := Lib.hid (show V = (151, 0) from HBAD.out (by unfold unO unN unA unB unU unV; simp [*]))
      go_wp2_with fail
      refine (no_any 151 0 _).mono ?_
      rintro e wn ⟨rfl, hbn⟩
      obtain ⟨c0, c1, c2, c3, c4, y0, y1, y2, y3, y4, -⟩ := HC0.out.below (Below.call HB3.out hbn)
      have HBN := Lib.hid (Below.call (Below.call HB0.out HB3.out) hbn)
      clear hbn
      unfold rsv
      go_wp2
      refine bodyPost_ret (v := rsv (151, 0)) ?_ rfl ⟨by rw [HE.out], ?_⟩
      · simp [results, Tryz.results42, go_sem, rsv, c0, c1, c2, c3, c4]
      · refine Below.st (Below.st (Below.st (Below.st (Below.st HBN.out ?_) ?_) ?_) ?_) ?_ <;> (simp; omega)
    subst hv
    have HU := Lib.hid (show unO ⟨2, iA, ic, il, 0, 0, 0, 0⟩ = true by unfold unO unN unA unB unU unV; simp)
    have HE := Lib.hid (HIDS.out (by decide) HU.out)
    go_wp2_with fail
    refine (ids_any d (.slice iA il.length ic) il v3 (HD0.out.then HB3.out) (HR0.out.then HB3.out).l).mono ?_
    rintro e wn ⟨rfl, hbn⟩
    obtain ⟨c0, c1, c2, c3, c4, y0, y1, y2, y3, y4, -⟩ := HC0.out.below (Below.call HB3.out hbn)
    have HBN := Lib.hid (Below.call (Below.call HB0.out HB3.out) hbn)
    clear hbn
    rw [← HE.out]
    obtain ⟨e1, e2⟩ := V
    unfold rsv
    dsimp only
    go_wp2
    refine bodyPost_ret (v := rsv (e1, e2)) ?_ rfl ⟨rfl, ?_⟩
    · simp [results, Tryz.results42, go_sem, rsv, c0, c1, c2, c3, c4]
    · refine Below.st (Below.st (Below.st (Below.st (Below.st HBN.out ?_) ?_) ?_) ?_) ?_ <;> (simp; omega)
  · obtain rfl : n0 = false := HN0.out
    obtain rfl : n1 = true := HN1.out
    obtain rfl : n2 = true := HN2.out
    obtain rfl : n3 = false := HN3.out
    obtain rfl : n4 = true := HN4.out
    obtain ⟨n0, n1, n2, n3, n4, -⟩ := HN5.out
    by_cases hn : il.length = 0
    case neg =>
      have fn : ¬ il = [] := by simpa using hn
      have fn' : 0 < il.length := by omega
      have HE := Lib.hid (show V = (151, 0) from HBAD.out (by unfold unO unN unA unB unU unV; simp [*]))
      clear hn
      go_wp2_with fail
      refine (no_any 151 0 _).mono ?_
      rintro e wn ⟨rfl, hbn⟩
      obtain ⟨c0, c1, c2, c3, c4, y0, y1, y2, y3, y4, -⟩ := HC0.out.below (Below.call HB3.out hbn)
      have HBN := Lib.hid (Below.call (Below.call HB0.out HB3.out) hbn)
      clear hbn
      unfold rsv
      go_wp2
      refine bodyPost_ret (v := rsv (151, 0)) ?_ rfl ⟨by rw [HE.out], ?_⟩
      · simp [results, Tryz.results42, go_sem, rsv, c0, c1, c2, c3, c4]
      · refine Below.st (Below.st (Below.st (Below.st (Below.st HBN.out ?_) ?_) ?_) ?_) ?_ <;> (simp; omega)
    have fn : il = [] := by simpa using hn
    subst fn
    by_cases hu : u = 0
    case neg =>
      have fu : (u != 0) = true := by simpa using hu
      have HE := Lib.hid (show V = (151, 0) from HBAD.out (by unfold unO unN unA unB unU unV; simp [*]))
      clear hu
      go_wp2_with fail
      refine (no_any 151 0 _).mono ?_
      rintro e wn ⟨rfl, hbn⟩
      obtain ⟨c0, c1, c2, c3, c4, y0, y1, y2, y3, y4, -⟩ := HC0.out.below (Below.call HB3.out hbn)
      have HBN := Lib.hid (Below.call (Below.call HB0.out HB3.out) hbn)
      clear hbn
      unfold rsv
      go_wp2
      refine bodyPost_ret (v := rsv (151, 0)) ?_ rfl ⟨by rw [HE.out], ?_⟩
      · simp [results, Tryz.results42, go_sem, rsv, c0, c1, c2, c3, c4]
      · refine Below.st (Below.st (Below.st (Below.st (Below.st HBN.out ?_) ?_) ?_) ?_) ?_ <;> (simp; omega)
    subst hu
    have HU := Lib.hid (show unO ⟨4, iA, ic, [], a, b, 0, v⟩ = true by unfold unO unN unA unB unU unV; simp)
    have hi1 := iw_k d 1 a (by decide)
    have HK1 := Lib.hid (HKD.out a HR0.out.a)
    generalize kdV d a = kk1 at *
    have HI1 := Lib.hid hi1
    clear hi1
    go_wp2_with fail
    refine (HK1.out _ (HD0.out.then HB3.out)).mono ?_
    rintro e wk1 ⟨rfl, hbk⟩
    have HBK1 := Lib.hid (Below.call HB3.out hbk)
    have HNK1 := Lib.hid hbk
    clear hbk q0 q1 q2 q3 q4 q5 d0 d1 d2 d3 n0 n1 n2 n3 n4
    obtain ⟨q0, q1, q2, q3, q4, q5, -⟩ := HQ0.out.below HBK1.out
    obtain ⟨d0, d1, d2, d3, -⟩ := HK0.out.below HBK1.out
    obtain ⟨n0, n1, n2, n3, n4, -⟩ := HN5.out.below HNK1.out
    obtain ⟨c0, c1, c2, c3, c4, y0, y1, y2, y3, y4, -⟩ := HC0.out.below HBK1.out
    by_cases hk1 : kk1 = 1
    case neg =>
      have hk1' : (kk1 != 1) = true := by simpa using hk1
      have HE := Lib.hid (show V = (3, a) by
        rw [HGO.out HU.out (by decide), HNF.out]
        show (match List.find? (fun x : Int × Int => !iwP d x.1 x.2) [(1, a), (1, b)] with | some x => ((3 : Int), x.2) | none => _) = _
        rw [List.find?_cons_of_pos (by simpa [HI1.out] using hk1)])
      clear hk1 c0 c1 c2 c3 c4 y0 y1 y2 y3 y4
      go_wp2_with fail
      refine (no_any 3 a _).mono ?_
      rintro e wn ⟨rfl, hbn⟩
      obtain ⟨c0, c1, c2, c3, c4, y0, y1, y2, y3, y4, -⟩ := HC0.out.below (Below.call HBK1.out hbn)
      have HBN := Lib.hid (Below.call (Below.call HB0.out HBK1.out) hbn)
      clear hbn
      unfold rsv
      go_wp2
      refine bodyPost_ret (v := rsv (3, a)) ?_ rfl ⟨by rw [HE.out], ?_⟩
      · simp [results, Tryz.results42, go_sem, rsv, c0, c1, c2, c3, c4]
      · refine Below.st (Below.st (Below.st (Below.st (Below.st HBN.out ?_) ?_) ?_) ?_) ?_ <;> (simp; omega)
    subst hk1
    clear c0 c1 c2 c3 c4 y0 y1 y2 y3 y4
    have hi2 := iw_k d 1 b (by decide)
    have HK2 := Lib.hid (HKD.out b HR0.out.b)
    generalize kdV d b = kk2 at *
    have HI2 := Lib.hid hi2
    clear hi2
    go_wp2_with fail
    refine (HK2.out _ (HD0.out.then HBK1.out)).mono ?_
    rintro e wk2 ⟨rfl, hbk⟩
    have HBK2 := Lib.hid (Below.call HBK1.out hbk)
    have HNK2 := Lib.hid (Below.call HNK1.out hbk)
    clear hbk q0 q1 q2 q3 q4 q5 d0 d1 d2 d3 n0 n1 n2 n3 n4
    obtain ⟨q0, q1, q2, q3, q4, q5, -⟩ := HQ0.out.below HBK2.out
    obtain ⟨d0, d1, d2, d3, -⟩ := HK0.out.below HBK2.out
    obtain ⟨n0, n1, n2, n3, n4, -⟩ := HN5.out.below HNK2.out
    obtain ⟨c0, c1, c2, c3, c4, y0, y1, y2, y3, y4, -⟩ := HC0.out.below HBK2.out
    by_cases hk2 : kk2 = 1
    case neg =>
      have hk2' : (kk2 != 1) = true := by simpa using hk2
      have HE := Lib.hid (show V = (3, b) by
        rw [HGO.out HU.out (by decide), HNF.out]
        show (match List.find? (fun x : Int × Int => !iwP d x.1 x.2) [(1, a), (1, b)] with | some x => ((3 : Int), x.2) | none => _) = _
        rw [List.find?_cons_of_neg (by simp [HI1.out]), List.find?_cons_of_pos (by simpa [HI2.out] using hk2)])
      clear hk2 c0 c1 c2 c3 c4 y0 y1 y2 y3 y4
      go_wp2_with fail
      refine (no_any 3 b _).mono ?_
      rintro e wn ⟨rfl, hbn⟩
      obtain ⟨c0, c1, c2, c3, c4, y0, y1, y2, y3, y4, -⟩ := HC0.out.below (Below.call HBK2.out hbn)
      have HBN := Lib.hid (Below.call (Below.call HB0.out HBK2.out) hbn)
      clear hbn
      unfold rsv
      go_wp2
      refine bodyPost_ret (v := rsv (3, b)) ?_ rfl ⟨by rw [HE.out], ?_⟩
      · simp [results, Tryz.results42, go_sem, rsv, c0, c1, c2, c3, c4]
      · refine Below.st (Below.st (Below.st (Below.st (Below.st HBN.out ?_) ?_) ?_) ?_) ?_ <;> (simp; omega)
    subst hk2
    by_cases hab : a = b
    case pos =>
      have hab' : (a == b) = true := by simpa using hab
      have HE := Lib.hid (show V = (1, 0) by
        rw [HGO.out HU.out (by decide), HNF.out]
        show (match List.find? (fun x : Int × Int => !iwP d x.1 x.2) [(1, a), (1, b)] with | some x => ((3 : Int), x.2) | none => _) = _
        rw [List.find?_eq_none.2 (by simp [HI1.out, HI2.out])]
        show lastV ⟨4, iA, ic, [], a, b, 0, v⟩ = (1, 0)
        unfold lastV
        exact if_pos ⟨rfl, hab⟩)
      clear hab c0 c1 c2 c3 c4 y0 y1 y2 y3 y4
      go_wp2_with fail
      refine (no_any 1 0 _).mono ?_
      rintro e wn ⟨rfl, hbn⟩
      obtain ⟨c0, c1, c2, c3, c4, y0, y1, y2, y3, y4, -⟩ := HC0.out.below (Below.call HBK2.out hbn)
      have HBN := Lib.hid (Below.call (Below.call HB0.out HBK2.out) hbn)
      clear hbn
      unfold rsv
      go_wp2
      refine bodyPost_ret (v := rsv (1, 0)) ?_ rfl ⟨by rw [HE.out], ?_⟩
      · simp [results, Tryz.results42, go_sem, rsv, c0, c1, c2, c3, c4]
      · refine Below.st (Below.st (Below.st (Below.st (Below.st HBN.out ?_) ?_) ?_) ?_) ?_ <;> (simp; omega)
    have hab' : (a == b) = false := by simpa using hab
    have HE := Lib.hid (show V = (voE v, 0) by
      rw [HGO.out HU.out (by decide), HNF.out]
      show (match List.find? (fun x : Int × Int => !iwP d x.1 x.2) [(1, a), (1, b)] with | some x => ((3 : Int), x.2) | none => _) = _
      rw [List.find?_eq_none.2 (by simp [HI1.out, HI2.out])]
      show lastV ⟨4, iA, ic, [], a, b, 0, v⟩ = (voE v, 0)
      unfold lastV
      rw [if_neg (fun h => hab h.2)]; simp)
    clear hab
    clear c0 c1 c2 c3 c4 y0 y1 y2 y3 y4
    go_wp2_with fail
    refine (HVO.out _).mono ?_
    rintro e wv ⟨rfl, hbv⟩
    have HBV := Lib.hid (Below.call HBK2.out hbv)
    clear hbv
    go_wp2_with fail
    refine (no_any (voE v) 0 _).mono ?_
    rintro e wn ⟨rfl, hbn⟩
    obtain ⟨c0, c1, c2, c3, c4, y0, y1, y2, y3, y4, -⟩ := HC0.out.below (Below.call HBV.out hbn)
    have HBN := Lib.hid (Below.call (Below.call HB0.out HBV.out) hbn)
    clear hbn
    unfold rsv
    go_wp2
    refine bodyPost_ret (v := rsv ((voE v), 0)) ?_ rfl ⟨by rw [HE.out], ?_⟩
    · simp [results, Tryz.results42, go_sem, rsv, c0, c1, c2, c3, c4]
    · refine Below.st (Below.st (Below.st (Below.st (Below.st HBN.out ?_) ?_) ?_) ?_) ?_ <;> (simp; omega)
  · obtain rfl : n0 = false := HN0.out
    obtain rfl : n1 = true := HN1.out
    obtain rfl : n2 = false := HN2.out
    obtain rfl : n3 = false := HN3.out
    obtain rfl : n4 = true := HN4.out
    obtain ⟨n0, n1, n2, n3, n4, -⟩ := HN5.out
    by_cases hn : il.length = 0
    case neg =>
      have fn : ¬ il = [] := by simpa using hn
      have fn' : 0 < il.length := by omega
      have HE := Lib.hid (show V = (151, 0) from HBAD.out (by unfold unO unN unA unB unU unV; simp [*]))
      clear hn
      go_wp2_with fail
      refine (no_any 151 0 _).mono ?_
      rintro e wn ⟨rfl, hbn⟩
      obtain ⟨c0, c1, c2, c3, c4, y0, y1, y2, y3, y4, -⟩ := HC0.out.below (Below.call HB3.out hbn)
      have HBN := Lib.hid (Below.call (Below.call HB0.out HB3.out) hbn)
      clear hbn
      unfold rsv
      go_wp2
      refine bodyPost_ret (v := rsv (151, 0)) ?_ rfl ⟨by rw [HE.out], ?_⟩
      · simp [results, Tryz.results42, go_sem, rsv, c0, c1, c2, c3, c4]
      · refine Below.st (Below.st (Below.st (Below.st (Below.st HBN.out ?_) ?_) ?_) ?_) ?_ <;> (simp; omega)
    have fn : il = [] := by simpa using hn
    subst fn
    by_cases hb : b = 0
    case neg =>
      have fb : (b != 0) = true := by simpa using hb
      have HE := Lib.hid (show V = (151, 0) from HBAD.out (by unfold unO unN unA unB unU unV; simp [*]))
      clear hb
      go_wp2_with fail
      refine (no_any 151 0 _).mono ?_
      rintro e wn ⟨rfl, hbn⟩
      obtain ⟨c0, c1, c2, c3, c4, y0, y1, y2, y3, y4, -⟩ := HC0.out.below (Below.call HB3.out hbn)
      have HBN := Lib.hid (Below.call (Below.call HB0.out HB3.out) hbn)
      clear hbn
      unfold rsv
      go_wp2
      refine bodyPost_ret (v := rsv (151, 0)) ?_ rfl ⟨by rw [HE.out], ?_⟩
      · simp [results, Tryz.results42, go_sem, rsv, c0, c1, c2, c3, c4]
      · refine Below.st (Below.st (Below.st (Below.st (Below.st HBN.out ?_) ?_) ?_) ?_) ?_ <;> (simp; omega)
    subst hb
    by_cases hu : u = 0
    case neg =>
      have fu : (u != 0) = true := by simpa using hu
      have HE := Lib.hid (show V = (151, 0) from HBAD.out (by unfold unO unN unA unB unU unV; simp [*]))
      clear hu
      go_wp2_with fail
      refine (no_any 151 0 _).mono ?_
      rintro e wn ⟨rfl, hbn⟩
      obtain ⟨c0, c1, c2, c3, c4, y0, y1, y2, y3, y4, -⟩ := HC0.out.below (Below.call HB3.out hbn)
      have HBN := Lib.hid (Below.call (Below.call HB0.out HB3.out) hbn)
      clear hbn
      unfold rsv
      go_wp2
      refine bodyPost_ret (v := rsv (151, 0)) ?_ rfl ⟨by rw [HE.out], ?_⟩
      · simp [results, Tryz.results42, go_sem, rsv, c0, c1, c2, c3, c4]
      · refine Below.st (Below.st (Below.st (Below.st (Below.st HBN.out ?_) ?_) ?_) ?_) ?_ <;> (simp; omega)
    subst hu
    have HU := Lib.hid (show unO ⟨5, iA, ic, [], a, 0, 0, v⟩ = true by unfold unO unN unA unB unU unV; simp)
    have hi1 := iw_k d 1 a (by decide)
    have HK1 := Lib.hid (HKD.out a HR0.out.a)
    generalize kdV d a = kk1 at *
    have HI1 := Lib.hid hi1
    clear hi1
    go_wp2_with fail
    refine (HK1.out _ (HD0.out.then HB3.out)).mono ?_
    rintro e wk1 ⟨rfl, hbk⟩
    have HBK1 := Lib.hid (Below.call HB3.out hbk)
    have HNK1 := Lib.hid hbk
    clear hbk q0 q1 q2 q3 q4 q5 d0 d1 d2 d3 n0 n1 n2 n3 n4
    obtain ⟨q0, q1, q2, q3, q4, q5, -⟩ := HQ0.out.below HBK1.out
    obtain ⟨d0, d1, d2, d3, -⟩ := HK0.out.below HBK1.out
    obtain ⟨n0, n1, n2, n3, n4, -⟩ := HN5.out.below HNK1.out
    obtain ⟨c0, c1, c2, c3, c4, y0, y1, y2, y3, y4, -⟩ := HC0.out.below HBK1.out
    by_cases hk1 : kk1 = 1
    case neg =>
      have hk1' : (kk1 != 1) = true := by simpa using hk1
      have HE := Lib.hid (show V = (3, a) by
        rw [HGO.out HU.out (by decide), HNF.out]
        show (match List.find? (fun x : Int × Int => !iwP d x.1 x.2) [(1, a)] with | some x => ((3 : Int), x.2) | none => _) = _
        rw [List.find?_cons_of_pos (by simpa [HI1.out] using hk1)])
      clear hk1 c0 c1 c2 c3 c4 y0 y1 y2 y3 y4
      go_wp2_with fail
      refine (no_any 3 a _).mono ?_
      rintro e wn ⟨rfl, hbn⟩
      obtain ⟨c0, c1, c2, c3, c4, y0, y1, y2, y3, y4, -⟩ := HC0.out.below (Below.call HBK1.out hbn)
      have HBN := Lib.hid (Below.call (Below.call HB0.out HBK1.out) hbn)
      clear hbn
      unfold rsv
      go_wp2
      refine bodyPost_ret (v := rsv (3, a)) ?_ rfl ⟨by rw [HE.out], ?_⟩
      · simp [results, Tryz.results42, go_sem, rsv, c0, c1, c2, c3, c4]
      · refine Below.st (Below.st (Below.st (Below.st (Below.st HBN.out ?_) ?_) ?_) ?_) ?_ <;> (simp; omega)
    subst hk1
    have HE := Lib.hid (show V = (voE v, 0) by
      rw [HGO.out HU.out (by decide), HNF.out]
      show (match List.find? (fun x : Int × Int => !iwP d x.1 x.2) [(1, a)] with | some x => ((3 : Int), x.2) | none => _) = _
      rw [List.find?_eq_none.2 (by simp [HI1.out])]
      show lastV ⟨5, iA, ic, [], a, 0, 0, v⟩ = (voE v, 0)
      unfold lastV
      simp)
    clear c0 c1 c2 c3 c4 y0 y1 y2 y3 y4
    go_wp2_with fail
    refine (HVO.out _).mono ?_
    rintro e wv ⟨rfl, hbv⟩
    have HBV := Lib.hid (Below.call HBK1.out hbv)
    clear hbv
    go_wp2_with fail
    refine (no_any (voE v) 0 _).mono ?_
    rintro e wn ⟨rfl, hbn⟩
    obtain ⟨c0, c1, c2, c3, c4, y0, y1, y2, y3, y4, -⟩ := HC0.out.below (Below.call HBV.out hbn)
    have HBN := Lib.hid (Below.call (Below.call HB0.out HBV.out) hbn)
    clear hbn
    unfold rsv
    go_wp2
    refine bodyPost_ret (v := rsv ((voE v), 0)) ?_ rfl ⟨by rw [HE.out], ?_⟩
    · simp [results, Tryz.results42, go_sem, rsv, c0, c1, c2, c3, c4]
    · refine Below.st (Below.st (Below.st (Below.st (Below.st HBN.out ?_) ?_) ?_) ?_) ?_ <;> (simp; omega)
  · obtain rfl : n0 = false := HN0.out
    obtain rfl : n1 = true := HN1.out
    obtain rfl : n2 = false := HN2.out
    obtain rfl : n3 = false := HN3.out
    obtain rfl : n4 = true := HN4.out
    obtain ⟨n0, n1, n2, n3, n4, -⟩ := HN5.out
    by_cases hn : il.length = 0
    case neg =>
      have fn : ¬ il = [] := by simpa using hn
      have fn' : 0 < il.length := by omega
      have HE := Lib.hid (show V = (151, 0) from HBAD.out (by unfold unO unN unA unB unU unV; simp [*]))
      clear hn
      go_wp2_with fail
      refine (no_any 151 0 _).mono ?_
      rintro e wn ⟨rfl, hbn⟩
      obtain ⟨c0, c1, c2, c3, c4, y0, y1, y2, y3, y4, -⟩ := HC0.out.below (Below.call HB3.out hbn)
      have HBN := Lib.hid (Below.call (Below.call HB0.out HB3.out) hbn)
      clear hbn
      unfold rsv
      go_wp2
      refine bodyPost_ret (v := rsv (151, 0)) ?_ rfl ⟨by rw [HE.out], ?_⟩
      · simp [results, Tryz.results42, go_sem, rsv, c0, c1, c2, c3, c4]
      · refine Below.st (Below.st (Below.st (Below.st (Below.st HBN.out ?_) ?_) ?_) ?_) ?_ <;> (simp; omega)
    have fn : il = [] := by simpa using hn
    subst fn
    by_cases hb : b = 0
    case neg =>
      have fb : (b != 0) = true := by simpa using hb
      have HE := Lib.hid (show V = (151, 0) from HBAD.out (by unfold unO unN unA unB unU unV; simp [*]))
      clear hb
      go_wp2_with fail
      refine (no_any 151 0 _).mono ?_
      rintro e wn ⟨rfl, hbn⟩
      obtain ⟨c0, c1, c2, c3, c4, y0, y1, y2, y3, y4, -⟩ := HC0.out.below (Below.call HB3.out hbn)
      have HBN := Lib.hid (Below.call (Below.call HB0.out HB3.out) hbn)
      clear hbn
      unfold rsv
      go_wp2
      refine bodyPost_ret (v := rsv (151, 0)) ?_ rfl ⟨by rw [HE.out], ?_⟩
      · simp [results, Tryz.results42, go_sem, rsv, c0, c1, c2, c3, c4]
      · refine Below.st (Below.st (Below.st (Below.st (Below.st HBN.out ?_) ?_) ?_) ?_) ?_ <;> (simp; omega)
    subst hb
    by_cases hu : u = 0
    case neg =>
      have fu : (u != 0) = true := by simpa using hu
      have HE := Lib.hid (show V = (151, 0) from HBAD.out (by unfold unO unN unA unB unU unV; simp [*]))
      clear hu
      go_wp2_with fail
      refine (no_any 151 0 _).mono ?_
      rintro e wn ⟨rfl, hbn⟩
      obtain ⟨c0, c1, c2, c3, c4, y0, y1, y2, y3, y4, -⟩ := HC0.out.below (Below.call HB3.out hbn)
      have HBN := Lib.hid (Below.call (Below.call HB0.out HB3.out) hbn)
      clear hbn
      unfold rsv
      go_wp2
      refine bodyPost_ret (v := rsv (151, 0)) ?_ rfl ⟨by rw [HE.out], ?_⟩
      · simp [results, Tryz.results42, go_sem, rsv, c0, c1, c2, c3, c4]
      · refine Below.st (Below.st (Below.st (Below.st (Below.st HBN.out ?_) ?_) ?_) ?_) ?_ <;> (simp; omega)
    subst hu
    have HU := Lib.hid (show unO ⟨6, iA, ic, [], a, 0, 0, v⟩ = true by unfold unO unN unA unB unU unV; simp)
    have hi1 := iw_k d 1 a (by decide)
    have HK1 := Lib.hid (HKD.out a HR0.out.a)
    generalize kdV d a = kk1 at *
    have HI1 := Lib.hid hi1
    clear hi1
    go_wp2_with fail
    refine (HK1.out _ (HD0.out.then HB3.out)).mono ?_
    rintro e wk1 ⟨rfl, hbk⟩
    have HBK1 := Lib.hid (Below.call HB3.out hbk)
    have HNK1 := Lib.hid hbk
    clear hbk q0 q1 q2 q3 q4 q5 d0 d1 d2 d3 n0 n1 n2 n3 n4
    obtain ⟨q0, q1, q2, q3, q4, q5, -⟩ := HQ0.out.below HBK1.out
    obtain ⟨d0, d1, d2, d3, -⟩ := HK0.out.below HBK1.out
    obtain ⟨n0, n1, n2, n3, n4, -⟩ := HN5.out.below HNK1.out
    obtain ⟨c0, c1, c2, c3, c4, y0, y1, y2, y3, y4, -⟩ := HC0.out.below HBK1.out
    by_cases hk1 : kk1 = 1
    case neg =>
      have hk1' : (kk1 != 1) = true := by simpa using hk1
      have HE := Lib.hid (show V = (3, a) by
        rw [HGO.out HU.out (by decide), HNF.out]
        show (match List.find? (fun x : Int × Int => !iwP d x.1 x.2) [(1, a)] with | some x => ((3 : Int), x.2) | none => _) = _
        rw [List.find?_cons_of_pos (by simpa [HI1.out] using hk1)])
      clear hk1 c0 c1 c2 c3 c4 y0 y1 y2 y3 y4
      go_wp2_with fail
      refine (no_any 3 a _).mono ?_
      rintro e wn ⟨rfl, hbn⟩
      obtain ⟨c0, c1, c2, c3, c4, y0, y1, y2, y3, y4, -⟩ := HC0.out.below (Below.call HBK1.out hbn)
      have HBN := Lib.hid (Below.call (Below.call HB0.out HBK1.out) hbn)
      clear hbn
      unfold rsv
      go_wp2
      refine bodyPost_ret (v := rsv (3, a)) ?_ rfl ⟨by rw [HE.out], ?_⟩
      · simp [results, Tryz.results42, go_sem, rsv, c0, c1, c2, c3, c4]
      · refine Below.st (Below.st (Below.st (Below.st (Below.st HBN.out ?_) ?_) ?_) ?_) ?_ <;> (simp; omega)
    subst hk1
    have HE := Lib.hid (show V = (voE v, 0) by
      rw [HGO.out HU.out (by decide), HNF.out]
      show (match List.find? (fun x : Int × Int => !iwP d x.1 x.2) [(1, a)] with | some x => ((3 : Int), x.2) | none => _) = _
      rw [List.find?_eq_none.2 (by simp [HI1.out])]
      show lastV ⟨6, iA, ic, [], a, 0, 0, v⟩ = (voE v, 0)
      unfold lastV
      simp)
    clear c0 c1 c2 c3 c4 y0 y1 y2 y3 y4
    go_wp2_with fail
    refine (HVO.out _).mono ?_
    rintro e wv ⟨rfl, hbv⟩
    have HBV := Lib.hid (Below.call HBK1.out hbv)
    clear hbv
    go_wp2_with fail
    refine (no_any (voE v) 0 _).mono ?_
    rintro e wn ⟨rfl, hbn⟩
    obtain ⟨c0, c1, c2, c3, c4, y0, y1, y2, y3, y4, -⟩ := HC0.out.below (Below.call HBV.out hbn)
    have HBN := Lib.hid (Below.call (Below.call HB0.out HBV.out) hbn)
    clear hbn
    unfold rsv
    go_wp2
    refine bodyPost_ret (v := rsv ((voE v), 0)) ?_ rfl ⟨by rw [HE.out], ?_⟩
    · simp [results, Tryz.results42, go_sem, rsv, c0, c1, c2, c3, c4]
    · refine Below.st (Below.st (Below.st (Below.st (Below.st HBN.out ?_) ?_) ?_) ?_) ?_ <;> (simp; omega)
  · obtain rfl : n0 = false := HN0.out
    obtain rfl : n1 = true := HN1.out
    obtain rfl : n2 = false := HN2.out
    obtain rfl : n3 = false := HN3.out
    obtain rfl : n4 = false := HN4.out
    obtain ⟨n0, n1, n2, n3, n4, -⟩ := HN5.out
    by_cases hn : il.length = 0
    case neg =>
      have fn : ¬ il = [] := by simpa using hn
      have fn' : 0 < il.length := by omega
      have HE := Lib.hid (show V = (151, 0) from HBAD.out (by unfold unO unN unA unB unU unV; simp [*]))
      clear hn
      go_wp2_with fail
      refine (no_any 151 0 _).mono ?_
      rintro e wn ⟨rfl, hbn⟩
      obtain ⟨c0, c1, c2, c3, c4, y0, y1, y2, y3, y4, -⟩ := HC0.out.below (Below.call HB3.out hbn)
      have HBN := Lib.hid (Below.call (Below.call HB0.out HB3.out) hbn)
      clear hbn
      unfold rsv
      go_wp2
      refine bodyPost_ret (v := rsv (151, 0)) ?_ rfl ⟨by rw [HE.out], ?_⟩
      · simp [results, Tryz.results42, go_sem, rsv, c0, c1, c2, c3, c4]
      · refine Below.st (Below.st (Below.st (Below.st (Below.st HBN.out ?_) ?_) ?_) ?_) ?_ <;> (simp; omega)
    have fn : il = [] := by simpa using hn
    subst fn
    by_cases hb : b = 0
    case neg =>
      have fb : (b != 0) = true := by simpa using hb
      have HE := Lib.hid (show V = (151, 0) from HBAD.out (by unfold unO unN unA unB unU unV; simp [*]))
      clear hb
      go_wp2_with fail
      refine (no_any 151 0 _).mono ?_
      rintro e wn ⟨rfl, hbn⟩
      obtain ⟨c0, c1, c2, c3, c4, y0, y1, y2, y3, y4, -⟩ := HC0.out.below (Below.call HB3.out hbn)
      have HBN := Lib.hid (Below.call (Below.call HB0.out HB3.out) hbn)
      clear hbn
      unfold rsv
      go_wp2
      refine bodyPost_ret (v := rsv (151, 0)) ?_ rfl ⟨by rw [HE.out], ?_⟩
      · simp [results, Tryz.results42, go_sem, rsv, c0, c1, c2, c3, c4]
      · refine Below.st (Below.st (Below.st (Below.st (Below.st HBN.out ?_) ?_) ?_) ?_) ?_ <;> (simp; omega)
    subst hb
    by_cases hu : u = 0
    case neg =>
      have fu : (u != 0) = true := by simpa using hu
      have HE := Lib.hid (show V = (151, 0) from HBAD.out (by unfold unO unN unA unB unU unV; simp [*]))
      clear hu
      go_wp2_with fail
      refine (no_any 151 0 _).mono ?_
      rintro e wn ⟨rfl, hbn⟩
      obtain ⟨c0, c1, c2, c3, c4, y0, y1, y2, y3, y4, -⟩ := HC0.out.below (Below.call HB3.out hbn)
      have HBN := Lib.hid (Below.call (Below.call HB0.out HB3.out) hbn)
      clear hbn
      unfold rsv
      go_wp2
      refine bodyPost_ret (v := rsv (151, 0)) ?_ rfl ⟨by rw [HE.out], ?_⟩
      · simp [results, Tryz.results42, go_sem, rsv, c0, c1, c2, c3, c4]
      · refine Below.st (Below.st (Below.st (Below.st (Below.st HBN.out ?_) ?_) ?_) ?_) ?_ <;> (simp; omega)
    subst hu
    by_cases hv : v = 0
    case neg =>
      have fv : ((v : Int) != 0) = true := by simpa using hv
      have HE := Lib.hid (show V = (151, 0) from HBAD.out (by unfold unO unN unA unB unU unV; simp [*]))
      go_wp2_with fail
      refine (no_any 151 0 _).mono ?_
      rintro e wn ⟨rfl, hbn⟩
      obtain ⟨c0, c1, c2, c3, c4, y0, y1, y2, y3, y4, -⟩ := HC0.out.below (Below.call HB3.out hbn)
      have HBN := Lib.hid (Below.call (Below.call HB0.out HB3.out) hbn)
      clear hbn
      unfold rsv
      go_wp2
      refine bodyPost_ret (v := rsv (151, 0)) ?_ rfl ⟨by rw [HE.out], ?_⟩
      · simp [results, Tryz.results42, go_sem, rsv, c0, c1, c2, c3, c4]
      · refine Below.st (Below.st (Below.st (Below.st (Below.st HBN.out ?_) ?_) ?_) ?_) ?_ <;> (simp; omega)
    subst hv
    have HU := Lib.hid (show unO ⟨7, iA, ic, [], a, 0, 0, 0⟩ = true by unfold unO unN unA unB unU unV; simp)
    have hi1 := iw_k d 2 a (by decide)
    have HK1 := Lib.hid (HKD.out a HR0.out.a)
    generalize kdV d a = kk1 at *
    have HI1 := Lib.hid hi1
    clear hi1
    go_wp2_with fail
    refine (HK1.out _ (HD0.out.then HB3.out)).mono ?_
    rintro e wk1 ⟨rfl, hbk⟩
    have HBK1 := Lib.hid (Below.call HB3.out hbk)
    have HNK1 := Lib.hid hbk
    clear hbk q0 q1 q2 q3 q4 q5 d0 d1 d2 d3 n0 n1 n2 n3 n4
    obtain ⟨q0, q1, q2, q3, q4, q5, -⟩ := HQ0.out.below HBK1.out
    obtain ⟨d0, d1, d2, d3, -⟩ := HK0.out.below HBK1.out
    obtain ⟨n0, n1, n2, n3, n4, -⟩ := HN5.out.below HNK1.out
    obtain ⟨c0, c1, c2, c3, c4, y0, y1, y2, y3, y4, -⟩ := HC0.out.below HBK1.out
    by_cases hk1 : kk1 = 2
    case neg =>
      have hk1' : (kk1 != 2) = true := by simpa using hk1
      have HE := Lib.hid (show V = (3, a) by
        rw [HGO.out HU.out (by decide), HNF.out]
        show (match List.find? (fun x : Int × Int => !iwP d x.1 x.2) [(2, a)] with | some x => ((3 : Int), x.2) | none => _) = _
        rw [List.find?_cons_of_pos (by simpa [HI1.out] using hk1)])
      clear hk1 c0 c1 c2 c3 c4 y0 y1 y2 y3 y4
      go_wp2_with fail
      refine (no_any 3 a _).mono ?_
      rintro e wn ⟨rfl, hbn⟩
      obtain ⟨c0, c1, c2, c3, c4, y0, y1, y2, y3, y4, -⟩ := HC0.out.below (Below.call HBK1.out hbn)
      have HBN := Lib.hid (Below.call (Below.call HB0.out HBK1.out) hbn)
      clear hbn
      unfold rsv
      go_wp2
      refine bodyPost_ret (v := rsv (3, a)) ?_ rfl ⟨by rw [HE.out], ?_⟩
      · simp [results, Tryz.results42, go_sem, rsv, c0, c1, c2, c3, c4]
      · refine Below.st (Below.st (Below.st (Below.st (Below.st HBN.out ?_) ?_) ?_) ?_) ?_ <;> (simp; omega)
    subst hk1
    have HE := Lib.hid (show V = (0, 0) by
      rw [HGO.out HU.out (by decide), HNF.out]
      show (match List.find? (fun x : Int × Int => !iwP d x.1 x.2) [(2, a)] with | some x => ((3 : Int), x.2) | none => _) = _
      rw [List.find?_eq_none.2 (by simp [HI1.out])]
      show lastV ⟨7, iA, ic, [], a, 0, 0, 0⟩ = (0, 0)
      unfold lastV
      simp)
    go_wp2
    refine bodyPost_ret (v := rsv (0, 0)) ?_ rfl ⟨by rw [HE.out], ?_⟩
    · simp [results, Tryz.results42, go_sem, rsv, c0, c1, c2, c3, c4]
    · refine Below.st (Below.st (Below.st (Below.st (Below.st (Below.call HB0.out HBK1.out) ?_) ?_) ?_) ?_) ?_ <;> (simp; omega)
  · obtain rfl : n0 = false := HN0.out
    obtain rfl : n1 = true := HN1.out
    obtain rfl : n2 = false := HN2.out
    obtain rfl : n3 = false := HN3.out
    obtain rfl : n4 = false := HN4.out
    obtain ⟨n0, n1, n2, n3, n4, -⟩ := HN5.out
    by_cases hn : il.length = 0
    case neg =>
      have fn : ¬ il = [] := by simpa using hn
      have fn' : 0 < il.length := by omega
      have HE := Lib.hid (show V = (151, 0) from HBAD.out (by unfold unO unN unA unB unU unV; simp [*]))
      clear hn
      go_wp2_with fail
      refine (no_any 151 0 _).mono ?_
      rintro e wn ⟨rfl, hbn⟩
      obtain ⟨c0, c1, c2, c3, c4, y0, y1, y2, y3, y4, -⟩ := HC0.out.below (Below.call HB3.out hbn)
      have HBN := Lib.hid (Below.call (Below.call HB0.out HB3.out) hbn)
      clear hbn
      unfold rsv
      go_wp2
      refine bodyPost_ret (v := rsv (151, 0)) ?_ rfl ⟨by rw [HE.out], ?_⟩
      · simp [results, Tryz.results42, go_sem, rsv, c0, c1, c2, c3, c4]
      · refine Below.st (Below.st (Below.st (Below.st (Below.st HBN.out ?_) ?_) ?_) ?_) ?_ <;> (simp; omega)
    have fn : il = [] := by simpa using hn
    subst fn
    by_cases hb : b = 0
    case neg =>
      have fb : (b != 0) = true := by simpa using hb
      have HE := Lib.hid (show V = (151, 0) from HBAD.out (by unfold unO unN unA unB unU unV; simp [*]))
      clear hb
      go_wp2_with fail
      refine (no_any 151 0 _).mono ?_
      rintro e wn ⟨rfl, hbn⟩
      obtain ⟨c0, c1, c2, c3, c4, y0, y1, y2, y3, y4, -⟩ := HC0.out.below (Below.call HB3.out hbn)
      have HBN := Lib.hid (Below.call (Below.call HB0.out HB3.out) hbn)
      clear hbn
      unfold rsv
      go_wp2
      refine bodyPost_ret (v := rsv (151, 0)) ?_ rfl ⟨by rw [HE.out], ?_⟩
      · simp [results, Tryz.results42, go_sem, rsv, c0, c1, c2, c3, c4]
      · refine Below.st (Below.st (Below.st (Below.st (Below.st HBN.out ?_) ?_) ?_) ?_) ?_ <;> (simp; omega)
    subst hb
    by_cases hu : u = 0
    case neg =>
      have fu : (u != 0) = true := by simpa using hu
      have HE := Lib.hid (show V = (151, 0) from HBAD.out (by unfold unO unN unA unB unU unV; simp [*]))
      clear hu
      go_wp2_with fail
      refine (no_any 151 0 _).mono ?_
      rintro e wn ⟨rfl, hbn⟩
      obtain ⟨c0, c1, c2, c3, c4, y0, y1, y2, y3, y4, -⟩ := HC0.out.below (Below.call HB3.out hbn)
      have HBN := Lib.hid (Below.call (Below.call HB0.out HB3.out) hbn)
      clear hbn
      unfold rsv
      go_wp2
      refine bodyPost_ret (v := rsv (151, 0)) ?_ rfl ⟨by rw [HE.out], ?_⟩
      · simp [results, Tryz.results42, go_sem, rsv, c0, c1, c2, c3, c4]
      · refine Below.st (Below.st (Below.st (Below.st (Below.st HBN.out ?_) ?_) ?_) ?_) ?_ <;> (simp; omega)
    subst hu
    by_cases hv : v = 0
    case neg =>
      have fv : ((v : Int) != 0) = true := by simpa using hv
      have HE := Lib.hid (show V = (151, 0) from HBAD.out (by unfold unO unN unA unB unU unV; simp [*]))
      go_wp2_with fail
      refine (no_any 151 0 _).mono ?_
      rintro e wn ⟨rfl, hbn⟩
      obtain ⟨c0, c1, c2, c3, c4, y0, y1, y2, y3, y4, -⟩ := HC0.out.below (Below.call HB3.out hbn)
      have HBN := Lib.hid (Below.call (Below.call HB0.out HB3.out) hbn)
      clear hbn
      unfold rsv
      go_wp2
      refine bodyPost_ret (v := rsv (151, 0)) ?_ rfl ⟨by rw [HE.out], ?_⟩
      · simp [results, Tryz.results42, go_sem, rsv, c0, c1, c2, c3, c4]
      · refine Below.st (Below.st (Below.st (Below.st (Below.st HBN.out ?_) ?_) ?_) ?_) ?_ <;> (simp; omega)
    subst hv
    have HU := Lib.hid (show unO ⟨9, iA, ic, [], a, 0, 0, 0⟩ = true by unfold unO unN unA unB unU unV; simp)
    have hi1 := iw_k d 1 a (by decide)
    have HK1 := Lib.hid (HKD.out a HR0.out.a)
    generalize kdV d a = kk1 at *
    have HI1 := Lib.hid hi1
    clear hi1
    go_wp2_with fail
    refine (HK1.out _ (HD0.out.then HB3.out)).mono ?_
    rintro e wk1 ⟨rfl, hbk⟩
    have HBK1 := Lib.hid (Below.call HB3.out hbk)
    have HNK1 := Lib.hid hbk
    clear hbk q0 q1 q2 q3 q4 q5 d0 d1 d2 d3 n0 n1 n2 n3 n4
    obtain ⟨q0, q1, q2, q3, q4, q5, -⟩ := HQ0.out.below HBK1.out
    obtain ⟨d0, d1, d2, d3, -⟩ := HK0.out.below HBK1.out
    obtain ⟨n0, n1, n2, n3, n4, -⟩ := HN5.out.below HNK1.out
    obtain ⟨c0, c1, c2, c3, c4, y0, y1, y2, y3, y4, -⟩ := HC0.out.below HBK1.out
    by_cases hk1 : kk1 = 1
    case neg =>
      have hk1' : (kk1 != 1) = true := by simpa using hk1
      have HE := Lib.hid (show V = (3, a) by
        rw [HGO.out HU.out (by decide), HNF.out]
        show (match List.find? (fun x : Int × Int => !iwP d x.1 x.2) [(1, a)] with | some x => ((3 : Int), x.2) | none => _) = _
        rw [List.find?_cons_of_pos (by simpa [HI1.out] using hk1)])
      clear hk1 c0 c1 c2 c3 c4 y0 y1 y2 y3 y4
      go_wp2_with fail
      refine (no_any 3 a _).mono ?_
      rintro e wn ⟨rfl, hbn⟩
      obtain ⟨c0, c1, c2, c3, c4, y0, y1, y2, y3, y4, -⟩ := HC0.out.below (Below.call HBK1.out hbn)
      have HBN := Lib.hid (Below.call (Below.call HB0.out HBK1.out) hbn)
      clear hbn
      unfold rsv
      go_wp2
      refine bodyPost_ret (v := rsv (3, a)) ?_ rfl ⟨by rw [HE.out], ?_⟩
      · simp [results, Tryz.results42, go_sem, rsv, c0, c1, c2, c3, c4]
      · refine Below.st (Below.st (Below.st (Below.st (Below.st HBN.out ?_) ?_) ?_) ?_) ?_ <;> (simp; omega)
    subst hk1
    have HE := Lib.hid (show V = (0, 0) by
      rw [HGO.out HU.out (by decide), HNF.out]
      show (match List.find? (fun x : Int × Int => !iwP d x.1 x.2) [(1, a)] with | some x => ((3 : Int), x.2) | none => _) = _
      rw [List.find?_eq_none.2 (by simp [HI1.out])]
      show lastV ⟨9, iA, ic, [], a, 0, 0, 0⟩ = (0, 0)
      unfold lastV
      simp)
    go_wp2
    refine bodyPost_ret (v := rsv (0, 0)) ?_ rfl ⟨by rw [HE.out], ?_⟩
    · simp [results, Tryz.results42, go_sem, rsv, c0, c1, c2, c3, c4]
    · refine Below.st (Below.st (Below.st (Below.st (Below.st (Below.call HB0.out HBK1.out) ?_) ?_) ?_) ?_) ?_ <;> (simp; omega)
  · obtain rfl : n0 = false := HN0.out
    obtain rfl : n1 = true := HN1.out
    obtain rfl : n2 = false := HN2.out
    obtain rfl : n3 = true := HN3.out
    obtain rfl : n4 = false := HN4.out
    obtain ⟨n0, n1, n2, n3, n4, -⟩ := HN5.out
    by_cases hn : il.length = 0
    case neg =>
      have fn : ¬ il = [] := by simpa using hn
      have fn' : 0 < il.length := by omega
      have HE := Lib.hid (show V = (151, 0) from HBAD.out (by unfold unO unN unA unB unU unV; simp [*]))
      clear hn
      go_wp2_with fail
      refine (no_any 151 0 _).mono ?_
      rintro e wn ⟨rfl, hbn⟩
      obtain ⟨c0, c1, c2, c3, c4, y0, y1, y2, y3, y4, -⟩ := HC0.out.below (Below.call HB3.out hbn)
      have HBN := Lib.hid (Below.call (Below.call HB0.out HB3.out) hbn)
      clear hbn
      unfold rsv
      go_wp2
      refine bodyPost_ret (v := rsv (151, 0)) ?_ rfl ⟨by rw [HE.out], ?_⟩
      · simp [results, Tryz.results42, go_sem, rsv, c0, c1, c2, c3, c4]
      · refine Below.st (Below.st (Below.st (Below.st (Below.st HBN.out ?_) ?_) ?_) ?_) ?_ <;> (simp; omega)
    have fn : il = [] := by simpa using hn
    subst fn
    by_cases hb : b = 0
    case neg =>
      have fb : (b != 0) = true := by simpa using hb
      have HE := Lib.hid (show V = (151, 0) from HBAD.out (by unfold unO unN unA unB unU unV; simp [*]))
      clear hb
      go_wp2_with fail
      refine (no_any 151 0 _).mono ?_
      rintro e wn ⟨rfl, hbn⟩
      obtain ⟨c0, c1, c2, c3, c4, y0, y1, y2, y3, y4, -⟩ := HC0.out.below (Below.call HB3.out hbn)
      have HBN := Lib.hid (Below.call (Below.call HB0.out HB3.out) hbn)
      clear hbn
      unfold rsv
      go_wp2
      refine bodyPost_ret (v := rsv (151, 0)) ?_ rfl ⟨by rw [HE.out], ?_⟩
      · simp [results, Tryz.results42, go_sem, rsv, c0, c1, c2, c3, c4]
      · refine Below.st (Below.st (Below.st (Below.st (Below.st HBN.out ?_) ?_) ?_) ?_) ?_ <;> (simp; omega)
    subst hb
    by_cases hv : v = 0
    case neg =>
      have fv : ((v : Int) != 0) = true := by simpa using hv
      have HE := Lib.hid (show V = (151, 0) from HBAD.out (by unfold unO unN unA unB unU unV; simp [*]))
      go_wp2_with fail
      refine (no_any 151 0 _).mono ?_
      rintro e wn ⟨rfl, hbn⟩
      obtain ⟨c0, c1, c2, c3, c4, y0, y1, y2, y3, y4, -⟩ := HC0.out.below (Below.call HB3.out hbn)
      have HBN := Lib.hid (Below.call (Below.call HB0.out HB3.out) hbn)
      clear hbn
      unfold rsv
      go_wp2
      refine bodyPost_ret (v := rsv (151, 0)) ?_ rfl ⟨by rw [HE.out], ?_⟩
      · simp [results, Tryz.results42, go_sem, rsv, c0, c1, c2, c3, c4]
      · refine Below.st (Below.st (Below.st (Below.st (Below.st HBN.out ?_) ?_) ?_) ?_) ?_ <;> (simp; omega)
    subst hv
    have HU := Lib.hid (show unO ⟨10, iA, ic, [], a, 0, u, 0⟩ = true by unfold unO unN unA unB unU unV; simp)
    have hi1 := iw_k d 1 a (by decide)
    have HK1 := Lib.hid (HKD.out a HR0.out.a)
    generalize kdV d a = kk1 at *
    have HI1 := Lib.hid hi1
    clear hi1
    go_wp2_with fail
    refine (HK1.out _ (HD0.out.then HB3.out)).mono ?_
    rintro e wk1 ⟨rfl, hbk⟩
    have HBK1 := Lib.hid (Below.call HB3.out hbk)
    have HNK1 := Lib.hid hbk
    clear hbk q0 q1 q2 q3 q4 q5 d0 d1 d2 d3 n0 n1 n2 n3 n4
    obtain ⟨q0, q1, q2, q3, q4, q5, -⟩ := HQ0.out.below HBK1.out
    obtain ⟨d0, d1, d2, d3, -⟩ := HK0.out.below HBK1.out
    obtain ⟨n0, n1, n2, n3, n4, -⟩ := HN5.out.below HNK1.out
    obtain ⟨c0, c1, c2, c3, c4, y0, y1, y2, y3, y4, -⟩ := HC0.out.below HBK1.out
    by_cases hk1 : kk1 = 1
    case neg =>
      have hk1' : (kk1 != 1) = true := by simpa using hk1
      have HE := Lib.hid (show V = (3, a) by
        rw [HGO.out HU.out (by decide), HNF.out]
        show (match List.find? (fun x : Int × Int => !iwP d x.1 x.2) [(1, a)] with | some x => ((3 : Int), x.2) | none => _) = _
        rw [List.find?_cons_of_pos (by simpa [HI1.out] using hk1)])
      clear hk1 c0 c1 c2 c3 c4 y0 y1 y2 y3 y4
      go_wp2_with fail
      refine (no_any 3 a _).mono ?_
      rintro e wn ⟨rfl, hbn⟩
      obtain ⟨c0, c1, c2, c3, c4, y0, y1, y2, y3, y4, -⟩ := HC0.out.below (Below.call HBK1.out hbn)
      have HBN := Lib.hid (Below.call (Below.call HB0.out HBK1.out) hbn)
      clear hbn
      unfold rsv
      go_wp2
      refine bodyPost_ret (v := rsv (3, a)) ?_ rfl ⟨by rw [HE.out], ?_⟩
      · simp [results, Tryz.results42, go_sem, rsv, c0, c1, c2, c3, c4]
      · refine Below.st (Below.st (Below.st (Below.st (Below.st HBN.out ?_) ?_) ?_) ?_) ?_ <;> (simp; omega)
    subst hk1
    have HE := Lib.hid (show V = (0, 0) by
      rw [HGO.out HU.out (by decide), HNF.out]
      show (match List.find? (fun x : Int × Int => !iwP d x.1 x.2) [(1, a)] with | some x => ((3 : Int), x.2) | none => _) = _
      rw [List.find?_eq_none.2 (by simp [HI1.out])]
      show lastV ⟨10, iA, ic, [], a, 0, u, 0⟩ = (0, 0)
      unfold lastV
      simp)
    go_wp2
    refine bodyPost_ret (v := rsv (0, 0)) ?_ rfl ⟨by rw [HE.out], ?_⟩
    · simp [results, Tryz.results42, go_sem, rsv, c0, c1, c2, c3, c4]
    · refine Below.st (Below.st (Below.st (Below.st (Below.st (Below.call HB0.out HBK1.out) ?_) ?_) ?_) ?_) ?_ <;> (simp; omega)
  · obtain rfl : n0 = false := by rw [HN0.out]; simp only [beq_eq_false_iff_ne, ne_eq] at k1 k2 k4 k5 k6 k7 k9 k10; simp [nm0, *]
    obtain rfl : n1 = false := by rw [HN1.out]; simp only [beq_eq_false_iff_ne, ne_eq] at k1 k2 k4 k5 k6 k7 k9 k10; simp [nm1, *]
    obtain rfl : n2 = false := by rw [HN2.out]; simp only [beq_eq_false_iff_ne, ne_eq] at k1 k2 k4 k5 k6 k7 k9 k10; simp [nm2, *]
    obtain rfl : n3 = false := by rw [HN3.out]; simp only [beq_eq_false_iff_ne, ne_eq] at k1 k2 k4 k5 k6 k7 k9 k10; simp [nm3, *]
    obtain rfl : n4 = false := by rw [HN4.out]; simp only [beq_eq_false_iff_ne, ne_eq] at k1 k2 k4 k5 k6 k7 k9 k10; simp [nm4, *]
    obtain ⟨n0, n1, n2, n3, n4, -⟩ := HN5.out
    by_cases hn : il.length = 0
    case neg =>
      have fn : ¬ il = [] := by simpa using hn
      have fn' : 0 < il.length := by omega
      have HE := Lib.hid (show V = (151, 0) from HBAD.out (by simp only [beq_eq_false_iff_ne, ne_eq] at k1 k2 k4 k5 k6 k7 k9 k10; unfold unO unN unA unB unU unV; simp [*]))
      clear hn
      go_wp2_with fail
      refine (no_any 151 0 _).mono ?_
      rintro e wn ⟨rfl, hbn⟩
      obtain ⟨c0, c1, c2, c3, c4, y0, y1, y2, y3, y4, -⟩ := HC0.out.below (Below.call HB3.out hbn)
      have HBN := Lib.hid (Below.call (Below.call HB0.out HB3.out) hbn)
      clear hbn
      unfold rsv
      go_wp2
      refine bodyPost_ret (v := rsv (151, 0)) ?_ rfl ⟨by rw [HE.out], ?_⟩
      · simp [results, Tryz.results42, go_sem, rsv, c0, c1, c2, c3, c4]
      · refine Below.st (Below.st (Below.st (Below.st (Below.st HBN.out ?_) ?_) ?_) ?_) ?_ <;> (simp; omega)
    have fn : il = [] := by simpa using hn
    subst fn
    by_cases ha : a = 0
    case neg =>
      have fa : (a != 0) = true := by simpa using ha
      have HE := Lib.hid (show V = (151, 0) from HBAD.out (by simp only [beq_eq_false_iff_ne, ne_eq] at k1 k2 k4 k5 k6 k7 k9 k10; unfold unO unN unA unB unU unV; simp [*]))
      clear ha
      go_wp2_with fail
      refine (no_any 151 0 _).mono ?_
      rintro e wn ⟨rfl, hbn⟩
      obtain ⟨c0, c1, c2, c3, c4, y0, y1, y2, y3, y4, -⟩ := HC0.out.below (Below.call HB3.out hbn)
      have HBN := Lib.hid (Below.call (Below.call HB0.out HB3.out) hbn)
      clear hbn
      unfold rsv
      go_wp2
      refine bodyPost_ret (v := rsv (151, 0)) ?_ rfl ⟨by rw [HE.out], ?_⟩
      · simp [results, Tryz.results42, go_sem, rsv, c0, c1, c2, c3, c4]
      · refine Below.st (Below.st (Below.st (Below.st (Below.st HBN.out ?_) ?_) ?_) ?_) ?_ <;> (simp; omega)
    subst ha
    by_cases hb : b = 0
    case neg =>
      have fb : (b != 0) = true := by simpa using hb
      have HE := Lib.hid (show V = (151, 0) from HBAD.out (by simp only [beq_eq_false_iff_ne, ne_eq] at k1 k2 k4 k5 k6 k7 k9 k10; unfold unO unN unA unB unU unV; simp [*]))
      clear hb
      go_wp2_with fail
      refine (no_any 151 0 _).mono ?_
      rintro e wn ⟨rfl, hbn⟩
      obtain ⟨c0, c1, c2, c3, c4, y0, y1, y2, y3, y4, -⟩ := HC0.out.below (Below.call HB3.out hbn)
      have HBN := Lib.hid (Below.call (Below.call HB0.out HB3.out) hbn)
      clear hbn
      unfold rsv
      go_wp2
      refine bodyPost_ret (v := rsv (151, 0)) ?_ rfl ⟨by rw [HE.out], ?_⟩
      · simp [results, Tryz.results42, go_sem, rsv, c0, c1, c2, c3, c4]
      · refine Below.st (Below.st (Below.st (Below.st (Below.st HBN.out ?_) ?_) ?_) ?_) ?_ <;> (simp; omega)
    subst hb
    by_cases hu : u = 0
    case neg =>
      have fu : (u != 0) = true := by simpa using hu
      have HE := Lib.hid (show V = (151, 0) from HBAD.out (by simp only [beq_eq_false_iff_ne, ne_eq] at k1 k2 k4 k5 k6 k7 k9 k10; unfold unO unN unA unB unU unV; simp [*]))
      clear hu
      go_wp2_with fail
      refine (no_any 151 0 _).mono ?_
      rintro e wn ⟨rfl, hbn⟩
      obtain ⟨c0, c1, c2, c3, c4, y0, y1, y2, y3, y4, -⟩ := HC0.out.below (Below.call HB3.out hbn)
      have HBN := Lib.hid (Below.call (Below.call HB0.out HB3.out) hbn)
      clear hbn
      unfold rsv
      go_wp2
      refine bodyPost_ret (v := rsv (151, 0)) ?_ rfl ⟨by rw [HE.out], ?_⟩
      · simp [results, Tryz.results42, go_sem, rsv, c0, c1, c2, c3, c4]
      · refine Below.st (Below.st (Below.st (Below.st (Below.st HBN.out ?_) ?_) ?_) ?_) ?_ <;> (simp; omega)
    subst hu
    by_cases hv : v = 0
    case neg =>
      have fv : ((v : Int) != 0) = true := by simpa using hv
      have HE := Lib.hid (show V = (151, 0) from HBAD.out (by simp only [beq_eq_false_iff_ne, ne_eq] at k1 k2 k4 k5 k6 k7 k9 k10; unfold unO unN unA unB unU unV; simp [*]))
      go_wp2_with fail
      refine (no_any 151 0 _).mono ?_
      rintro e wn ⟨rfl, hbn⟩
      obtain ⟨c0, c1, c2, c3, c4, y0, y1, y2, y3, y4, -⟩ := HC0.out.below (Below.call HB3.out hbn)
      have HBN := Lib.hid (Below.call (Below.call HB0.out HB3.out) hbn)
      clear hbn
      unfold rsv
      go_wp2
      refine bodyPost_ret (v := rsv (151, 0)) ?_ rfl ⟨by rw [HE.out], ?_⟩
      · simp [results, Tryz.results42, go_sem, rsv, c0, c1, c2, c3, c4]
      · refine Below.st (Below.st (Below.st (Below.st (Below.st HBN.out ?_) ?_) ?_) ?_) ?_ <;> (simp; omega)
    subst hv
    have HU := Lib.hid (show unO ⟨k, iA, ic, [], 0, 0, 0, 0⟩ = true by simp only [beq_eq_false_iff_ne, ne_eq] at k1 k2 k4 k5 k6 k7 k9 k10; unfold unO unN unA unB unU unV; simp [*])
    have HE := Lib.hid (show V = (0, 0) by
      simp only [beq_eq_false_iff_ne, ne_eq] at k1 k2 k4 k5 k6 k7 k9 k10; 
      rw [HGO.out HU.out (by omega), HNF.out]
      have hl : nmL ⟨k, iA, ic, [], 0, 0, 0, 0⟩ = [] := by unfold nmL; simp [*]
      rw [hl]
      show lastV ⟨k, iA, ic, [], 0, 0, 0, 0⟩ = (0, 0)
      unfold lastV
      simp [*])
    obtain ⟨c0, c1, c2, c3, c4, y0, y1, y2, y3, y4, -⟩ := HC0.out.below HB3.out
    go_wp2
    refine bodyPost_ret (v := rsv (0, 0)) ?_ rfl ⟨by rw [HE.out], ?_⟩
    · simp [results, Tryz.results42, go_sem, rsv, c0, c1, c2, c3, c4]
    · refine Below.st (Below.st (Below.st (Below.st (Below.st (Below.call HB0.out HB3.out) ?_) ?_) ?_) ?_) ?_ <;> (simp; omega)
end Go.Proofs.YtmecohdedghiaaaGreatDoor

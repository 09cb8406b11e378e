/- Requests: are they too large to be looked at. -/
import Derived.Test.YtmecohdedghiaaaDoorPc07
import Derived.Test.YtmecohdedghiaaaDoorPc06
import Derived.StillTailTactics
import Derived.Deep.Cut
import Derived.Test.YtmecohdedghiaaaDoorPc02
namespace Go.Proofs.YtmecohdedghiaaaDoor
open Go.RowKit
noncomputable def idsV (d : Dk) (l : List Int) : Int × Int := if mbV l ≠ (0, 0) then mbV l else match l.find? (fun x => !iwP d 0 x) with | some x => (3, x) | none => (0, 0)
set_option maxRecDepth 100000 in
set_option maxHeartbeats 4000000 in
theorem ids_any (d : Dk) (v : Value) (l : List Int) (w : World) (hd : d.In w w.heap.size) (hv : KI.IsL w w.heap.size v l) : Calls Tryd.prog 27 #[d.v, v] w fun e w' => e = .returned (rsv (idsV d l)) ∧ Below w.heap.size w w' := by
  obtain ⟨A, c, rfl, hc⟩ := hv.shape
  obtain ⟨w0, hw0⟩ : ∃ w0, w0 = (w.alloc (.cells #[.slice d.bA d.bn d.bc, .slice d.pA d.pn d.pc, .slice d.rA d.rn d.rc, .int .i64 d.arms] 26)).alloc (.cells #[.int .i64 0, .int .i64 0, .int .i64 0, .int .i64 0, .slice none 0 0] 39) := ⟨_, rfl⟩
  have HB0 := Lib.hid (show Below w.heap.size w w0 by rw [hw0]; exact Below.al (Below.al (Below.refl _ _) _) _)
  have HD0 := Lib.hid (hd.then HB0.out)
  have HV0 := Lib.hid (hv.then HB0.out)
  have HK0 := Lib.hid (show DkAt w0 w.heap.size d by rw [hw0]; exact (Cells4.new w _ _ _ _ _).below (Below.al (Below.refl _ _) _))
  have HC0 := Lib.hid (show Cells5 w0 (w.heap.size + 1) (.int .i64 0) (.int .i64 0) (.int .i64 0) (.int .i64 0) (.slice none 0 0) by
    have h := Cells5.new (w.alloc (.cells #[.slice d.bA d.bn d.bc, .slice d.pA d.pn d.pc, .slice d.rA d.rn d.rc, .int .i64 d.arms] 26)) 39 (.int .i64 0) (.int .i64 0) (.int .i64 0) (.int .i64 0) (.slice none 0 0)
    rw [World.size_alloc] at h
    rw [hw0]; exact h)
  have HCL := Lib.hid (show w.heap.size + 1 < w0.heap.size by rw [hw0]; simp)
  have HDL := Lib.hid (show w.heap.size < w0.heap.size by have := HCL.out; omega)
  have HVV := Lib.hid (show idsV d l = if mbV l ≠ (0, 0) then mbV l else match l.find? (fun x => !iwP d 0 x) with | some x => (3, x) | none => (0, 0) from rfl)
  have HM := Lib.hid (show mbV l = if l = [] then (1, 0) else if 16 < l.length then (2, 0) else if 0 ≤ twV l then (152, l.getD (twV l).toNat 0) else (0, 0) from rfl)
  have HTW := Lib.hid (fun t => twV_eq (l := l) (t := t))
  have HKD := Lib.hid (fun id h w h2 => kind_any d id h w h2)
  have HRF := Lib.hid (Below.refl w0.heap.size w0)
  obtain ⟨V, hV⟩ : ∃ V, idsV d l = V := ⟨_, rfl⟩
  rw [hV] at HVV ⊢
  clear hd hv hV
  by_cases h0 : l = []
  · subst h0
    have HE := Lib.hid (show V = (1, 0) by rw [HVV.out, HM.out]; rfl)
    go_enter Tryd.func27, Tryd.ntmps27
    go_wp2_with fail
    rw [← hw0]
    clear hw0
    refine (no_any 1 0 _).mono ?_
    rintro e wn ⟨rfl, hbn⟩
    obtain ⟨c0, c1, c2, c3, c4, y0, y1, y2, y3, y4, -⟩ := HC0.out.low (HRF.out.trans (hbn.mono HRF.out.size)) HCL.out
    have HBN := Lib.hid (Below.call (Below.call HB0.out HRF.out) hbn)
    clear hbn
    unfold rsv
    go_wp2
    refine bodyPost_ret (v := rsv (1, 0)) ?_ rfl ⟨by rw [HE.out], ?_⟩
    · simp [results, Tryd.results27, go_sem, rsv, c0, c1, c2, c3, c4]
    · refine Below.st (Below.st (Below.st (Below.st (Below.st HBN.out ?_) ?_) ?_) ?_) ?_ <;> simp
  have hl0 : ((l.length : Int) == 0) = false := by simpa using h0
  by_cases h1 : 16 < l.length
  · have HE := Lib.hid (show V = (2, 0) by rw [HVV.out, HM.out, if_neg h0, if_pos h1]; rfl)
    clear h0
    go_enter Tryd.func27, Tryd.ntmps27
    go_wp2_with fail
    rw [← hw0]
    clear hw0
    refine (no_any 2 0 _).mono ?_
    rintro e wn ⟨rfl, hbn⟩
    obtain ⟨c0, c1, c2, c3, c4, y0, y1, y2, y3, y4, -⟩ := HC0.out.low (HRF.out.trans (hbn.mono HRF.out.size)) HCL.out
    have HBN := Lib.hid (Below.call (Below.call HB0.out HRF.out) hbn)
    clear hbn
    unfold rsv
    go_wp2
    refine bodyPost_ret (v := rsv (2, 0)) ?_ rfl ⟨by rw [HE.out], ?_⟩
    · simp [results, Tryd.results27, go_sem, rsv, c0, c1, c2, c3, c4]
    · refine Below.st (Below.st (Below.st (Below.st (Below.st HBN.out ?_) ?_) ?_) ?_) ?_ <;> simp
  have HN0 := Lib.hid h0
  clear h0
  go_enter Tryd.func27, Tryd.ntmps27
  go_wp2_with fail
  rw [← hw0]
  clear hw0
  refine (Two.rtwice_any _ l w0 (two_of HV0.out)).mono ?_
  rintro e w1 ⟨⟨t, rfl, ht⟩, dd, hdd⟩
  have HB1 := Lib.hid (show Below w0.heap.size w0 w1 by rw [hdd]; exact below_drewN (Below.refl _ _) _)
  clear hdd
  have ht0 := HTW.out t ht
  have HM1 := Lib.hid (show mbV l = if 0 ≤ t then (152, l.getD t.toNat 0) else (0, 0) by rw [HM.out, if_neg HN0.out, if_neg h1, ht0])
  clear HTW ht0 HM
  by_cases h2 : 0 ≤ t
  · obtain ⟨i, hi, rfl⟩ : ∃ i : Nat, i < l.length ∧ t = i := by
      rcases ht with ⟨rfl, _⟩ | ⟨i, hi, rfl, _⟩
      · omega
      · exact ⟨i, hi, rfl⟩
    have HE := Lib.hid (show V = (152, l.getD i 0) by rw [HVV.out, HM1.out, if_pos h2, Int.toNat_natCast, if_pos (by intro h; injection h with h _; exact absurd h (by decide))])
    obtain ⟨b, off, cap, hA, hcap, hb, hlm, hcell, hfit⟩ := KI.cells (HV0.out.below HB1.out) (show 0 < l.length by omega)
    have hci := hcell i hi
    injection hA with hA1 hA2 hA3
    subst hA1
    obtain ⟨x, hx⟩ : ∃ x, l.getD i 0 = x := ⟨_, rfl⟩
    rw [hx] at HE hci
    clear ht hcell hfit hA2 hA3 h2 hx
    go_wp2_with fail
    refine (no_any 152 x _).mono ?_
    rintro e wn ⟨rfl, hbn⟩
    obtain ⟨c0, c1, c2, c3, c4, y0, y1, y2, y3, y4, -⟩ := HC0.out.low (HB1.out.trans (hbn.mono HB1.out.size)) HCL.out
    have HBN := Lib.hid (Below.call (Below.call HB0.out HB1.out) hbn)
    clear hbn
    unfold rsv
    go_wp2
    refine bodyPost_ret (v := rsv (152, x)) ?_ rfl ⟨by rw [HE.out], ?_⟩
    · simp [results, Tryd.results27, go_sem, rsv, c0, c1, c2, c3, c4]
    · refine Below.st (Below.st (Below.st (Below.st (Below.st HBN.out ?_) ?_) ?_) ?_) ?_ <;> simp
  have HMZ := Lib.hid (show mbV l = (0, 0) by rw [HM1.out, if_neg h2])
  have HE := Lib.hid (show V = match l.find? (fun x => !iwP d 0 x) with | some x => (3, x) | none => (0, 0) by rw [HVV.out, HMZ.out]; rfl)
  clear ht HVV
  go_wp2_with fail
  go_loopw [6] (fun i wr => ∃ k : Nat, k ≤ l.length ∧ i = .int .i64 k ∧ (∀ j, j < k → iwP d 0 (l.getD j 0) = true) ∧ Below w0.heap.size w0 wr) (fun i _ => l.length - (intOf i).toNat)
  case atStart => exact ⟨0, Nat.zero_le _, rfl, fun j hj => absurd hj (by omega), HB1.out⟩
  case round =>
    obtain ⟨k, hk, rfl, hal, hbl⟩ := hrel
    have HAL := Lib.hid hal
    have HBL := Lib.hid hbl
    clear hal hbl
    by_cases hlt : k < l.length
    · obtain ⟨b, off, cap, hA, hcap, hb, hlm, hcell, hfit⟩ := KI.cells (HV0.out.below HBL.out) (show 0 < l.length by omega)
      have hci := hcell k hlt
      have HKX := Lib.hid (HKD.out (l.getD k 0) (hfit k hlt))
      have HI0 := Lib.hid (iw_0 d (l.getD k 0))
      obtain ⟨d0, d1, d2, d3, -⟩ := HK0.out.low HBL.out HDL.out
      injection hA with hA1 hA2 hA3
      subst hA1
      obtain ⟨x, hx⟩ : ∃ x, l.getD k 0 = x := ⟨_, rfl⟩
      have HX := Lib.hid hx
      rw [hx] at hci HKX HI0
      clear hcell hfit hA2 hA3 hx
      go_wp2_with fail
      go_still_tail 5, (by kernel_rfl)
      change wpList _ _ _ _ _ wr.drew
      have HBD := Lib.hid (show Below w0.heap.size w0 wr.drew from below_drewN HBL.out 1)
      have hcd : wr.drew.cell? ⟨b, off + k, none⟩ = some (.int .i64 x) := hci
      generalize wr.drew = wd at *
      have HKW := Lib.hid (HKX.out wd (HD0.out.then HBD.out))
      obtain ⟨bb, hbb⟩ : ∃ bb, iwP d 0 x = bb := ⟨_, rfl⟩
      have HBB := Lib.hid hbb
      rw [hbb] at HI0
      clear hbb d0 d1 d2 d3
      generalize kdV d x = kx at *
      cases bb
      case true =>
        have hkx : (kx == 0) = false := by have h := HI0.out; simpa using h
        go_wp2_with (go_at_call 28; refine HKW.out.mono ?_; rintro e w2 ⟨rfl, hb2⟩; have HB2 := Lib.hid (Below.call HBD.out hb2); clear hb2)
        go_roundw
        case rel => exact ⟨k + 1, by omega, num_i (by omega), fun j hj => by
          by_cases h : j < k
          · exact HAL.out j h
          · obtain rfl : j = k := by omega
            rw [HX.out]; exact HBB.out, HB2.out⟩
        case measure => simp [intOf]; omega
      case false =>
        have hkx : (kx == 0) = true := by have h := HI0.out; simpa using h
        have HE2 := Lib.hid (show V = (3, x) by
          have hn : l.find? (fun x => !iwP d 0 x) = some x := find_pre _ l (l.take k) x (by rw [← HX.out, ← take_snoc l k 0 hlt]; exact List.take_prefix _ _) (fun p hp => by
            obtain ⟨j, hj, rfl⟩ := List.mem_iff_getElem.1 hp
            have hj2 : j < k := by simp at hj; omega
            have := HAL.out j hj2
            rw [List.getElem_take]
            rw [List.getD_eq_getElem?_getD, List.getElem?_eq_getElem (by omega)] at this
            simpa using this) (by rw [HBB.out]; rfl)
          rw [HE.out, hn])
        go_wp2_with (go_at_call 28; refine HKW.out.mono ?_; rintro e w2 ⟨rfl, hb2⟩; have hc2 := keep_cell hb2 hcd; have HB2 := Lib.hid (Below.call HBD.out hb2); clear hb2)
        refine (no_any 3 x _).mono ?_
        rintro e wn ⟨rfl, hbn⟩
        obtain ⟨c0, c1, c2, c3, c4, y0, y1, y2, y3, y4, -⟩ := HC0.out.low (HB2.out.trans (hbn.mono HB2.out.size)) HCL.out
        have HBN := Lib.hid (Below.call (Below.call HB0.out HB2.out) hbn)
        clear hbn
        unfold rsv
        go_wp2
        refine bodyPost_ret (v := rsv (3, x)) ?_ rfl ⟨by rw [HE2.out], ?_⟩
        · simp [results, Tryd.results27, go_sem, rsv, c0, c1, c2, c3, c4]
        · refine Below.st (Below.st (Below.st (Below.st (Below.st HBN.out ?_) ?_) ?_) ?_) ?_ <;> simp
    · obtain rfl : k = l.length := by omega
      have HE2 := Lib.hid (show V = (0, 0) by
        have hn : l.find? (fun x => !iwP d 0 x) = none := List.find?_eq_none.2 fun y hy => by
          obtain ⟨j, hj, rfl⟩ := List.mem_iff_getElem.1 hy
          have := HAL.out j hj
          rw [List.getD_eq_getElem?_getD, List.getElem?_eq_getElem hj] at this
          simpa using this
        rw [HE.out, hn])
      obtain ⟨c0, c1, c2, c3, c4, y0, y1, y2, y3, y4, -⟩ := HC0.out.low HBL.out HCL.out
      go_wp2
      refine bodyPost_ret (v := rsv (0, 0)) ?_ rfl ⟨by rw [HE2.out], ?_⟩
      · simp [results, Tryd.results27, go_sem, rsv, c0, c1, c2, c3, c4]
      · refine Below.st (Below.st (Below.st (Below.st (Below.st (Below.call HB0.out HBL.out) ?_) ?_) ?_) ?_) ?_ <;> simp
end Go.Proofs.YtmecohdedghiaaaDoor
namespace Go.Proofs.YtmecohdedghiaaaDoor
open Go.RowKit
theorem ref_z {d : Dk} {r : Rq} (h : zchk d ≠ 0) : refV d r = (zchk d, 0) := if_pos h
theorem ref_k {d : Dk} {r : Rq} (h : zchk d = 0) (hk : r.k < 1 ∨ 10 < r.k) : refV d r = (150, 0) := by
  have hm : mfV r = (150, 0) := if_pos hk
  unfold refV
  rw [if_neg (by simpa using h), hm, if_pos (by intro h; injection h with h _; exact absurd h (by decide))]
theorem ref_bad {d : Dk} {r : Rq} (h : zchk d = 0) (hk : ¬ (r.k < 1 ∨ 10 < r.k)) (hu : unO r = false) : refV d r = (151, 0) := by
  have hm : mfV r = (151, 0) := by unfold mfV; rw [if_neg hk, if_pos hu]
  unfold refV
  rw [if_neg (by simpa using h), hm, if_pos (by intro h; injection h with h _; exact absurd h (by decide))]
theorem ref_ids {d : Dk} {r : Rq} (h : zchk d = 0) (hk : r.k = 1 ∨ r.k = 2) (hu : unO r = true) : refV d r = idsV d r.il := by
  have hm : mfV r = mbV r.il := by unfold mfV; rw [if_neg (by omega), if_neg (by rw [hu]; simp), if_pos hk]
  have hl : nmL r = r.il.map (fun x => (0, x)) := if_pos hk
  have hf : nmF d r = (r.il.find? fun x => !iwP d 0 x).map (fun x => ((0 : Int), x)) := by unfold nmF; rw [hl, List.find?_map]; rfl
  have hla : lastV r = (0, 0) := by unfold lastV; rw [if_neg (by omega), if_neg (by omega)]
  unfold refV idsV
  rw [if_neg (by simpa using h), hm, hf, hla]
  cases r.il.find? fun x => !iwP d 0 x <;> rfl
theorem ref_go {d : Dk} {r : Rq} (h : zchk d = 0) (hk : ¬ (r.k < 1 ∨ 10 < r.k)) (hu : unO r = true) (hk2 : ¬ (r.k = 1 ∨ r.k = 2)) : refV d r = match nmF d r with | some x => (3, x.2) | none => lastV r := by
  have hm : mfV r = (0, 0) := by unfold mfV; rw [if_neg hk, if_neg (by rw [hu]; simp), if_neg hk2]
  unfold refV
  rw [if_neg (by simpa using h), hm, if_neg (by simp)]; rfl
set_option maxRecDepth 100000 in
set_option maxHeartbeats 4000000 in
theorem rcheck15_any (d : Dk) (r : Rq) (w : World) (hd : d.In w w.heap.size) (hr : r.In w w.heap.size) : Calls Tryd.prog 11 #[d.v, r.val] w fun e w' => e = .returned (rsv (refV d r)) ∧ Below w.heap.size w w' := by
  obtain ⟨w0, hw0⟩ : ∃ w0, w0 = ((w.alloc (.cells #[.slice d.bA d.bn d.bc, .slice d.pA d.pn d.pc, .slice d.rA d.rn d.rc, .int .i64 d.arms] 26)).alloc (.cells r.ob 30)).alloc (.cells #[.int .i64 0, .int .i64 0, .int .i64 0, .int .i64 0, .slice none 0 0] 39) := ⟨_, rfl⟩
  have HB0 := Lib.hid (show Below w.heap.size w w0 by rw [hw0]; exact Below.al (Below.al (Below.al (Below.refl _ _) _) _) _)
  have HD0 := Lib.hid (hd.then HB0.out)
  have HR0 := Lib.hid (hr.then HB0.out)
  have HS0 := Lib.hid (show w0.heap.size = w.heap.size + 3 by rw [hw0]; simp)
  have HK0 := Lib.hid (show DkAt w0 w.heap.size d by rw [hw0]; exact ((Cells4.new w _ _ _ _ _).below (Below.al (Below.refl _ _) _)).below (Below.al (Below.refl _ _) _))
  have HQ0 := Lib.hid (show RqAt w0 (w.heap.size + 1) r by
    have h := (Cells6.new (w.alloc (.cells #[.slice d.bA d.bn d.bc, .slice d.pA d.pn d.pc, .slice d.rA d.rn d.rc, .int .i64 d.arms] 26)) 30 (.int .i64 r.k) (.slice r.iA r.il.length r.ic) (.int .i64 r.a) (.int .i64 r.b) (.int .i64 r.u) (.int .u64 r.v)).below (Below.al (Below.refl _ _) (.cells #[.int .i64 0, .int .i64 0, .int .i64 0, .int .i64 0, .slice none 0 0] 39))
    rw [World.size_alloc] at h
    rw [hw0]; exact h)
  have HC0 := Lib.hid (show Cells5 w0 (w.heap.size + 2) (.int .i64 0) (.int .i64 0) (.int .i64 0) (.int .i64 0) (.slice none 0 0) by
    have h := Cells5.new ((w.alloc (.cells #[.slice d.bA d.bn d.bc, .slice d.pA d.pn d.pc, .slice d.rA d.rn d.rc, .int .i64 d.arms] 26)).alloc (.cells r.ob 30)) 39 (.int .i64 0) (.int .i64 0) (.int .i64 0) (.int .i64 0) (.slice none 0 0)
    rw [World.size_alloc, World.size_alloc] at h
    rw [hw0]; exact h)
  have HZ := Lib.hid (rzcheck_any d w0 HD0.out)
  have HV1 := Lib.hid (fun h => ref_z (d := d) (r := r) h)
  have HV2 := Lib.hid (fun h => ref_k (d := d) (r := r) h)
  have HV3 := Lib.hid (fun h => ref_bad (d := d) (r := r) h)
  have HV4 := Lib.hid (fun h => ref_ids (d := d) (r := r) h)
  have HV5 := Lib.hid (fun h => ref_go (d := d) (r := r) h)
  have HKD := Lib.hid (fun id h w h2 => kind_any d id h w h2)
  have HVO := Lib.hid (fun w => rvolume_any r w hr.v)
  have HRF := Lib.hid (Below.refl w0.heap.size w0)
  have HNF := Lib.hid (show nmF d r = (nmL r).find? fun x => !iwP d x.1 x.2 from rfl)
  obtain ⟨V, hV⟩ : ∃ V, refV d r = V := ⟨_, rfl⟩
  rw [hV] at HV1 HV2 HV3 HV4 HV5 ⊢
  generalize zchk d = z at *
  obtain ⟨k, iA, ic, il, a, b, u, v⟩ := r
  dsimp only at *
  clear hd hr hV
  go_enter Tryd.func11, Tryd.ntmps11
  go_wp2_with fail
  rw [← hw0]
  clear hw0
  refine HZ.out.mono ?_
  rintro e w1 ⟨rfl, hb1⟩
  have HB1 := Lib.hid hb1
  obtain ⟨q0, q1, q2, q3, q4, q5, -⟩ := HQ0.out.below hb1
  clear hb1
  by_cases hz : z = 0
  case neg =>
    have HE := Lib.hid (HV1.out hz)
    have hz' : (z != 0) = true := by simpa using hz
    clear hz
    go_wp2_with fail
    refine (no_any z 0 _).mono ?_
    rintro e wn ⟨rfl, hbn⟩
    obtain ⟨c0, c1, c2, c3, c4, y0, y1, y2, y3, y4, -⟩ := HC0.out.below (Below.call HB1.out hbn)
    have HBN := Lib.hid (Below.call (Below.call HB0.out HB1.out) hbn)
    clear hbn
    unfold rsv
    go_wp2
    refine bodyPost_ret (v := rsv (z, 0)) ?_ rfl ⟨by rw [HE.out], ?_⟩
    · simp [results, Tryd.results11, go_sem, rsv, c0, c1, c2, c3, c4]
    · refine Below.st (Below.st (Below.st (Below.st (Below.st HBN.out ?_) ?_) ?_) ?_) ?_ <;> (simp; omega)
  subst hz
  by_cases h1 : k < 1
  · have HE := Lib.hid (HV2.out rfl (.inl h1))
    go_wp2_with fail
    refine (no_any 150 0 _).mono ?_
    rintro e wn ⟨rfl, hbn⟩
    obtain ⟨c0, c1, c2, c3, c4, y0, y1, y2, y3, y4, -⟩ := HC0.out.below (Below.call HB1.out hbn)
    have HBN := Lib.hid (Below.call (Below.call HB0.out HB1.out) hbn)
    clear hbn
    unfold rsv
    go_wp2
    refine bodyPost_ret (v := rsv (150, 0)) ?_ rfl ⟨by rw [HE.out], ?_⟩
    · simp [results, Tryd.results11, go_sem, rsv, c0, c1, c2, c3, c4]
    · refine Below.st (Below.st (Below.st (Below.st (Below.st HBN.out ?_) ?_) ?_) ?_) ?_ <;> (simp; omega)
  by_cases h2 : 10 < k
  · have HE := Lib.hid (HV2.out rfl (.inr h2))
    go_wp2_with fail
    refine (no_any 150 0 _).mono ?_
    rintro e wn ⟨rfl, hbn⟩
    obtain ⟨c0, c1, c2, c3, c4, y0, y1, y2, y3, y4, -⟩ := HC0.out.below (Below.call HB1.out hbn)
    have HBN := Lib.hid (Below.call (Below.call HB0.out HB1.out) hbn)
    clear hbn
    unfold rsv
    go_wp2
    refine bodyPost_ret (v := rsv (150, 0)) ?_ rfl ⟨by rw [HE.out], ?_⟩
    · simp [results, Tryd.results11, go_sem, rsv, c0, c1, c2, c3, c4]
    · refine Below.st (Below.st (Below.st (Below.st (Below.st HBN.out ?_) ?_) ?_) ?_) ?_ <;> (simp; omega)
  have HBAD := Lib.hid (HV3.out rfl (by omega))
  have HIDS := Lib.hid (HV4.out rfl)
  have HGO := Lib.hid (HV5.out rfl (by omega))
  clear HV1 HV2 HV3 HV4 HV5
  go_wp2_with fail
  refine (names_any k w1).mono ?_
  rintro e w2 ⟨rfl, hb2⟩
  obtain ⟨n0, hn0⟩ : ∃ x, nm0 k = x := ⟨_, rfl⟩
  obtain ⟨n1, hn1⟩ : ∃ x, nm1 k = x := ⟨_, rfl⟩
  obtain ⟨n2, hn2⟩ : ∃ x, nm2 k = x := ⟨_, rfl⟩
  obtain ⟨n3, hn3⟩ : ∃ x, nm3 k = x := ⟨_, rfl⟩
  obtain ⟨n4, hn4⟩ : ∃ x, nm4 k = x := ⟨_, rfl⟩
  rw [hn0, hn1, hn2, hn3, hn4]
  have HN0 := Lib.hid hn0.symm
  have HN1 := Lib.hid hn1.symm
  have HN2 := Lib.hid hn2.symm
  have HN3 := Lib.hid hn3.symm
  have HN4 := Lib.hid hn4.symm
  obtain ⟨v3, hv3⟩ : ∃ v3, v3 = w2.alloc (.cells #[.bool n0, .bool n1, .bool n2, .bool n3, .bool n4] 59) := ⟨_, rfl⟩
  have hba := Below.al (Below.refl w2.heap.size w2) (.cells #[.bool n0, .bool n1, .bool n2, .bool n3, .bool n4] 59)
  rw [← hv3] at hba
  have HB3 := Lib.hid (Below.call HB1.out (Below.call hb2 hba))
  have HN5 := Lib.hid (show Cells5 v3 w2.heap.size (.bool n0) (.bool n1) (.bool n2) (.bool n3) (.bool n4) by rw [hv3]; exact Cells5.new w2 _ _ _ _ _ _)
  have hs3 : w.heap.size + 3 ≤ v3.heap.size := by have := HB3.out.size; have := HS0.out; omega
  clear hn0 hn1 hn2 hn3 hn4 hb2 hba q0 q1 q2 q3 q4 q5
  go_upto_region 7 with (fail)
  rw [← hv3]
  clear hv3
  obtain ⟨q0, q1, q2, q3, q4, q5, -⟩ := HQ0.out.below HB3.out
  obtain ⟨d0, d1, d2, d3, -⟩ := HK0.out.below HB3.out
  rcases kinds k with rfl | rfl | rfl | rfl | rfl | rfl | rfl | rfl | ⟨k1, k2, k4, k5, k6, k7, k9, k10⟩
  · obtain rfl : n0 = true := HN0.out
    obtain rfl : n1 = false := HN1.out
    obtain rfl : n2 = false := HN2.out
    obtain rfl : n3 = false := HN3.out
    obtain rfl : n4 = false := HN4.out
    obtain ⟨n0, n1, n2, n3, n4, -⟩ := HN5.out
    by_cases ha : a = 0
    case neg =>
      have fa : (a != 0) = true := by simpa using ha
      have HE := Lib.hid (show V = (151, 0) from HBAD.out (by unfold unO unN unA unB unU unV; simp [*]))
      clear ha
      go_wp2_with fail
      refine (no_any 151 0 _).mono ?_
      rintro e wn ⟨rfl, hbn⟩
      obtain ⟨c0, c1, c2, c3, c4, y0, y1, y2, y3, y4, -⟩ := HC0.out.below (Below.call HB3.out hbn)
      have HBN := Lib.hid (Below.call (Below.call HB0.out HB3.out) hbn)
      clear hbn
      unfold rsv
      go_wp2
      refine bodyPost_ret (v := rsv (151, 0)) ?_ rfl ⟨by rw [HE.out], ?_⟩
      · simp [results, Tryd.results11, go_sem, rsv, c0, c1, c2, c3, c4]
      · refine Below.st (Below.st (Below.st (Below.st (Below.st HBN.out ?_) ?_) ?_) ?_) ?_ <;> (simp; omega)
    subst ha
    by_cases hb : b = 0
    case neg =>
      have fb : (b != 0) = true := by simpa using hb
      have HE := Lib.hid (show V = (151, 0) from HBAD.out (by unfold unO unN unA unB unU unV; simp [*]))
      clear hb
      go_wp2_with fail
      refine (no_any 151 0 _).mono ?_
      rintro e wn ⟨rfl, hbn⟩
      obtain ⟨c0, c1, c2, c3, c4, y0, y1, y2, y3, y4, -⟩ := HC0.out.below (Below.call HB3.out hbn)
      have HBN := Lib.hid (Below.call (Below.call HB0.out HB3.out) hbn)
      clear hbn
      unfold rsv
      go_wp2
      refine bodyPost_ret (v := rsv (151, 0)) ?_ rfl ⟨by rw [HE.out], ?_⟩
      · simp [results, Tryd.results11, go_sem, rsv, c0, c1, c2, c3, c4]
      · refine Below.st (Below.st (Below.st (Below.st (Below.st HBN.out ?_) ?_) ?_) ?_) ?_ <;> (simp; omega)
    subst hb
    by_cases hu : u = 0
    case neg =>
      have fu : (u != 0) = true := by simpa using hu
      have HE := Lib.hid (show V = (151, 0) from HBAD.out (by unfold unO unN unA unB unU unV; simp [*]))
      clear hu
      go_wp2_with fail
      refine (no_any 151 0 _).mono ?_
      rintro e wn ⟨rfl, hbn⟩
      obtain ⟨c0, c1, c2, c3, c4, y0, y1, y2, y3, y4, -⟩ := HC0.out.below (Below.call HB3.out hbn)
      have HBN := Lib.hid (Below.call (Below.call HB0.out HB3.out) hbn)
      clear hbn
      unfold rsv
      go_wp2
      refine bodyPost_ret (v := rsv (151, 0)) ?_ rfl ⟨by rw [HE.out], ?_⟩
      · simp [results, Tryd.results11, go_sem, rsv, c0, c1, c2, c3, c4]
      · refine Below.st (Below.st (Below.st (Below.st (Below.st HBN.out ?_) ?_) ?_) ?_) ?_ <;> (simp; omega)
    subst hu
    by_cases hv : v = 0
    case neg =>
      have fv : ((v : Int) != 0) = true := by simpa using hv
      have HE := Lib.hid (show V = (151, 0) from HBAD.out (by unfold unO unN unA unB unU unV; simp [*]))
      go_wp2_with fail
      refine (no_any 151 0 _).mono ?_
      rintro e wn ⟨rfl, hbn⟩
      obtain ⟨c0, c1, c2, c3, c4, y0, y1, y2, y3, y4, -⟩ := HC0.out.below (Below.call HB3.out hbn)
      have HBN := Lib.hid (Below.call (Below.call HB0.out HB3.out) hbn)
      clear hbn
      unfold rsv
      go_wp2
      refine bodyPost_ret (v := rsv (151, 0)) ?_ rfl ⟨by rw [HE.out], ?_⟩
      · simp [results, Tryd.results11, go_sem, rsv, c0, c1, c2, c3, c4]
      · refine Below.st (Below.st (Below.st (Below.st (Below.st HBN.out ?_) ?_) ?_) ?_) ?_ <;> (simp; omega)
    subst hv
    have HU := Lib.hid (show unO ⟨1, iA, ic, il, 0, 0, 0, 0⟩ = true by unfold unO unN unA unB unU unV; simp)
    have HE := Lib.hid (HIDS.out (by decide) HU.out)
    go_wp2_with fail
    refine (ids_any d (.slice iA il.length ic) il v3 (HD0.out.then HB3.out) (HR0.out.then HB3.out).l).mono ?_
    rintro e wn ⟨rfl, hbn⟩
    obtain ⟨c0, c1, c2, c3, c4, y0, y1, y2, y3, y4, -⟩ := HC0.out.below (Below.call HB3.out hbn)
    have HBN := Lib.hid (Below.call (Below.call HB0.out HB3.out) hbn)
    clear hbn
    rw [← HE.out]
    obtain ⟨e1, e2⟩ := V
    unfold rsv
    dsimp only
    go_wp2
    refine bodyPost_ret (v := rsv (e1, e2)) ?_ rfl ⟨rfl, ?_⟩
    · simp [results, Tryd.results11, go_sem, rsv, c0, c1, c2, c3, c4]
    · refine Below.st (Below.st (Below.st (Below.st (Below.st HBN.out ?_) ?_) ?_) ?_) ?_ <;> (simp; omega)
  · obtain rfl : n0 = true := HN0.out
    obtain rfl : n1 = false := HN1.out
    obtain rfl : n2 = false := HN2.out
    obtain rfl : n3 = false := HN3.out
    obtain rfl : n4 = false := HN4.out
    obtain ⟨n0, n1, n2, n3, n4, -⟩ := HN5.out
    by_cases ha : a = 0
    case neg =>
      have fa : (a != 0) = true := by simpa using ha
      have HE := Lib.hid (show V = (151, 0) from HBAD.out (by unfold unO unN unA unB unU unV; simp [*]))
      clear ha
      go_wp2_with fail
      refine (no_any 151 0 _).mono ?_
      rintro e wn ⟨rfl, hbn⟩
      obtain ⟨c0, c1, c2, c3, c4, y0, y1, y2, y3, y4, -⟩ := HC0.out.below (Below.call HB3.out hbn)
      have HBN := Lib.hid (Below.call (Below.call HB0.out HB3.out) hbn)
      clear hbn
      unfold rsv
      go_wp2
      refine bodyPost_ret (v := rsv (151, 0)) ?_ rfl ⟨by rw [HE.out], ?_⟩
      · simp [results, Tryd.results11, go_sem, rsv, c0, c1, c2, c3, c4]
      · refine Below.st (Below.st (Below.st (Below.st (Below.st HBN.out ?_) ?_) ?_) ?_) ?_ <;> (simp; omega)
    subst ha
    by_cases hb : b = 0
    case neg =>
      have fb : (b != 0) = true := by simpa using hb
      have HE := Lib.hid (show V = (151, 0) from HBAD.out (by unfold unO unN unA unB unU unV; simp [*]))
      clear hb
      go_wp2_with fail
      refine (no_any 151 0 _).mono ?_
      rintro e wn ⟨rfl, hbn⟩
      obtain ⟨c0, c1, c2, c3, c4, y0, y1, y2, y3, y4, -⟩ := HC0.out.below (Below.call HB3.out hbn)
      have HBN := Lib.hid (Below.call (Below.call HB0.out HB3.out) hbn)
      clear hbn
      unfold rsv
      go_wp2
      refine bodyPost_ret (v := rsv (151, 0)) ?_ rfl ⟨by rw [HE.out], ?_⟩
      · simp [results, Tryd.results11, go_sem, rsv, c0, c1, c2, c3, c4]
      · refine Below.st (Below.st (Below.st (Below.st (Below.st HBN.out ?_) ?_) ?_) ?_) ?_ <;> (simp; omega)
    subst hb
    by_cases hu : u = 0
    case neg =>
      have fu : (u != 0) = true := by simpa using hu
      have HE := Lib.hid (show V = (151, 0) from HBAD.out (by unfold unO unN unA unB unU unV; simp [*]))
      clear hu
      go_wp2_with fail
      refine (no_any 151 0 _).mono ?_
      rintro e wn ⟨rfl, hbn⟩
      obtain ⟨c0, c1, c2, c3, c4, y0, y1, y2, y3, y4, -⟩ := HC0.out.below (Below.call HB3.out hbn)
      have HBN := Lib.hid (Below.call (Below.call HB0.out HB3.out) hbn)
      clear hbn
      unfold rsv
      go_wp2
      refine bodyPost_ret (v := rsv (151, 0)) ?_ rfl ⟨by rw [HE.out], ?_⟩
      · simp [results, Tryd.results11, go_sem, rsv, c0, c1, c2, c3, c4]
      · refine Below.st (Below.st (Below.st (Below.st (Below.st HBN.out ?_) ?_) ?_) ?_) ?_ <;> (simp; omega)
    subst hu
    by_cases hv : v = 0
    case neg =>
      have fv : ((v : Int) != 0) = true := by simpa using hv
      have HE := Lib.hid (show V = (151, 0) from HBAD.out (by unfold unO unN unA unB unU unV; simp [*]))
      go_wp2_with fail
      refine (no_any 151 0 _).mono ?_
      rintro e wn ⟨rfl, hbn⟩
      obtain ⟨c0, c1, c2, c3, c4, y0, y1, y2, y3, y4, -⟩ := HC0.out.below (Below.call HB3.out hbn)
      have HBN := Lib.hid (Below.call (Below.call HB0.out HB3.out) hbn)
      clear hbn
      unfold rsv
      go_wp2
      refine bodyPost_ret (v := rsv (151, 0)) ?_ rfl ⟨by rw [HE.out], ?_⟩
      · simp [results, Tryd.results11, go_sem, rsv, c0, c1, c2, c3, c4]
      · refine Below.st (Below.st (Below.st (Below.st (Below.st HBN.out ?_) ?_) ?_) ?_) ?_ <;> (simp; omega)
    subst hv
    have HU := Lib.hid (show unO ⟨2, iA, ic, il, 0, 0, 0, 0⟩ = true by unfold unO unN unA unB unU unV; simp)
    have HE := Lib.hid (HIDS.out (by decide) HU.out)
    go_wp2_with fail
    refine (ids_any d (.slice iA il.length ic) il v3 (HD0.out.then HB3.out) (HR0.out.then HB3.out).l).mono ?_
    rintro e wn ⟨rfl, hbn⟩
    obtain ⟨c0, c1, c2, c3, c4, y0, y1, y2, y3, y4, -⟩ := HC0.out.below (Below.call HB3.out hbn)
    have HBN := Lib.hid (Below.call (Below.call HB0.out HB3.out) hbn)
    clear hbn
    rw [← HE.out]
    obtain ⟨e1, e2⟩ := V
    unfold rsv
    dsimp only
    go_wp2
    refine bodyPost_ret (v := rsv (e1, e2)) ?_ rfl ⟨rfl, ?_⟩
    · simp [results, Tryd.results11, go_sem, rsv, c0, c1, c2, c3, c4]
    · refine Below.st (Below.st (Below.st (Below.st (Below.st HBN.out ?_) ?_) ?_) ?_) ?_ <;> (simp; omega)
  · obtain rfl : n0 = false := HN0.out
    obtain rfl : n1 = true := HN1.out
    obtain rfl : n2 = true := HN2.out
    obtain rfl : n3 = false := HN3.out
    obtain rfl : n4 = true := HN4.out
    obtain ⟨n0, n1, n2, n3, n4, -⟩ := HN5.out
    by_cases hn : il.length = 0
    case neg =>
      have fn : ¬ il = [] := by simpa using hn
      have fn' : 0 < il.length := by omega
      have HE := Lib.hid (show V = (151, 0) from HBAD.out (by unfold unO unN unA unB unU unV; simp [*]))
      clear hn
      go_wp2_with fail
      refine (no_any 151 0 _).mono ?_
      rintro e wn ⟨rfl, hbn⟩
      obtain ⟨c0, c1, c2, c3, c4, y0, y1, y2, y3, y4, -⟩ := HC0.out.below (Below.call HB3.out hbn)
      have HBN := Lib.hid (Below.call (Below.call HB0.out HB3.out) hbn)
      clear hbn
      unfold rsv
      go_wp2
      refine bodyPost_ret (v := rsv (151, 0)) ?_ rfl ⟨by rw [HE.out], ?_⟩
      · simp [results, Tryd.results11, go_sem, rsv, c0, c1, c2, c3, c4]
      · refine Below.st (Below.st (Below.st (Below.st (Below.st HBN.out ?_) ?_) ?_) ?_) ?_ <;> (simp; omega)
    have fn : il = [] := by simpa using hn
    subst fn
    by_cases hu : u = 0
    case neg =>
      have fu : (u != 0) = true := by simpa using hu
      have HE := Lib.hid (show V = (151, 0) from HBAD.out (by unfold unO unN unA unB unU unV; simp [*]))
      clear hu
      go_wp2_with fail
      refine (no_any 151 0 _).mono ?_
      rintro e wn ⟨rfl, hbn⟩
      obtain ⟨c0, c1, c2, c3, c4, y0, y1, y2, y3, y4, -⟩ := HC0.out.below (Below.call HB3.out hbn)
      have HBN := Lib.hid (Below.call (Below.call HB0.out HB3.out) hbn)
      clear hbn
      unfold rsv
      go_wp2
      refine bodyPost_ret (v := rsv (151, 0)) ?_ rfl ⟨by rw [HE.out], ?_⟩
      · simp [results, Tryd.results11, go_sem, rsv, c0, c1, c2, c3, c4]
      · refine Below.st (Below.st (Below.st (Below.st (Below.st HBN.out ?_) ?_) ?_) ?_) ?_ <;> (simp; omega)
    subst hu
    have HU := Lib.hid (show unO ⟨4, iA, ic, [], a, b, 0, v⟩ = true by unfold unO unN unA unB unU unV; simp)
    have hi1 := iw_k d 1 a (by decide)
    have HK1 := Lib.hid (HKD.out a HR0.out.a)
    generalize kdV d a = kk1 at *
    have HI1 := Lib.hid hi1
    clear hi1
    go_wp2_with fail
    refine (HK1.out _ (HD0.out.then HB3.out)).mono ?_
    rintro e wk1 ⟨rfl, hbk⟩
    have HBK1 := Lib.hid (Below.call HB3.out hbk)
    have HNK1 := Lib.hid hbk
    clear hbk q0 q1 q2 q3 q4 q5 d0 d1 d2 d3 n0 n1 n2 n3 n4
    obtain ⟨q0, q1, q2, q3, q4, q5, -⟩ := HQ0.out.below HBK1.out
    obtain ⟨d0, d1, d2, d3, -⟩ := HK0.out.below HBK1.out
    obtain ⟨n0, n1, n2, n3, n4, -⟩ := HN5.out.below HNK1.out
    obtain ⟨c0, c1, c2, c3, c4, y0, y1, y2, y3, y4, -⟩ := HC0.out.below HBK1.out
    by_cases hk1 : kk1 = 1
    case neg =>
      have hk1' : (kk1 != 1) = true := by simpa using hk1
      have HE := Lib.hid (show V = (3, a) by
        rw [HGO.out HU.out (by decide), HNF.out]
        show (match List.find? (fun x : Int × Int => !iwP d x.1 x.2) [(1, a), (1, b)] with | some x => ((3 : Int), x.2) | none => _) = _
        rw [List.find?_cons_of_pos (by simpa [HI1.out] using hk1)])
      clear hk1 c0 c1 c2 c3 c4 y0 y1 y2 y3 y4
      go_wp2_with fail
      refine (no_any 3 a _).mono ?_
      rintro e wn ⟨rfl, hbn⟩
      obtain ⟨c0, c1, c2, c3, c4, y0, y1, y2, y3, y4, -⟩ := HC0.out.below (Below.call HBK1.out hbn)
      have HBN := Lib.hid (Below.call (Below.call HB0.out HBK1.out) hbn)
      clear hbn
      unfold rsv
      go_wp2
      refine bodyPost_ret (v := rsv (3, a)) ?_ rfl ⟨by rw [HE.out], ?_⟩
      · simp [results, Tryd.results11, go_sem, rsv, c0, c1, c2, c3, c4]
      · refine Below.st (Below.st (Below.st (Below.st (Below.st HBN.out ?_) ?_) ?_) ?_) ?_ <;> (simp; omega)
    subst hk1
    clear c0 c1 c2 c3 c4 y0 y1 y2 y3 y4
    have hi2 := iw_k d 1 b (by decide)
    have HK2 := Lib.hid (HKD.out b HR0.out.b)
    generalize kdV d b = kk2 at *
    have HI2 := Lib.hid hi2
    clear hi2
    go_wp2_with fail
    refine (HK2.out _ (HD0.out.then HBK1.out)).mono ?_
    rintro e wk2 ⟨rfl, hbk⟩
    have HBK2 := Lib.hid (Below.call HBK1.out hbk)
    have HNK2 := Lib.hid (Below.call HNK1.out hbk)
    clear hbk q0 q1 q2 q3 q4 q5 d0 d1 d2 d3 n0 n1 n2 n3 n4
    obtain ⟨q0, q1, q2, q3, q4, q5, -⟩ := HQ0.out.below HBK2.out
    obtain ⟨d0, d1, d2, d3, -⟩ := HK0.out.below HBK2.out
    obtain ⟨n0, n1, n2, n3, n4, -⟩ := HN5.out.below HNK2.out
    obtain ⟨c0, c1, c2, c3, c4, y0, y1, y2, y3, y4, -⟩ := HC0.out.below HBK2.out
    by_cases hk2 : kk2 = 1
    case neg =>
      have hk2' : (kk2 != 1) = true := by simpa using hk2
      have HE := Lib.hid (show V = (3, b) by
        rw [HGO.out HU.out (by decide), HNF.out]
        show (match List.find? (fun x : Int × Int => !iwP d x.1 x.2) [(1, a), (1, b)] with | some x => ((3 : Int), x.2) | none => _) = _
        rw [List.find?_cons_of_neg (by simp [HI1.out]), List.find?_cons_of_pos (by simpa [HI2.out] using hk2)])
      clear hk2 c0 c1 c2 c3 c4 y0 y1 y2 y3 y4
      go_wp2_with fail
      refine (no_any 3 b _).mono ?_
      rintro e wn ⟨rfl, hbn⟩
      obtain ⟨c0, c1, c2, c3, c4, y0, y1, y2, y3, y4, -⟩ := HC0.out.below (Below.call HBK2.out hbn)
      have HBN := Lib.hid (Below.call (Below.call HB0.out HBK2.out) hbn)
      clear hbn
      unfold rsv
      go_wp2
      refine bodyPost_ret (v := rsv (3, b)) ?_ rfl ⟨by rw [HE.out], ?_⟩
      · simp [results, Tryd.results11, go_sem, rsv, c0, c1, c2, c3, c4]
      · refine Below.st (Below.st (Below.st (Below.st (Below.st HBN.out ?_) ?_) ?_) ?_) ?_ <;> (simp; omega)
    subst hk2
    by_cases hab : a = b
    case pos =>
      have hab' : (a == b) = true := by simpa using hab
      have HE := Lib.hid (show V = (1, 0) by
        rw [HGO.out HU.out (by decide), HNF.out]
        show (match List.find? (fun x : Int × Int => !iwP d x.1 x.2) [(1, a), (1, b)] with | some x => ((3 : Int), x.2) | none => _) = _
        rw [List.find?_eq_none.2 (by simp [HI1.out, HI2.out])]
        show lastV ⟨4, iA, ic, [], a, b, 0, v⟩ = (1, 0)
        unfold lastV
        exact if_pos ⟨rfl, hab⟩)
      clear hab c0 c1 c2 c3 c4 y0 y1 y2 y3 y4
      go_wp2_with fail
      refine (no_any 1 0 _).mono ?_
      rintro e wn ⟨rfl, hbn⟩
      obtain ⟨c0, c1, c2, c3, c4, y0, y1, y2, y3, y4, -⟩ := HC0.out.below (Below.call HBK2.out hbn)
      have HBN := Lib.hid (Below.call (Below.call HB0.out HBK2.out) hbn)
      clear hbn
      unfold rsv
      go_wp2
      refine bodyPost_ret (v := rsv (1, 0)) ?_ rfl ⟨by rw [HE.out], ?_⟩
      · simp [results, Tryd.results11, go_sem, rsv, c0, c1, c2, c3, c4]
      · refine Below.st (Below.st (Below.st (Below.st (Below.st HBN.out ?_) ?_) ?_) ?_) ?_ <;> (simp; omega)
    have hab' : (a == b) = false := by simpa using hab
    have HE := Lib.hid (show V = (voE v, 0) by
      rw [HGO.out HU.out (by decide), HNF.out]
      show (match List.find? (fun x : Int × Int => !iwP d x.1 x.2) [(1, a), (1, b)] with | some x => ((3 : Int), x.2) | none => _) = _
      rw [List.find?_eq_none.2 (by simp [HI1.out, HI2.out])]
      show lastV ⟨4, iA, ic, [], a, b, 0, v⟩ = (voE v, 0)
      unfold lastV
      rw [if_neg (fun h => hab h.2)]; simp)
    clear hab
    clear c0 c1 c2 c3 c4 y0 y1 y2 y3 y4
    go_wp2_with fail
    refine (HVO.out _).mono ?_
    rintro e wv ⟨rfl, hbv⟩
    have HBV := Lib.hid (Below.call HBK2.out hbv)
    clear hbv
    go_wp2_with fail
    refine (no_any (voE v) 0 _).mono ?_
    rintro e wn ⟨rfl, hbn⟩
    obtain ⟨c0, c1, c2, c3, c4, y0, y1, y2, y3, y4, -⟩ := HC0.out.below (Below.call HBV.out hbn)
    have HBN := Lib.hid (Below.call (Below.call HB0.out HBV.out) hbn)
    clear hbn
    unfold rsv
    go_wp2
    refine bodyPost_ret (v := rsv ((voE v), 0)) ?_ rfl ⟨by rw [HE.out], ?_⟩
    · simp [results, Tryd.results11, go_sem, rsv, c0, c1, c2, c3, c4]
    · refine Below.st (Below.st (Below.st (Below.st (Below.st HBN.out ?_) ?_) ?_) ?_) ?_ <;> (simp; omega)
  · obtain rfl : n0 = false := HN0.out
    obtain rfl : n1 = true := HN1.out
    obtain rfl : n2 = false := HN2.out
    obtain rfl : n3 = false := HN3.out
    obtain rfl : n4 = true := HN4.out
    obtain ⟨n0, n1, n2, n3, n4, -⟩ := HN5.out
    by_cases hn : il.length = 0
    case neg =>
      have fn : ¬ il = [] := by simpa using hn
      have fn' : 0 < il.length := by omega
      have HE := Lib.hid (show V = (151, 0) from HBAD.out (by unfold unO unN unA unB unU unV; simp [*]))
      clear hn
      go_wp2_with fail
      refine (no_any 151 0 _).mono ?_
      rintro e wn ⟨rfl, hbn⟩
      obtain ⟨c0, c1, c2, c3, c4, y0, y1, y2, y3, y4, -⟩ := HC0.out.below (Below.call HB3.out hbn)
      have HBN := Lib.hid (Below.call (Below.call HB0.out HB3.out) hbn)
      clear hbn
      unfold rsv
      go_wp2
      refine bodyPost_ret (v := rsv (151, 0)) ?_ rfl ⟨by rw [HE.out], ?_⟩
      · simp [results, Tryd.results11, go_sem, rsv, c0, c1, c2, c3, c4]
      · refine Below.st (Below.st (Below.st (Below.st (Below.st HBN.out ?_) ?_) ?_) ?_) ?_ <;> (simp; omega)
    have fn : il = [] := by simpa using hn
    subst fn
    by_cases hb : b = 0
    case neg =>
      have fb : (b != 0) = true := by simpa using hb
      have HE := Lib.hid (show V = (151, 0) from HBAD.out (by unfold unO unN unA unB unU unV; simp [*]))
      clear hb
      go_wp2_with fail
      refine (no_any 151 0 _).mono ?_
      rintro e wn ⟨rfl, hbn⟩
      obtain ⟨c0, c1, c2, c3, c4, y0, y1, y2, y3, y4, -⟩ := HC0.out.below (Below.call HB3.out hbn)
      have HBN := Lib.hid (Below.call (Below.call HB0.out HB3.out) hbn)
      clear hbn
      unfold rsv
      go_wp2
      refine bodyPost_ret (v := rsv (151, 0)) ?_ rfl ⟨by rw [HE.out], ?_⟩
      · simp [results, Tryd.results11, go_sem, rsv, c0, c1, c2, c3, c4]
      · refine Below.st (Below.st (Below.st (Below.st (Below.st HBN.out ?_) ?_) ?_) ?_) ?_ <;> (simp; omega)
    subst hb
    by_cases hu : u = 0
    case neg =>
      have fu : (u != 0) = true := by simpa using hu
      have HE := Lib.hid (show V = (151, 0) from HBAD.out (by unfold unO unN unA unB unU unV; simp [*]))
      clear hu
      go_wp2_with fail
      refine (no_any 151 0 _).mono ?_
      rintro e wn ⟨rfl, hbn⟩
      obtain ⟨c0, c1, c2, c3, c4, y0, y1, y2, y3, y4, -⟩ := HC0.out.below (Below.call HB3.out hbn)
      have HBN := Lib.hid (Below.call (Below.call HB0.out HB3.out) hbn)
      clear hbn
      unfold rsv
      go_wp2
      refine bodyPost_ret (v := rsv (151, 0)) ?_ rfl ⟨by rw [HE.out], ?_⟩
      · simp [results, Tryd.results11, go_sem, rsv, c0, c1, c2, c3, c4]
      · refine Below.st (Below.st (Below.st (Below.st (Below.st HBN.out ?_) ?_) ?_) ?_) ?_ <;> (simp; omega)
    subst hu
    have HU := Lib.hid (show unO ⟨5, iA, ic, [], a, 0, 0, v⟩ = true by unfold unO unN unA unB unU unV; simp)
    have hi1 := iw_k d 1 a (by decide)
    have HK1 := Lib.hid (HKD.out a HR0.out.a)
    generalize kdV d a = kk1 at *
    have HI1 := Lib.hid hi1
    clear hi1
    go_wp2_with fail
    refine (HK1.out _ (HD0.out.then HB3.out)).mono ?_
    rintro e wk1 ⟨rfl, hbk⟩
    have HBK1 := Lib.hid (Below.call HB3.out hbk)
    have HNK1 := Lib.hid hbk
    clear hbk q0 q1 q2 q3 q4 q5 d0 d1 d2 d3 n0 n1 n2 n3 n4
    obtain ⟨q0, q1, q2, q3, q4, q5, -⟩ := HQ0.out.below HBK1.out
    obtain ⟨d0, d1, d2, d3, -⟩ := HK0.out.below HBK1.out
    obtain ⟨n0, n1, n2, n3, n4, -⟩ := HN5.out.below HNK1.out
    obtain ⟨c0, c1, c2, c3, c4, y0, y1, y2, y3, y4, -⟩ := HC0.out.below HBK1.out
    by_cases hk1 : kk1 = 1
    case neg =>
      have hk1' : (kk1 != 1) = true := by simpa using hk1
      have HE := Lib.hid (show V = (3, a) by
        rw [HGO.out HU.out (by decide), HNF.out]
        show (match List.find? (fun x : Int × Int => !iwP d x.1 x.2) [(1, a)] with | some x => ((3 : Int), x.2) | none => _) = _
        rw [List.find?_cons_of_pos (by simpa [HI1.out] using hk1)])
      clear hk1 c0 c1 c2 c3 c4 y0 y1 y2 y3 y4
      go_wp2_with fail
      refine (no_any 3 a _).mono ?_
      rintro e wn ⟨rfl, hbn⟩
      obtain ⟨c0, c1, c2, c3, c4, y0, y1, y2, y3, y4, -⟩ := HC0.out.below (Below.call HBK1.out hbn)
      have HBN := Lib.hid (Below.call (Below.call HB0.out HBK1.out) hbn)
      clear hbn
      unfold rsv
      go_wp2
      refine bodyPost_ret (v := rsv (3, a)) ?_ rfl ⟨by rw [HE.out], ?_⟩
      · simp [results, Tryd.results11, go_sem, rsv, c0, c1, c2, c3, c4]
      · refine Below.st (Below.st (Below.st (Below.st (Below.st HBN.out ?_) ?_) ?_) ?_) ?_ <;> (simp; omega)
    subst hk1
    have HE := Lib.hid (show V = (voE v, 0) by
      rw [HGO.out HU.out (by decide), HNF.out]
      show (match List.find? (fun x : Int × Int => !iwP d x.1 x.2) [(1, a)] with | some x => ((3 : Int), x.2) | none => _) = _
      rw [List.find?_eq_none.2 (by simp [HI1.out])]
      show lastV ⟨5, iA, ic, [], a, 0, 0, v⟩ = (voE v, 0)
      unfold lastV
      simp)
    clear c0 c1 c2 c3 c4 y0 y1 y2 y3 y4
    go_wp2_with fail
    refine (HVO.out _).mono ?_
    rintro e wv ⟨rfl, hbv⟩
    have HBV := Lib.hid (Below.call HBK1.out hbv)
    clear hbv
    go_wp2_with fail
    refine (no_any (voE v) 0 _).mono ?_
    rintro e wn ⟨rfl, hbn⟩
    obtain ⟨c0, c1, c2, c3, c4, y0, y1, y2, y3, y4, -⟩ := HC0.out.below (Below.call HBV.out hbn)
    have HBN := Lib.hid (Below.call (Below.call HB0.out HBV.out) hbn)
    clear hbn
    unfold rsv
    go_wp2
    refine bodyPost_ret (v := rsv ((voE v), 0)) ?_ rfl ⟨by rw [HE.out], ?_⟩
    · simp [results, Tryd.results11, go_sem, rsv, c0, c1, c2, c3, c4]
    · refine Below.st (Below.st (Below.st (Below.st (Below.st HBN.out ?_) ?_) ?_) ?_) ?_ <;> (simp; omega)
  · obtain rfl : n0 = false := HN0.out
    obtain rfl : n1 = true := HN1.out
    obtain rfl : n2 = false := HN2.out
    obtain rfl : n3 = false := HN3.out
    obtain rfl : n4 = true := HN4.out
    obtain ⟨n0, n1, n2, n3, n4, -⟩ := HN5.out
    by_cases hn : il.length = 0
    case neg =>
      have fn : ¬ il = [] := by simpa using hn
      have fn' : 0 < il.length := by omega
      have HE := Lib.hid (show V = (151, 0) from HBAD.out (by unfold unO unN unA unB unU unV; simp [*]))
      clear hn
      go_wp2_with fail
      refine (no_any 151 0 _).mono ?_
      rintro e wn ⟨rfl, hbn⟩
      obtain ⟨c0, c1, c2, c3, c4, y0, y1, y2, y3, y4, -⟩ := HC0.out.below (Below.call HB3.out hbn)
      have HBN := Lib.hid (Below.call (Below.call HB0.out HB3.out) hbn)
      clear hbn
      unfold rsv
      go_wp2
      refine bodyPost_ret (v := rsv (151, 0)) ?_ rfl ⟨by rw [HE.out], ?_⟩
      · simp [results, Tryd.results11, go_sem, rsv, c0, c1, c2, c3, c4]
      · refine Below.st (Below.st (Below.st (Below.st (Below.st HBN.out ?_) ?_) ?_) ?_) ?_ <;> (simp; omega)
    have fn : il = [] := by simpa using hn
    subst fn
    by_cases hb : b = 0
    case neg =>
      have fb : (b != 0) = true := by simpa using hb
      have HE := Lib.hid (show V = (151, 0) from HBAD.out (by unfold unO unN unA unB unU unV; simp [*]))
      clear hb
      go_wp2_with fail
      refine (no_any 151 0 _).mono ?_
      rintro e wn ⟨rfl, hbn⟩
      obtain ⟨c0, c1, c2, c3, c4, y0, y1, y2, y3, y4, -⟩ := HC0.out.below (Below.call HB3.out hbn)
      have HBN := Lib.hid (Below.call (Below.call HB0.out HB3.out) hbn)
      clear hbn
      unfold rsv
      go_wp2
      refine bodyPost_ret (v := rsv (151, 0)) ?_ rfl ⟨by rw [HE.out], ?_⟩
      · simp [results, Tryd.results11, go_sem, rsv, c0, c1, c2, c3, c4]
      · refine Below.st (Below.st (Below.st (Below.st (Below.st HBN.out ?_) ?_) ?_) ?_) ?_ <;> (simp; omega)
    subst hb
    by_cases hu : u = 0
    case neg =>
      have fu : (u != 0) = true := by simpa using hu
      have HE := Lib.hid (show V = (151, 0) from HBAD.out (by unfold unO unN unA unB unU unV; simp [*]))
      clear hu
      go_wp2_with fail
      refine (no_any 151 0 _).mono ?_
      rintro e wn ⟨rfl, hbn⟩
      obtain ⟨c0, c1, c2, c3, c4, y0, y1, y2, y3, y4, -⟩ := HC0.out.below (Below.call HB3.out hbn)
      have HBN := Lib.hid (Below.call (Below.call HB0.out HB3.out) hbn)
      clear hbn
      unfold rsv
      go_wp2
      refine bodyPost_ret (v := rsv (151, 0)) ?_ rfl ⟨by rw [HE.out], ?_⟩
      · simp [results, Tryd.results11, go_sem, rsv, c0, c1, c2, c3, c4]
      · refine Below.st (Below.st (Below.st (Below.st (Below.st HBN.out ?_) ?_) ?_) ?_) ?_ <;> (simp; omega)
    subst hu
    have HU := Lib.hid (show unO ⟨6, iA, ic, [], a, 0, 0, v⟩ = true by unfold unO unN unA unB unU unV; simp)
    have hi1 := iw_k d 1 a (by decide)
    have HK1 := Lib.hid (HKD.out a HR0.out.a)
    generalize kdV d a = kk1 at *
    have HI1 := Lib.hid hi1
    clear hi1
    go_wp2_with fail
    refine (HK1.out _ (HD0.out.then HB3.out)).mono ?_
    rintro e wk1 ⟨rfl, hbk⟩
    have HBK1 := Lib.hid (Below.call HB3.out hbk)
    have HNK1 := Lib.hid hbk
    clear hbk q0 q1 q2 q3 q4 q5 d0 d1 d2 d3 n0 n1 n2 n3 n4
    obtain ⟨q0, q1, q2, q3, q4, q5, -⟩ := HQ0.out.below HBK1.out
    obtain ⟨d0, d1, d2, d3, -⟩ := HK0.out.below HBK1.out
    obtain ⟨n0, n1, n2, n3, n4, -⟩ := HN5.out.below HNK1.out
    obtain ⟨c0, c1, c2, c3, c4, y0, y1, y2, y3, y4, -⟩ := HC0.out.below HBK1.out
    by_cases hk1 : kk1 = 1
    case neg =>
      have hk1' : (kk1 != 1) = true := by simpa using hk1
      have HE := Lib.hid (show V = (3, a) by
        rw [HGO.out HU.out (by decide), HNF.out]
        show (match List.find? (fun x : Int × Int => !iwP d x.1 x.2) [(1, a)] with | some x => ((3 : Int), x.2) | none => _) = _
        rw [List.find?_cons_of_pos (by simpa [HI1.out] using hk1)])
      clear hk1 c0 c1 c2 c3 c4 y0 y1 y2 y3 y4
      go_wp2_with fail
      refine (no_any 3 a _).mono ?_
      rintro e wn ⟨rfl, hbn⟩
      obtain ⟨c0, c1, c2, c3, c4, y0, y1, y2, y3, y4, -⟩ := HC0.out.below (Below.call HBK1.out hbn)
      have HBN := Lib.hid (Below.call (Below.call HB0.out HBK1.out) hbn)
      clear hbn
      unfold rsv
      go_wp2
      refine bodyPost_ret (v := rsv (3, a)) ?_ rfl ⟨by rw [HE.out], ?_⟩
      · simp [results, Tryd.results11, go_sem, rsv, c0, c1, c2, c3, c4]
      · refine Below.st (Below.st (Below.st (Below.st (Below.st HBN.out ?_) ?_) ?_) ?_) ?_ <;> (simp; omega)
    subst hk1
    have HE := Lib.hid (show V = (voE v, 0) by
      rw [HGO.out HU.out (by decide), HNF.out]
      show (match List.find? (fun x : Int × Int => !iwP d x.1 x.2) [(1, a)] with | some x => ((3 : Int), x.2) | none => _) = _
      rw [List.find?_eq_none.2 (by simp [HI1.out])]
      show lastV ⟨6, iA, ic, [], a, 0, 0, v⟩ = (voE v, 0)
      unfold lastV
      simp)
    clear c0 c1 c2 c3 c4 y0 y1 y2 y3 y4
    go_wp2_with fail
    refine (HVO.out _).mono ?_
    rintro e wv ⟨rfl, hbv⟩
    have HBV := Lib.hid (Below.call HBK1.out hbv)
    clear hbv
    go_wp2_with fail
    refine (no_any (voE v) 0 _).mono ?_
    rintro e wn ⟨rfl, hbn⟩
    obtain ⟨c0, c1, c2, c3, c4, y0, y1, y2, y3, y4, -⟩ := HC0.out.below (Below.call HBV.out hbn)
    have HBN := Lib.hid (Below.call (Below.call HB0.out HBV.out) hbn)
    clear hbn
    unfold rsv
    go_wp2
    refine bodyPost_ret (v := rsv ((voE v), 0)) ?_ rfl ⟨by rw [HE.out], ?_⟩
    · simp [results, Tryd.results11, go_sem, rsv, c0, c1, c2, c3, c4]
    · refine Below.st (Below.st (Below.st (Below.st (Below.st HBN.out ?_) ?_) ?_) ?_) ?_ <;> (simp; omega)
  · obtain rfl : n0 = false := HN0.out
    obtain rfl : n1 = true := HN1.out
    obtain rfl : n2 = false := HN2.out
    obtain rfl : n3 = false := HN3.out
    obtain rfl : n4 = false := HN4.out
    obtain ⟨n0, n1, n2, n3, n4, -⟩ := HN5.out
    by_cases hn : il.length = 0
    case neg =>
      have fn : ¬ il = [] := by simpa using hn
      have fn' : 0 < il.length := by omega
      have HE := Lib.hid (show V = (151, 0) from HBAD.out (by unfold unO unN unA unB unU unV; simp [*]))
      clear hn
      go_wp2_with fail
      refine (no_any 151 0 _).mono ?_
      rintro e wn ⟨rfl, hbn⟩
      obtain ⟨c0, c1, c2, c3, c4, y0, y1, y2, y3, y4, -⟩ := HC0.out.below (Below.call HB3.out hbn)
      have HBN := Lib.hid (Below.call (Below.call HB0.out HB3.out) hbn)
      clear hbn
      unfold rsv
      go_wp2
      refine bodyPost_ret (v := rsv (151, 0)) ?_ rfl ⟨by rw [HE.out], ?_⟩
      · simp [results, Tryd.results11, go_sem, rsv, c0, c1, c2, c3, c4]
      · refine Below.st (Below.st (Below.st (Below.st (Below.st HBN.out ?_) ?_) ?_) ?_) ?_ <;> (simp; omega)
    have fn : il = [] := by simpa using hn
    subst fn
    by_cases hb : b = 0
    case neg =>
      have fb : (b != 0) = true := by simpa using hb
      have HE := Lib.hid (show V = (151, 0) from HBAD.out (by unfold unO unN unA unB unU unV; simp [*]))
      clear hb
      go_wp2_with fail
      refine (no_any 151 0 _).mono ?_
      rintro e wn ⟨rfl, hbn⟩
      obtain ⟨c0, c1, c2, c3, c4, y0, y1, y2, y3, y4, -⟩ := HC0.out.below (Below.call HB3.out hbn)
      have HBN := Lib.hid (Below.call (Below.call HB0.out HB3.out) hbn)
      clear hbn
      unfold rsv
      go_wp2
      refine bodyPost_ret (v := rsv (151, 0)) ?_ rfl ⟨by rw [HE.out], ?_⟩
      · simp [results, Tryd.results11, go_sem, rsv, c0, c1, c2, c3, c4]
      · refine Below.st (Below.st (Below.st (Below.st (Below.st HBN.out ?_) ?_) ?_) ?_) ?_ <;> (simp; omega)
    subst hb
    by_cases hu : u = 0
    case neg =>
      have fu : (u != 0) = true := by simpa using hu
      have HE := Lib.hid (show V = (151, 0) from HBAD.out (by unfold unO unN unA unB unU unV; simp [*]))
      clear hu
      go_wp2_with fail
      refine (no_any 151 0 _).mono ?_
      rintro e wn ⟨rfl, hbn⟩
      obtain ⟨c0, c1, c2, c3, c4, y0, y1, y2, y3, y4, -⟩ := HC0.out.below (Below.call HB3.out hbn)
      have HBN := Lib.hid (Below.call (Below.call HB0.out HB3.out) hbn)
      clear hbn
      unfold rsv
      go_wp2
      refine bodyPost_ret (v := rsv (151, 0)) ?_ rfl ⟨by rw [HE.out], ?_⟩
      · simp [results, Tryd.results11, go_sem, rsv, c0, c1, c2, c3, c4]
      · refine Below.st (Below.st (Below.st (Below.st (Below.st HBN.out ?_) ?_) ?_) ?_) ?_ <;> (simp; omega)
    subst hu
    by_cases hv : v = 0
    case neg =>
      have fv : ((v : Int) != 0) = true := by simpa using hv
      have HE := Lib.hid (show V = (151, 0) from HBAD.out (by unfold unO unN unA unB unU unV; simp [*]))
      go_wp2_with fail
      refine (no_any 151 0 _).mono ?_
      rintro e wn ⟨rfl, hbn⟩
      obtain ⟨c0, c1, c2, c3, c4, y0, y1, y2, y3, y4, -⟩ := HC0.out.below (Below.call HB3.out hbn)
      have HBN := Lib.hid (Below.call (Below.call HB0.out HB3.out) hbn)
      clear hbn
      unfold rsv
      go_wp2
      refine bodyPost_ret (v := rsv (151, 0)) ?_ rfl ⟨by rw [HE.out], ?_⟩
      · simp [results, Tryd.results11, go_sem, rsv, c0, c1, c2, c3, c4]
      · refine Below.st (Below.st (Below.st (Below.st (Below.st HBN.out ?_) ?_) ?_) ?_) ?_ <;> (simp; omega)
    subst hv
    have HU := Lib.hid (show unO ⟨7, iA, ic, [], a, 0, 0, 0⟩ = true by unfold unO unN unA unB unU unV; simp)
    have hi1 := iw_k d 2 a (by decide)
    have HK1 := Lib.hid (HKD.out a HR0.out.a)
    generalize kdV d a = kk1 at *
    have HI1 := Lib.hid hi1
    clear hi1
    go_wp2_with fail
    refine (HK1.out _ (HD0.out.then HB3.out)).mono ?_
    rintro e wk1 ⟨rfl, hbk⟩
    have HBK1 := Lib.hid (Below.call HB3.out hbk)
    have HNK1 := Lib.hid hbk
    clear hbk q0 q1 q2 q3 q4 q5 d0 d1 d2 d3 n0 n1 n2 n3 n4
    obtain ⟨q0, q1, q2, q3, q4, q5, -⟩ := HQ0.out.below HBK1.out
    obtain ⟨d0, d1, d2, d3, -⟩ := HK0.out.below HBK1.out
    obtain ⟨n0, n1, n2, n3, n4, -⟩ := HN5.out.below HNK1.out
    obtain ⟨c0, c1, c2, c3, c4, y0, y1, y2, y3, y4, -⟩ := HC0.out.below HBK1.out
    by_cases hk1 : kk1 = 2
    case neg =>
      have hk1' : (kk1 != 2) = true := by simpa using hk1
      have HE := Lib.hid (show V = (3, a) by
        rw [HGO.out HU.out (by decide), HNF.out]
        show (match List.find? (fun x : Int × Int => !iwP d x.1 x.2) [(2, a)] with | some x => ((3 : Int), x.2) | none => _) = _
        rw [List.find?_cons_of_pos (by simpa [HI1.out] using hk1)])
      clear hk1 c0 c1 c2 c3 c4 y0 y1 y2 y3 y4
      go_wp2_with fail
      refine (no_any 3 a _).mono ?_
      rintro e wn ⟨rfl, hbn⟩
      obtain ⟨c0, c1, c2, c3, c4, y0, y1, y2, y3, y4, -⟩ := HC0.out.below (Below.call HBK1.out hbn)
      have HBN := Lib.hid (Below.call (Below.call HB0.out HBK1.out) hbn)
      clear hbn
      unfold rsv
      go_wp2
      refine bodyPost_ret (v := rsv (3, a)) ?_ rfl ⟨by rw [HE.out], ?_⟩
      · simp [results, Tryd.results11, go_sem, rsv, c0, c1, c2, c3, c4]
      · refine Below.st (Below.st (Below.st (Below.st (Below.st HBN.out ?_) ?_) ?_) ?_) ?_ <;> (simp; omega)
    subst hk1
    have HE := Lib.hid (show V = (0, 0) by
      rw [HGO.out HU.out (by decide), HNF.out]
      show (match List.find? (fun x : Int × Int => !iwP d x.1 x.2) [(2, a)] with | some x => ((3 : Int), x.2) | none => _) = _
      rw [List.find?_eq_none.2 (by simp [HI1.out])]
      show lastV ⟨7, iA, ic, [], a, 0, 0, 0⟩ = (0, 0)
      unfold lastV
      simp)
    go_wp2
    refine bodyPost_ret (v := rsv (0, 0)) ?_ rfl ⟨by rw [HE.out], ?_⟩
    · simp [results, Tryd.results11, go_sem, rsv, c0, c1, c2, c3, c4]
    · refine Below.st (Below.st (Below.st (Below.st (Below.st (Below.call HB0.out HBK1.out) ?_) ?_) ?_) ?_) ?_ <;> (simp; omega)
  · obtain rfl : n0 = false := HN0.out
    obtain rfl : n1 = true := HN1.out
    obtain rfl : n2 = false := HN2.out
    obtain rfl : n3 = false := HN3.out
    obtain rfl : n4 = false := HN4.out
    obtain ⟨n0, n1, n2, n3, n4, -⟩ := HN5.out
    by_cases hn : il.length = 0
    case neg =>
      have fn : ¬ il = [] := by simpa using hn
      have fn' : 0 < il.length := by omega
      have HE := Lib.hid (show V = (151, 0) from HBAD.out (by unfold unO unN unA unB unU unV; simp [*]))
      clear hn
      go_wp2_with fail
      refine (no_any 151 0 _).mono ?_
      rintro e wn ⟨rfl, hbn⟩
      obtain ⟨c0, c1, c2, c3, c4, y0, y1, y2, y3, y4, -⟩ := HC0.out.below (Below.call HB3.out hbn)
      have HBN := Lib.hid (Below.call (Below.call HB0.out HB3.out) hbn)
      clear hbn
      unfold rsv
      go_wp2
      refine bodyPost_ret (v := rsv (151, 0)) ?_ rfl ⟨by rw [HE.out], ?_⟩
      · simp [results, Tryd.results11, go_sem, rsv, c0, c1, c2, c3, c4]
      · refine Below.st (Below.st (Below.st (Below.st (Below.st HBN.out ?_) ?_) ?_) ?_) ?_ <;> (simp; omega)
    have fn : il = [] := by simpa using hn
    subst fn
    by_cases hb : b = 0
    case neg =>
      have fb : (b != 0) = true := by simpa using hb
      have HE := Lib.hid (show V = (151, 0) from HBAD.out (by unfold unO unN unA unB unU unV; simp [*]))
      clear hb
      go_wp2_with fail
      refine (no_any 151 0 _).mono ?_
      rintro e wn ⟨rfl, hbn⟩
      obtain ⟨c0, c1, c2, c3, c4, y0, y1, y2, y3, y4, -⟩ := HC0.out.below (Below.call HB3.out hbn)
      have HBN := Lib.hid (Below.call (Below.call HB0.out HB3.out) hbn)
      clear hbn
      unfold rsv
      go_wp2
      refine bodyPost_ret (v := rsv (151, 0)) ?_ rfl ⟨by rw [HE.out], ?_⟩
      · simp [results, Tryd.results11, go_sem, rsv, c0, c1, c2, c3, c4]
      · refine Below.st (Below.st (Below.st (Below.st (Below.st HBN.out ?_) ?_) ?_) ?_) ?_ <;> (simp; omega)
    subst hb
    by_cases hu : u = 0
    case neg =>
      have fu : (u != 0) = true := by simpa using hu
      have HE := Lib.hid (show V = (151, 0) from HBAD.out (by unfold unO unN unA unB unU unV; simp [*]))
      clear hu
      go_wp2_with fail
      refine (no_any 151 0 _).mono ?_
      rintro e wn ⟨rfl, hbn⟩
      obtain ⟨c0, c1, c2, c3, c4, y0, y1, y2, y3, y4, -⟩ := HC0.out.below (Below.call HB3.out hbn)
      have HBN := Lib.hid (Below.call (Below.call HB0.out HB3.out) hbn)
      clear hbn
      unfold rsv
      go_wp2
      refine bodyPost_ret (v := rsv (151, 0)) ?_ rfl ⟨by rw [HE.out], ?_⟩
      · simp [results, Tryd.results11, go_sem, rsv, c0, c1, c2, c3, c4]
      · refine Below.st (Below.st (Below.st (Below.st (Below.st HBN.out ?_) ?_) ?_) ?_) ?_ <;> (simp; omega)
    subst hu
    by_cases hv : v = 0
    case neg =>
      have fv : ((v : Int) != 0) = true := by simpa using hv
      have HE := Lib.hid (show V = (151, 0) from HBAD.out (by unfold unO unN unA unB unU unV; simp [*]))
      go_wp2_with fail
      refine (no_any 151 0 _).mono ?_
      rintro e wn ⟨rfl, hbn⟩
      obtain ⟨c0, c1, c2, c3, c4, y0, y1, y2, y3, y4, -⟩ := HC0.out.below (Below.call HB3.out hbn)
      have HBN := Lib.hid (Below.call (Below.call HB0.out HB3.out) hbn)
      clear hbn
      unfold rsv
      go_wp2
      refine bodyPost_ret (v := rsv (151, 0)) ?_ rfl ⟨by rw [HE.out], ?_⟩
      · simp [results, Tryd.results11, go_sem, rsv, c0, c1, c2, c3, c4]
      · refine Below.st (Below.st (Below.st (Below.st (Below.st HBN.out ?_) ?_) ?_) ?_) ?_ <;> (simp; omega)
    subst hv
    have HU := Lib.hid (show unO ⟨9, iA, ic, [], a, 0, 0, 0⟩ = true by unfold unO unN unA unB unU unV; simp)
    have hi1 := iw_k d 1 a (by decide)
    have HK1 := Lib.hid (HKD.out a HR0.out.a)
    generalize kdV d a = kk1 at *
    have HI1 := Lib.hid hi1
    clear hi1
    go_wp2_with fail
    refine (HK1.out _ (HD0.out.then HB3.out)).mono ?_
    rintro e wk1 ⟨rfl, hbk⟩
    have HBK1 := Lib.hid (Below.call HB3.out hbk)
    have HNK1 := Lib.hid hbk
    clear hbk q0 q1 q2 q3 q4 q5 d0 d1 d2 d3 n0 n1 n2 n3 n4
    obtain ⟨q0, q1, q2, q3, q4, q5, -⟩ := HQ0.out.below HBK1.out
    obtain ⟨d0, d1, d2, d3, -⟩ := HK0.out.below HBK1.out
    obtain ⟨n0, n1, n2, n3, n4, -⟩ := HN5.out.below HNK1.out
    obtain ⟨c0, c1, c2, c3, c4, y0, y1, y2, y3, y4, -⟩ := HC0.out.below HBK1.out
    by_cases hk1 : kk1 = 1
    case neg =>
      have hk1' : (kk1 != 1) = true := by simpa using hk1
      have HE := Lib.hid (show V = (3, a) by
        rw [HGO.out HU.out (by decide), HNF.out]
        show (match List.find? (fun x : Int × Int => !iwP d x.1 x.2) [(1, a)] with | some x => ((3 : Int), x.2) | none => _) = _
        rw [List.find?_cons_of_pos (by simpa [HI1.out] using hk1)])
      clear hk1 c0 c1 c2 c3 c4 y0 y1 y2 y3 y4
      go_wp2_with fail
      refine (no_any 3 a _).mono ?_
      rintro e wn ⟨rfl, hbn⟩
      obtain ⟨c0, c1, c2, c3, c4, y0, y1, y2, y3, y4, -⟩ := HC0.out.below (Below.call HBK1.out hbn)
      have HBN := Lib.hid (Below.call (Below.call HB0.out HBK1.out) hbn)
      clear hbn
      unfold rsv
      go_wp2
      refine bodyPost_ret (v := rsv (3, a)) ?_ rfl ⟨by rw [HE.out], ?_⟩
      · simp [results, Tryd.results11, go_sem, rsv, c0, c1, c2, c3, c4]
      · refine Below.st (Below.st (Below.st (Below.st (Below.st HBN.out ?_) ?_) ?_) ?_) ?_ <;> (simp; omega)
    subst hk1
    have HE := Lib.hid (show V = (0, 0) by
      rw [HGO.out HU.out (by decide), HNF.out]
      show (match List.find? (fun x : Int × Int => !iwP d x.1 x.2) [(1, a)] with | some x => ((3 : Int), x.2) | none => _) = _
      rw [List.find?_eq_none.2 (by simp [HI1.out])]
      show lastV ⟨9, iA, ic, [], a, 0, 0, 0⟩ = (0, 0)
      unfold lastV
      simp)
    go_wp2
    refine bodyPost_ret (v := rsv (0, 0)) ?_ rfl ⟨by rw [HE.out], ?_⟩
    · simp [results, Tryd.results11, go_sem, rsv, c0, c1, c2, c3, c4]
    · refine Below.st (Below.st (Below.st (Below.st (Below.st (Below.call HB0.out HBK1.out) ?_) ?_) ?_) ?_) ?_ <;> (simp; omega)
  · obtain rfl : n0 = false := HN0.out
    obtain rfl : n1 = true := HN1.out
    obtain rfl : n2 = false := HN2.out
    obtain rfl : n3 = true := HN3.out
    obtain rfl : n4 = false := HN4.out
    obtain ⟨n0, n1, n2, n3, n4, -⟩ := HN5.out
    by_cases hn : il.length = 0
    case neg =>
      have fn : ¬ il = [] := by simpa using hn
      have fn' : 0 < il.length := by omega
      have HE := Lib.hid (show V = (151, 0) from HBAD.out (by unfold unO unN unA unB unU unV; simp [*]))
      clear hn
      go_wp2_with fail
      refine (no_any 151 0 _).mono ?_
      rintro e wn ⟨rfl, hbn⟩
      obtain ⟨c0, c1, c2, c3, c4, y0, y1, y2, y3, y4, -⟩ := HC0.out.below (Below.call HB3.out hbn)
      have HBN := Lib.hid (Below.call (Below.call HB0.out HB3.out) hbn)
      clear hbn
      unfold rsv
      go_wp2
      refine bodyPost_ret (v := rsv (151, 0)) ?_ rfl ⟨by rw [HE.out], ?_⟩
      · simp [results, Tryd.results11, go_sem, rsv, c0, c1, c2, c3, c4]
      · refine Below.st (Below.st (Below.st (Below.st (Below.st HBN.out ?_) ?_) ?_) ?_) ?_ <;> (simp; omega)
    have fn : il = [] := by simpa using hn
    subst fn
    by_cases hb : b = 0
    case neg =>
      have fb : (b != 0) = true := by simpa using hb
      have HE := Lib.hid (show V = (151, 0) from HBAD.out (by unfold unO unN unA unB unU unV; simp [*]))
      clear hb
      go_wp2_with fail
      refine (no_any 151 0 _).mono ?_
      rintro e wn ⟨rfl, hbn⟩
      obtain ⟨c0, c1, c2, c3, c4, y0, y1, y2, y3, y4, -⟩ := HC0.out.below (Below.call HB3.out hbn)
      have HBN := Lib.hid (Below.call (Below.call HB0.out HB3.out) hbn)
      clear hbn
      unfold rsv
      go_wp2
      refine bodyPost_ret (v := rsv (151, 0)) ?_ rfl ⟨by rw [HE.out], ?_⟩
      · simp [results, Tryd.results11, go_sem, rsv, c0, c1, c2, c3, c4]
      · refine Below.st (Below.st (Below.st (Below.st (Below.st HBN.out ?_) ?_) ?_) ?_) ?_ <;> (simp; omega)
    subst hb
    by_cases hv : v = 0
    case neg =>
      have fv : ((v : Int) != 0) = true := by simpa using hv
      have HE := Lib.hid (show V = (151, 0) from HBAD.out (by unfold unO unN unA unB unU unV; simp [*]))
      go_wp2_with fail
      refine (no_any 151 0 _).mono ?_
      rintro e wn ⟨rfl, hbn⟩
      obtain ⟨c0, c1, c2, c3, c4, y0, y1, y2, y3, y4, -⟩ := HC0.out.below (Below.call HB3.out hbn)
      have HBN := Lib.hid (Below.call (Below.call HB0.out HB3.out) hbn)
      clear hbn
      unfold rsv
      go_wp2
      refine bodyPost_ret (v := rsv (151, 0)) ?_ rfl ⟨by rw [HE.out], ?_⟩
      · simp [results, Tryd.results11, go_sem, rsv, c0, c1, c2, c3, c4]
      · refine Below.st (Below.st (Below.st (Below.st (Below.st HBN.out ?_) ?_) ?_) ?_) ?_ <;> (simp; omega)
    subst hv
    have HU := Lib.hid (show unO ⟨10, iA, ic, [], a, 0, u, 0⟩ = true by unfold unO unN unA unB unU unV; simp)
    have hi1 := iw_k d 1 a (by decide)
    have HK1 := Lib.hid (HKD.out a HR0.out.a)
    generalize kdV d a = kk1 at *
    have HI1 := Lib.hid hi1
    clear hi1
    go_wp2_with fail
    refine (HK1.out _ (HD0.out.then HB3.out)).mono ?_
    rintro e wk1 ⟨rfl, hbk⟩
    have HBK1 := Lib.hid (Below.call HB3.out hbk)
    have HNK1 := Lib.hid hbk
    clear hbk q0 q1 q2 q3 q4 q5 d0 d1 d2 d3 n0 n1 n2 n3 n4
    obtain ⟨q0, q1, q2, q3, q4, q5, -⟩ := HQ0.out.below HBK1.out
    obtain ⟨d0, d1, d2, d3, -⟩ := HK0.out.below HBK1.out
    obtain ⟨n0, n1, n2, n3, n4, -⟩ := HN5.out.below HNK1.out
    obtain ⟨c0, c1, c2, c3, c4, y0, y1, y2, y3, y4, -⟩ := HC0.out.below HBK1.out
    by_cases hk1 : kk1 = 1
    case neg =>
      have hk1' : (kk1 != 1) = true := by simpa using hk1
      have HE := Lib.hid (show V = (3, a) by
        rw [HGO.out HU.out (by decide), HNF.out]
        show (match List.find? (fun x : Int × Int => !iwP d x.1 x.2) [(1, a)] with | some x => ((3 : Int), x.2) | none => _) = _
        rw [List.find?_cons_of_pos (by simpa [HI1.out] using hk1)])
      clear hk1 c0 c1 c2 c3 c4 y0 y1 y2 y3 y4
      go_wp2_with fail
      refine (no_any 3 a _).mono ?_
      rintro e wn ⟨rfl, hbn⟩
      obtain ⟨c0, c1, c2, c3, c4, y0, y1, y2, y3, y4, -⟩ := HC0.out.below (Below.call HBK1.out hbn)
      have HBN := Lib.hid (Below.call (Below.call HB0.out HBK1.out) hbn)
      clear hbn
      unfold rsv
      go_wp2
      refine bodyPost_ret (v := rsv (3, a)) ?_ rfl ⟨by rw [HE.out], ?_⟩
      · simp [results, Tryd.results11, go_sem, rsv, c0, c1, c2, c3, c4]
      · refine Below.st (Below.st (Below.st (Below.st (Below.st HBN.out ?_) ?_) ?_) ?_) ?_ <;> (simp; omega)
    subst hk1
    have HE := Lib.hid (show V = (0, 0) by
      rw [HGO.out HU.out (by decide), HNF.out]
      show (match List.find? (fun x : Int × Int => !iwP d x.1 x.2) [(1, a)] with | some x => ((3 : Int), x.2) | none => _) = _
      rw [List.find?_eq_none.2 (by simp [HI1.out])]
      show lastV ⟨10, iA, ic, [], a, 0, u, 0⟩ = (0, 0)
      unfold lastV
      simp)
    go_wp2
    refine bodyPost_ret (v := rsv (0, 0)) ?_ rfl ⟨by rw [HE.out], ?_⟩
    · simp [results, Tryd.results11, go_sem, rsv, c0, c1, c2, c3, c4]
    · refine Below.st (Below.st (Below.st (Below.st (Below.st (Below.call HB0.out HBK1.out) ?_) ?_) ?_) ?_) ?_ <;> (simp; omega)
  · obtain rfl : n0 = false := by rw [HN0.out]; simp only [beq_eq_false_iff_ne, ne_eq] at k1 k2 k4 k5 k6 k7 k9 k10; simp [nm0, *]
    obtain rfl : n1 = false := by rw [HN1.out]; simp only [beq_eq_false_iff_ne, ne_eq] at k1 k2 k4 k5 k6 k7 k9 k10; simp [nm1, *]
    obtain rfl : n2 = false := by rw [HN2.out]; simp only [beq_eq_false_iff_ne, ne_eq] at k1 k2 k4 k5 k6 k7 k9 k10; simp [nm2, *]
    obtain rfl : n3 = false := by rw [HN3.out]; simp only [beq_eq_false_iff_ne, ne_eq] at k1 k2 k4 k5 k6 k7 k9 k10; simp [nm3, *]
    obtain rfl : n4 = false := by rw [HN4.out]; simp only [beq_eq_false_iff_ne, ne_eq] at k1 k2 k4 k5 k6 k7 k9 k10; simp [nm4, *]
    obtain ⟨n0, n1, n2, n3, n4, -⟩ := HN5.out
    by_cases hn : il.length = 0
    case neg =>
      have fn : ¬ il = [] := by simpa using hn
      have fn' : 0 < il.length := by omega
      have HE := Lib.hid (show V = (151, 0) from HBAD.out (by simp only [beq_eq_false_iff_ne, ne_eq] at k1 k2 k4 k5 k6 k7 k9 k10; unfold unO unN unA unB unU unV; simp [*]))
      clear hn
      go_wp2_with fail
      refine (no_any 151 0 _).mono ?_
      rintro e wn ⟨rfl, hbn⟩
      obtain ⟨c0, c1, c2, c3, c4, y0, y1, y2, y3, y4, -⟩ := HC0.out.below (Below.call HB3.out hbn)
      have HBN := Lib.hid (Below.call (Below.call HB0.out HB3.out) hbn)
      clear hbn
      unfold rsv
      go_wp2
      refine bodyPost_ret (v := rsv (151, 0)) ?_ rfl ⟨by rw [HE.out], ?_⟩
      · simp [results, Tryd.results11, go_sem, rsv, c0, c1, c2, c3, c4]
      · refine Below.st (Below.st (Below.st (Below.st (Below.st HBN.out ?_) ?_) ?_) ?_) ?_ <;> (simp; omega)
    have fn : il = [] := by simpa using hn
    subst fn
    by_cases ha : a = 0
    case neg =>
      have fa : (a != 0) = true := by simpa using ha
      have HE := Lib.hid (show V = (151, 0) from HBAD.out (by simp only [beq_eq_false_iff_ne, ne_eq] at k1 k2 k4 k5 k6 k7 k9 k10; unfold unO unN unA unB unU unV; simp [*]))
      clear ha
      go_wp2_with fail
      refine (no_any 151 0 _).mono ?_
      rintro e wn ⟨rfl, hbn⟩
      obtain ⟨c0, c1, c2, c3, c4, y0, y1, y2, y3, y4, -⟩ := HC0.out.below (Below.call HB3.out hbn)
      have HBN := Lib.hid (Below.call (Below.call HB0.out HB3.out) hbn)
      clear hbn
      unfold rsv
      go_wp2
      refine bodyPost_ret (v := rsv (151, 0)) ?_ rfl ⟨by rw [HE.out], ?_⟩
      · simp [results, Tryd.results11, go_sem, rsv, c0, c1, c2, c3, c4]
      · refine Below.st (Below.st (Below.st (Below.st (Below.st HBN.out ?_) ?_) ?_) ?_) ?_ <;> (simp; omega)
    subst ha
    by_cases hb : b = 0
    case neg =>
      have fb : (b != 0) = true := by simpa using hb
      have HE := Lib.hid (show V = (151, 0) from HBAD.out (by simp only [beq_eq_false_iff_ne, ne_eq] at k1 k2 k4 k5 k6 k7 k9 k10; unfold unO unN unA unB unU unV; simp [*]))
      clear hb
      go_wp2_with fail
      refine (no_any 151 0 _).mono ?_
      rintro e wn ⟨rfl, hbn⟩
      obtain ⟨c0, c1, c2, c3, c4, y0, y1, y2, y3, y4, -⟩ := HC0.out.below (Below.call HB3.out hbn)
      have HBN := Lib.hid (Below.call (Below.call HB0.out HB3.out) hbn)
      clear hbn
      unfold rsv
      go_wp2
      refine bodyPost_ret (v := rsv (151, 0)) ?_ rfl ⟨by rw [HE.out], ?_⟩
      · simp [results, Tryd.results11, go_sem, rsv, c0, c1, c2, c3, c4]
      · refine Below.st (Below.st (Below.st (Below.st (Below.st HBN.out ?_) ?_) ?_) ?_) ?_ <;> (simp; omega)
    subst hb
    by_cases hu : u = 0
    case neg =>
      have fu : (u != 0) = true := by simpa using hu
      have HE := Lib.hid (show V = (151, 0) from HBAD.out (by simp only [beq_eq_false_iff_ne, ne_eq] at k1 k2 k4 k5 k6 k7 k9 k10; unfold unO unN unA unB unU unV; simp [*]))
      clear hu
      go_wp2_with fail
      refine (no_any 151 0 _).mono ?_
      rintro e wn ⟨rfl, hbn⟩
      obtain ⟨c0, c1, c2, c3, c4, y0, y1, y2, y3, y4, -⟩ := HC0.out.below (Below.call HB3.out hbn)
      have HBN := Lib.hid (Below.call (Below.call HB0.out HB3.out) hbn)
      clear hbn
      unfold rsv
      go_wp2
      refine bodyPost_ret (v := rsv (151, 0)) ?_ rfl ⟨by rw [HE.out], ?_⟩
      · simp [results, Tryd.results11, go_sem, rsv, c0, c1, c2, c3, c4]
      · refine Below.st (Below.st (Below.st (Below.st (Below.st HBN.out ?_) ?_) ?_) ?_) ?_ <;> (simp; omega)
    subst hu
    by_cases hv : v = 0
    case neg =>
      have fv : ((v : Int) != 0) = true := by simpa using hv
      have HE := Lib.hid (show V = (151, 0) from HBAD.out (by simp only [beq_eq_false_iff_ne, ne_eq] at k1 k2 k4 k5 k6 k7 k9 k10; unfold unO unN unA unB unU unV; simp [*]))
      go_wp2_with fail
      refine (no_any 151 0 _).mono ?_
      rintro e wn ⟨rfl, hbn⟩
      obtain ⟨c0, c1, c2, c3, c4, y0, y1, y2, y3, y4, -⟩ := HC0.out.below (Below.call HB3.out hbn)
      have HBN := Lib.hid (Below.call (Below.call HB0.out HB3.out) hbn)
      clear hbn
      unfold rsv
      go_wp2
      refine bodyPost_ret (v := rsv (151, 0)) ?_ rfl ⟨by rw [HE.out], ?_⟩
      · simp [results, Tryd.results11, go_sem, rsv, c0, c1, c2, c3, c4]
      · refine Below.st (Below.st (Below.st (Below.st (Below.st HBN.out ?_) ?_) ?_) ?_) ?_ <;> (simp; omega)
    subst hv
    have HU := Lib.hid (show unO ⟨k, iA, ic, [], 0, 0, 0, 0⟩ = true by simp only [beq_eq_false_iff_ne, ne_eq] at k1 k2 k4 k5 k6 k7 k9 k10; unfold unO unN unA unB unU unV; simp [*])
    have HE := Lib.hid (show V = (0, 0) by
      simp only [beq_eq_false_iff_ne, ne_eq] at k1 k2 k4 k5 k6 k7 k9 k10; 
      rw [HGO.out HU.out (by omega), HNF.out]
      have hl : nmL ⟨k, iA, ic, [], 0, 0, 0, 0⟩ = [] := by unfold nmL; simp [*]
      rw [hl]
      show lastV ⟨k, iA, ic, [], 0, 0, 0, 0⟩ = (0, 0)
      unfold lastV
      simp [*])
    obtain ⟨c0, c1, c2, c3, c4, y0, y1, y2, y3, y4, -⟩ := HC0.out.below HB3.out
    go_wp2
    refine bodyPost_ret (v := rsv (0, 0)) ?_ rfl ⟨by rw [HE.out], ?_⟩
    · simp [results, Tryd.results11, go_sem, rsv, c0, c1, c2, c3, c4]
    · refine Below.st (Below.st (Below.st (Below.st (Below.st (Below.call HB0.out HB3.out) ?_) ?_) ?_) ?_) ?_ <;> (simp; omega)
end Go.Proofs.YtmecohdedghiaaaDoor
namespace Go.Proofs.YtmecohdedghiaaaDoor
open Go.RowKit
theorem fld0 (x y : Int) (w : World) : (Instr.field 39 (.agg #[.int .i64 x, .int .i64 y, .int .i64 0, .int .i64 0, .slice none 0 0]) 0).run Tryd.prog w = .ok (.int .i64 x) w := by kernel_rfl
theorem fld1 (x y : Int) (w : World) : (Instr.field 39 (.agg #[.int .i64 x, .int .i64 y, .int .i64 0, .int .i64 0, .slice none 0 0]) 1).run Tryd.prog w = .ok (.int .i64 y) w := by kernel_rfl
end Go.Proofs.YtmecohdedghiaaaDoor
namespace Go.Proofs.YtmecohdedghiaaaDoor
open Go.RowKit
theorem iw_isP (d : Dk) (k id : Int) (hk : k ≠ 0) : iwP d k id = isP d k id := by
  unfold iwP isP
  rw [decide_eq_false hk, Bool.false_or]
theorem lw_iw (A P R S : Option Addr) (id : Int) : iwP (lwD A P R S) 1 id = decide (0 ≤ id ∧ id < 2) := by
  rw [iw_isP _ _ _ (by decide), (isP_eq _ (lw_chk A P R S) id).1, lw_well]
  rfl
def lq1 : Rq := ⟨5, none, 0, [], 0, 0, 0, 4607182418800017408⟩
def lq2 : Rq := ⟨6, none, 0, [], 1, 0, 0, 9221120237041090561⟩
def lq3 : Rq := ⟨9, none, 0, [], 1, 0, 0, 0⟩
def lq4 (a : Option Addr) : Rq := ⟨1, a, 2, [1, 1], 0, 0, 0, 0⟩
theorem lw_v1 : voV 4607182418800017408 = 1000 ∧ voE 4607182418800017408 = 0 := by decide +kernel
theorem lw_v2 : voE 9221120237041090561 = 20 := by decide +kernel
theorem lw_r1 (A P R S : Option Addr) : refV (lwD A P R S) lq1 = (0, 0) := by
  rw [ref_go (lw_z A P R S) (by decide) (by decide) (by decide)]
  have h : nmF (lwD A P R S) lq1 = none := by
    unfold nmF
    rw [show nmL lq1 = [(1, 0)] from rfl, List.find?_cons, lw_iw]
    rfl
  rw [h]
  show (if (5 : Int) = 4 ∧ (0 : Int) = 0 then ((1 : Int), (0 : Int)) else if (5 : Int) = 4 ∨ (5 : Int) = 5 ∨ (5 : Int) = 6 then (voE 4607182418800017408, 0) else (0, 0)) = _
  rw [lw_v1.2]
  decide
theorem lw_r2 (A P R S : Option Addr) : refV (lwD A P R S) lq2 = (20, 0) := by
  rw [ref_go (lw_z A P R S) (by decide) (by decide) (by decide)]
  have h : nmF (lwD A P R S) lq2 = none := by
    unfold nmF
    rw [show nmL lq2 = [(1, 1)] from rfl, List.find?_cons, lw_iw]
    rfl
  rw [h]
  show (if (6 : Int) = 4 ∧ (1 : Int) = 0 then ((1 : Int), (0 : Int)) else if (6 : Int) = 4 ∨ (6 : Int) = 5 ∨ (6 : Int) = 6 then (voE 9221120237041090561, 0) else (0, 0)) = _
  rw [lw_v2]
  decide
theorem lw_r3 (A P R S : Option Addr) : refV (lwD A P R S) lq3 = (0, 0) := by
  rw [ref_go (lw_z A P R S) (by decide) (by decide) (by decide)]
  have h : nmF (lwD A P R S) lq3 = none := by
    unfold nmF
    rw [show nmL lq3 = [(1, 1)] from rfl, List.find?_cons, lw_iw]
    rfl
  rw [h]
  rfl
theorem lw_r4 (A P R S a : Option Addr) : refV (lwD A P R S) (lq4 a) = (152, 1) := by
  have ht : twV [1, 1] = 1 := twV_eq (Or.inr ⟨1, by decide, rfl, by decide, fun j hj => by
    cases j with
    | zero => decide
    | succ n => omega⟩)
  have hm : mfV (lq4 a) = (152, 1) := by
    unfold mfV
    rw [if_neg (by show ¬ ((1 : Int) < 1 ∨ 10 < (1 : Int)); decide), if_neg (by simp [unO, lq4, unN, unA, unB, unU, unV]), if_pos (.inl rfl)]
    show mbV [1, 1] = _
    unfold mbV
    rw [if_neg (by decide), if_neg (by decide), ht]
    rfl
  unfold refV
  rw [if_neg (by simpa using lw_z A P R S), hm, if_pos (by decide)]
theorem lw_mu (A P R S : Option Addr) : muV (lwD A P R S) lq1 = [0, 3, 4] := by
  unfold muV
  rw [if_pos (lw_r1 A P R S)]
  show Two.mk ([0] ++ setV (lwD A P R S) [0]) = _
  rw [lw_set]
  rfl
theorem lw_lk (A P R S : Option Addr) : lkW (lwD A P R S) lq3 [] (-1) = [1] := by
  unfold lkW
  rw [if_pos (lw_r3 A P R S)]
  rfl
set_option maxRecDepth 100000 in
set_option maxHeartbeats 4000000 in
theorem lives15 (w : World) (hT : Nn.Tab w) : Calls Tryd.prog 6 #[] w fun e w' => e = .returned (.bool true) ∧ Below w.heap.size w w' := by
  have HT := Lib.hid hT
  clear hT
  have hfd0 := fld0
  have hfd1 := fld1
  go_enter Tryd.func6, Tryd.ntmps6
  go_wp2_with fail
  refine (little_any w).mono ?_
  rintro e w1 ⟨A, P, R, S, rfl, hin, hb1⟩
  obtain ⟨d, hd⟩ : ∃ d, d = lwD A P R S := ⟨_, rfl⟩
  have HV1 := Lib.hid (show refV d lq1 = (0, 0) by rw [hd]; exact lw_r1 A P R S)
  have HV2 := Lib.hid (show refV d lq2 = (20, 0) by rw [hd]; exact lw_r2 A P R S)
  have HV4 := Lib.hid (fun a => show refV d (lq4 a) = (152, 1) by rw [hd]; exact lw_r4 A P R S a)
  have HMU := Lib.hid (show muV d lq1 = [0, 3, 4] by rw [hd]; exact lw_mu A P R S)
  have HLK := Lib.hid (show lkW d lq3 [] (-1) = [1] by rw [hd]; exact lw_lk A P R S)
  rw [← hd] at hin ⊢
  clear hd
  obtain ⟨w2, hw2⟩ : ∃ w2, w2 = (w1.alloc (.cells #[.slice d.bA d.bn d.bc, .slice d.pA d.pn d.pc, .slice d.rA d.rn d.rc, .int .i64 d.arms] 26)).alloc (.cells #[.int .i64 5, .slice none 0 0, .int .i64 0, .int .i64 0, .int .i64 0, .int .u64 4607182418800017408] 30) := ⟨_, rfl⟩
  have hb2 : Below w1.heap.size w1 w2 := by rw [hw2]; exact Below.al (Below.al (Below.refl _ _) _) _
  have HB2 := Lib.hid (Below.call hb1 hb2)
  have HD2 := Lib.hid (hin.then hb2)
  have HK2 := Lib.hid (show DkAt w2 w1.heap.size d by rw [hw2]; exact (Cells4.new w1 _ _ _ _ _).below (Below.al (Below.refl _ _) _))
  have HQ2 := Lib.hid (show Cells6 w2 (w1.heap.size + 1) (.int .i64 5) (.slice none 0 0) (.int .i64 0) (.int .i64 0) (.int .i64 0) (.int .u64 4607182418800017408) by
    have h := Cells6.new (w1.alloc (.cells #[.slice d.bA d.bn d.bc, .slice d.pA d.pn d.pc, .slice d.rA d.rn d.rc, .int .i64 d.arms] 26)) 30 (.int .i64 5) (.slice none 0 0) (.int .i64 0) (.int .i64 0) (.int .i64 0) (.int .u64 4607182418800017408)
    rw [World.size_alloc] at h
    rw [hw2]; exact h)
  have HT2 := Lib.hid (HT.out.below HB2.out)
  have HI1 := Lib.hid (fun (V : World) => show lq1.In V V.heap.size from ⟨Lk.IsL.nil _ _ _ _, by decide, by decide, by decide, by decide, by decide⟩)
  have HI2 := Lib.hid (fun (V : World) => show lq2.In V V.heap.size from ⟨Lk.IsL.nil _ _ _ _, by decide, by decide, by decide, by decide, by decide⟩)
  have HI3 := Lib.hid (fun (V : World) => show lq3.In V V.heap.size from ⟨Lk.IsL.nil _ _ _ _, by decide, by decide, by decide, by decide, by decide⟩)
  have C1 := Lib.hid (fun (V : World) (h : Below w2.heap.size w2 V) => show Calls Tryd.prog 7 #[.agg #[.int .i64 5, .slice none 0 0, .int .i64 0, .int .i64 0, .int .i64 0, .int .u64 4607182418800017408]] V fun e w' => e = .returned (.tuple #[.int .i64 1000, .int .i64 0]) ∧ Below V.heap.size V w' by
    have h := volume_any lq1 V (by decide) (HT2.out.below h)
    rw [show lq1.v = 4607182418800017408 from rfl, lw_v1.1, lw_v1.2] at h
    exact h)
  have C2 := Lib.hid (fun (V : World) (h : Below w2.heap.size w2 V) => show Calls Tryd.prog 12 #[d.v, .agg #[.int .i64 5, .slice none 0 0, .int .i64 0, .int .i64 0, .int .i64 0, .int .u64 4607182418800017408]] V fun e w' => ∃ v, e = .returned v ∧ KI.IsL w' w'.heap.size v [0, 3, 4] ∧ Below V.heap.size V w' by
    have h := Must_any d lq1 V (HD2.out.then h) (HI1.out V) (HT2.out.below h)
    rw [HMU.out] at h
    exact h)
  have C3 := Lib.hid (fun (V : World) (h : Below w2.heap.size w2 V) => show Calls Tryd.prog 10 #[d.v, .agg #[.int .i64 5, .slice none 0 0, .int .i64 0, .int .i64 0, .int .i64 0, .int .u64 4607182418800017408]] V fun e w' => e = .returned (rsv (0, 0)) ∧ Below V.heap.size V w' by
    have h := checkW_any d lq1 V (HD2.out.then h) (HI1.out V) (HT2.out.below h)
    rw [HV1.out] at h
    exact h)
  have C4 := Lib.hid (fun (V : World) (h : Below w2.heap.size w2 V) => show Calls Tryd.prog 10 #[d.v, .agg #[.int .i64 6, .slice none 0 0, .int .i64 1, .int .i64 0, .int .i64 0, .int .u64 9221120237041090561]] V fun e w' => e = .returned (rsv (20, 0)) ∧ Below V.heap.size V w' by
    have h := checkW_any d lq2 V (HD2.out.then h) (HI2.out V) (HT2.out.below h)
    rw [HV2.out] at h
    exact h)
  have C5 := Lib.hid (fun (V : World) (h : Below w2.heap.size w2 V) => show Calls Tryd.prog 13 #[d.v, .agg #[.int .i64 9, .slice none 0 0, .int .i64 1, .int .i64 0, .int .i64 0, .int .u64 0], .slice none 0 0, .int .i64 (-1)] V fun e w' => ∃ v, e = .returned v ∧ KI.IsL w' w'.heap.size v [1] ∧ Below V.heap.size V w' by
    have h := locks_any d lq3 (.slice none 0 0) [] (-1) V (HD2.out.then h) (HI3.out V) (HT2.out.below h) (Lk.IsL.nil _ _ _ _) (by simp) (by decide)
    rw [HLK.out] at h
    exact h)
  have C6 := Lib.hid (fun (a : Option Addr) (V : World) (h : Below w2.heap.size w2 V) (hl : KI.IsL V V.heap.size (.slice a 2 2) [1, 1]) => show Calls Tryd.prog 10 #[d.v, .agg #[.int .i64 1, .slice a 2 2, .int .i64 0, .int .i64 0, .int .i64 0, .int .u64 0]] V fun e w' => e = .returned (rsv (152, 1)) ∧ Below V.heap.size V w' by
    have h := checkW_any d (lq4 a) V (HD2.out.then h) ⟨hl, by show fits 1; decide, by show fits 0; decide, by show fits 0; decide, by show fits 0; decide, by show (0 : Nat) < _; decide⟩ (HT2.out.below h)
    rw [HV4.out] at h
    exact h)
  clear hin hb1 hb2
  unfold rsv at C3 C4 C6
  dsimp only at *
  go_upto_region 3 with (fail)
  rw [← hw2]
  clear hw2
  obtain ⟨q0, q1, q2, q3, q4, q5, -⟩ := HQ2.out
  go_wp2_with fail
  refine (C1.out w2 (Below.refl _ _)).mono ?_
  rintro e w3 ⟨rfl, hb3⟩
  have HB3 := Lib.hid hb3
  clear hb3 q0 q1 q2 q3 q4 q5
  obtain ⟨q0, q1, q2, q3, q4, q5, -⟩ := HQ2.out.below HB3.out
  obtain ⟨d0, d1, d2, d3, -⟩ := HK2.out.below HB3.out
  go_wp2_with fail
  refine (C2.out w3 HB3.out).mono ?_
  rintro e w4 ⟨mv, rfl, hmv, hb4⟩
  have HB4 := Lib.hid (Below.call HB3.out hb4)
  have HMV := Lib.hid hmv
  clear hb4 hmv q0 q1 q2 q3 q4 q5 d0 d1 d2 d3
  obtain ⟨q0, q1, q2, q3, q4, q5, -⟩ := HQ2.out.below HB4.out
  obtain ⟨d0, d1, d2, d3, -⟩ := HK2.out.below HB4.out
  go_wp2_with fail
  refine (C3.out w4 HB4.out).mono ?_
  rintro e w5 ⟨rfl, hb5⟩
  have HB5 := Lib.hid (Below.call HB4.out hb5)
  have HMV5 := Lib.hid (HMV.out.then hb5)
  clear hb5 q0 q1 q2 q3 q4 q5 d0 d1 d2 d3
  have HSM := Lib.hid (same15_any (0, 0) (0, 0) w5)
  unfold rsv at HSM
  dsimp only at HSM
  rw [decide_eq_true rfl] at HSM
  go_wp2_with fail
  refine HSM.out.mono ?_
  rintro e w6 ⟨rfl, hb6⟩
  have HB6 := Lib.hid (Below.call HB5.out hb6)
  have HMV6 := Lib.hid (HMV5.out.then hb6)
  clear hb6
  go_wp2_with fail
  obtain ⟨w7, hw7⟩ : ∃ w7, w7 = w6.alloc (.cells #[.int .i64 0, .int .i64 3, .int .i64 4] 3) := ⟨_, rfl⟩
  have HL7 := Lib.hid (show KI.IsL w7 w7.heap.size (.slice (some ⟨w6.heap.size, 0, none⟩) 3 3) [0, 3, 4] by
    rw [hw7, World.size_alloc]
    exact Lk.IsL.lits (K := KI) w6 [0, 3, 4] #[.int .i64 0, .int .i64 3, .int .i64 4] (by intro x hx; simp at hx; show fits x; unfold fits; omega) rfl (by simp) w6.heap.size rfl)
  have hba := Below.al (Below.refl w6.heap.size w6) (.cells #[.int .i64 0, .int .i64 3, .int .i64 4] 3)
  rw [← hw7] at hba ⊢
  have HB7 := Lib.hid (Below.call HB6.out hba)
  have HMV7 := Lib.hid (HMV6.out.then hba)
  clear hw7 hba
  refine (Two.same_any _ _ [0, 3, 4] [0, 3, 4] w7 (two_of HMV7.out) (two_of HL7.out)).mono ?_
  rintro e w8 ⟨rfl, dq, hdq⟩
  have HB8 := Lib.hid (show Below w2.heap.size w2 w8 by rw [hdq]; exact below_drewN HB7.out dq)
  clear hdq
  simp only [decide_true]
  obtain ⟨d0, d1, d2, d3, -⟩ := HK2.out.below HB8.out
  go_wp2_with fail
  refine (C4.out w8 HB8.out).mono ?_
  rintro e w9 ⟨rfl, hb9⟩
  have HB9 := Lib.hid (Below.call HB8.out hb9)
  clear hb9 d0 d1 d2 d3
  obtain ⟨d0, d1, d2, d3, -⟩ := HK2.out.below HB9.out
  go_wp2_with fail
  refine (C5.out w9 HB9.out).mono ?_
  rintro e wa ⟨lv, rfl, hlv, hba⟩
  have HBA := Lib.hid (Below.call HB9.out hba)
  have HLV := Lib.hid hlv
  clear hba hlv d0 d1 d2 d3
  go_wp2_with fail
  obtain ⟨wb, hwb⟩ : ∃ wb, wb = wa.alloc (.cells #[.int .i64 1] 3) := ⟨_, rfl⟩
  have HLB := Lib.hid (show KI.IsL wb wb.heap.size (.slice (some ⟨wa.heap.size, 0, none⟩) 1 1) [1] by
    rw [hwb, World.size_alloc]
    exact Lk.IsL.lit (K := KI) wa 1 #[.int .i64 1] (show fits 1 by decide) rfl wa.heap.size rfl)
  have hbb := Below.al (Below.refl wa.heap.size wa) (.cells #[.int .i64 1] 3)
  rw [← hwb] at hbb ⊢
  have HBB := Lib.hid (Below.call HBA.out hbb)
  have HLVB := Lib.hid (HLV.out.then hbb)
  clear hwb hbb
  refine (Two.same_any _ _ [1] [1] wb (two_of HLVB.out) (two_of HLB.out)).mono ?_
  rintro e wc ⟨rfl, dr, hdr⟩
  have HBC := Lib.hid (show Below w2.heap.size w2 wc by rw [hdr]; exact below_drewN HBB.out dr)
  clear hdr
  simp only [decide_true]
  obtain ⟨d0, d1, d2, d3, -⟩ := HK2.out.below HBC.out
  go_wp2_with fail
  obtain ⟨wd, hwd⟩ : ∃ wd, wd = wc.alloc (.cells #[.int .i64 1, .int .i64 1] 3) := ⟨_, rfl⟩
  have HLD := Lib.hid (show KI.IsL wd wd.heap.size (.slice (some ⟨wc.heap.size, 0, none⟩) 2 2) [1, 1] by
    rw [hwd, World.size_alloc]
    exact Lk.IsL.lits (K := KI) wc [1, 1] #[.int .i64 1, .int .i64 1] (by intro x hx; simp at hx; show fits x; unfold fits; omega) rfl (by simp) wc.heap.size rfl)
  have hbd := Below.al (Below.refl wc.heap.size wc) (.cells #[.int .i64 1, .int .i64 1] 3)
  rw [← hwd] at hbd ⊢
  have HBD := Lib.hid (Below.call HBC.out hbd)
  clear hwd hbd
  refine (C6.out _ wd HBD.out HLD.out).mono ?_
  rintro e we ⟨rfl, hbe⟩
  have HBE := Lib.hid (Below.call HB2.out (Below.call HBD.out hbe))
  clear hbe d0 d1 d2 d3
  go_wp2
  go_ret
  exact ⟨rfl, HBE.out⟩
end Go.Proofs.YtmecohdedghiaaaDoor
namespace Go.Proofs.YtmecohdedghiaaaDoor
open Go.RowKit
def large15 (d : Dk) (r : Rq) : Bool := largeB d || decide (100 < r.il.length)
set_option maxRecDepth 100000 in
set_option maxHeartbeats 4000000 in
theorem large15_any (d : Dk) (r : Rq) (w : World) (hd : d.In w w.heap.size) (hr : r.In w w.heap.size) : Calls Tryd.prog 5 #[d.v, r.val] w fun e w' => e = .returned (.bool (large15 d r)) ∧ Below w.heap.size w w' := by
  obtain ⟨w0, hw0⟩ : ∃ w0, w0 = (w.alloc (.cells #[.slice d.bA d.bn d.bc, .slice d.pA d.pn d.pc, .slice d.rA d.rn d.rc, .int .i64 d.arms] 26)).alloc (.cells r.ob 30) := ⟨_, rfl⟩
  have HB0 := Lib.hid (show Below w.heap.size w w0 by rw [hw0]; exact Below.al (Below.al (Below.refl _ _) _) _)
  have HD0 := Lib.hid (hd.then HB0.out)
  have HR0 := Lib.hid (hr.then HB0.out)
  have HS0 := Lib.hid (show w0.heap.size = w.heap.size + 2 by rw [hw0]; simp)
  have HK0 := Lib.hid (show DkAt w0 w.heap.size d by rw [hw0]; exact (Cells4.new w _ _ _ _ _).below (Below.al (Below.refl _ _) _))
  have HQ0 := Lib.hid (show RqAt w0 (w.heap.size + 1) r by
    have h := Cells6.new (w.alloc (.cells #[.slice d.bA d.bn d.bc, .slice d.pA d.pn d.pc, .slice d.rA d.rn d.rc, .int .i64 d.arms] 26)) 30 (.int .i64 r.k) (.slice r.iA r.il.length r.ic) (.int .i64 r.a) (.int .i64 r.b) (.int .i64 r.u) (.int .u64 r.v)
    rw [World.size_alloc] at h
    rw [hw0]; exact h)
  have HLG := Lib.hid (large_any d w0 HD0.out)
  have HLN := Lib.hid hr.l.2.2
  have hV : large15 d r = (largeB d || decide (100 < r.il.length)) := rfl
  rw [hV]
  clear hd hr hV
  generalize largeB d = lb at *
  cases lb
  · by_cases h : 100 < r.il.length
    all_goals
      go_enter Tryd.func5, Tryd.ntmps5
      go_wp2_with fail
      rw [← hw0]
      clear hw0
      refine HLG.out.mono ?_
      rintro e w1 ⟨rfl, hb1⟩
      have HB1 := Lib.hid (Below.call HB0.out hb1)
      obtain ⟨q0, q1, q2, q3, q4, q5, -⟩ := HQ0.out.below hb1
      clear hb1
      go_wp2
      go_ret
      exact ⟨ret_b (by simp [h]; omega), HB1.out⟩
  · go_enter Tryd.func5, Tryd.ntmps5
    go_wp2_with fail
    rw [← hw0]
    clear hw0
    refine HLG.out.mono ?_
    rintro e w1 ⟨rfl, hb1⟩
    go_wp2
    go_ret
    exact ⟨ret_b (by simp), Below.call HB0.out hb1⟩
end Go.Proofs.YtmecohdedghiaaaDoor

/- Histories: whether an order fits: the program. -/
import Derived.Test.YtbfklpopodmalaaHN
namespace Go.Proofs.Ytbfklpopodmalaa
open Go.RowKit Go.Maps
set_option maxRecDepth 100000 in
set_option maxHeartbeats 4000000 in

theorem fits_any (v v2 : Value) (h : List Ev) (o : List (Int × Int)) (w : World) (hv : KE.IsL w w.heap.size v h) (ho : KC.IsL w w.heap.size v2 o) (hl : h.length ≤ 1000) (hol : o.length ≤ 1000) :
    Calls Try.prog 15 #[v, v2] w fun e w' => e = .returned (.bool (fitB h o)) ∧ Below w.heap.size w w' := by
  have hmf : ∀ (fn : Fn) (first cap : Array Value) (w : World), (Instr.makeFunc fn first cap).run Try.prog w = .ok (.func fn first cap) w := fun _ _ _ _ => rfl
  have HV := Lib.hid hv
  have HO := Lib.hid ho
  have HCO := Lib.hid (courses_any v h w hv hl)
  obtain ⟨A, c, rfl, hc⟩ := hv.shape
  obtain ⟨A2, c2, rfl, hc2⟩ := ho.shape
  clear hv ho
  have hmm := @run_makeMap Try.prog
  have HNo := Lib.hid (fun k hk e => fitB_no (h := h) (o := o) (k := k) hk e)
  have HYes := Lib.hid (fun e => fitB_yes (h := h) (o := o) e)
  have HTL := Lib.hid (fun k (hk : k < o.length) => take_snoc o k (0, 0) hk)
  have HOKF := Lib.hid (fun k => show okF h o k = (!decide (o.getD k (0, 0) ∈ o.take k) && decide (pl h 1 (o.getD k (0, 0)) ≠ 0) && !(decide (pl h 3 (o.getD k (0, 0)) ≠ 0) && decide (pl h 3 (o.getD k (0, 0)) < lstC h (o.take k)))) from rfl)
  have HLS := Lib.hid (fun k c => lstC_snoc h (o.take k) c)
  generalize fitB h o = z at *
  go_enter Try.func15, Try.ntmps15
  go_wp2_with fail
  refine HCO.out.mono ?_
  rintro e w1 ⟨rfl, hm, hb⟩
  have HM1 := Lib.hid hm
  have HB1 := Lib.hid hb
  clear hm hb HCO
  obtain ⟨w4, hw4⟩ : ∃ w4, w4 = (((w1.alloc (.map #[] 0)).alloc (.cells #[.map (some w1.heap.size)] 48)).alloc (.cells #[.int .i64 0, .int .i64 0] 46)) := ⟨_, rfl⟩
  have hb4 : Below w1.heap.size w1 w4 := by rw [hw4]; exact Below.al (Below.al (Below.al (Below.refl _ _) _) _) _
  have HB4 := Lib.hid (Below.call HB1.out hb4)
  have HM4 := Lib.hid (HM1.out.then hb4)
  have HS4 := Lib.hid (show Sm w4 w1.heap.size 0 [] by
    rw [hw4]
    have o1 := World.ownsMap_made w1 Try.prog 31 (unitElem (H := Unit))
    exact ⟨.map [], (o1.alloc _).alloc _, ⟨fun _ _ => rfl⟩⟩)
  have HLT := Lib.hid HM1.out.lt
  obtain ⟨bs, hbs⟩ : ∃ bs, w1.heap.size = bs := ⟨_, rfl⟩
  have C6 := Lib.hid (show w4.cell? ⟨bs + 1, 0, none⟩ = some (.map (some bs)) by rw [hw4, ← hbs]; simp [go_sem])
  have C7 := Lib.hid (show w4.cell? ⟨bs + 1 + 1, 0, none⟩ = some (.int .i64 0) by rw [hw4, ← hbs]; simp [go_sem])
  have C8 := Lib.hid (show w4.cell? ⟨bs + 1 + 1, 1, none⟩ = some (.int .i64 0) by rw [hw4, ← hbs]; simp [go_sem])
  have F7 := Lib.hid (show w4.frozen? ⟨bs + 1 + 1, 0, none⟩ = false by rw [hw4, ← hbs]; simp [go_sem])
  have F8 := Lib.hid (show w4.frozen? ⟨bs + 1 + 1, 1, none⟩ = false by rw [hw4, ← hbs]; simp [go_sem])
  have HWS := Lib.hid (show w.heap.size ≤ bs by rw [← hbs]; exact HB1.out.size)
  rw [hbs] at HLT HS4
  rw [hbs] at hw4
  go_upto_region 4 with fail
  rw [← hw4]
  clear hw4 hb4 hbs HM1 HB1
  go_wp2
  go_loopg [18] o.length (fun gh i wr => ∃ (k : Nat) (t : Int), k ≤ o.length ∧ gh = o.length - k ∧ i = .int .i64 k ∧ Mc wr w.heap.size h.length h ∧ Sm wr bs k (o.take k) ∧ wr.cell? ⟨bs + 1, 0, none⟩ = some (.map (some bs)) ∧ wr.cell? ⟨bs + 1 + 1, 0, none⟩ = some (.int .i64 (lstC h (o.take k) : Nat)) ∧ wr.cell? ⟨bs + 1 + 1, 1, none⟩ = some (.int .i64 t) ∧ wr.frozen? ⟨bs + 1 + 1, 0, none⟩ = false ∧ wr.frozen? ⟨bs + 1 + 1, 1, none⟩ = false ∧ Below w.heap.size w wr ∧ ∀ i, i < k → okF h o i = true)
  case atStart => exact ⟨0, 0, Nat.zero_le _, rfl, rfl, HM4.out, HS4.out, C6.out, C7.out, C8.out, F7.out, F8.out, HB4.out, fun i hi => absurd hi (Nat.not_lt_zero _)⟩
  case round =>
    obtain ⟨k, t, hk, rfl, rfl, hmc, hsm, a6, a7, a8, f7, f8, hbl, hall⟩ := hrel
    have HM := Lib.hid hmc
    have HS := Lib.hid hsm
    have HB := Lib.hid hbl
    have HAll := Lib.hid hall
    clear hmc hsm hbl hall C6 C7 C8 F7 F8 HM4 HS4 HB4
    have HBS := Lib.hid (show bs + 1 + 1 < wr.heap.size from World.block_lt_of_cell? wr _ a7)
    by_cases hlt : k < o.length
    · have HTS := Lib.hid (HTL.out k hlt)
      have HLs := Lib.hid (HLS.out k)
      have HOk := Lib.hid (HOKF.out k)
      have HNk := Lib.hid (HNo.out k hlt)
      obtain ⟨b, off, rfl, hb, _, hcell⟩ := cl_cells (HO.out.then HB.out) (by omega)
      obtain ⟨e0, e1⟩ := hcell k hlt
      have HOK := Lib.hid (HO.out.2.1 _ (getD_mem' o k (0, 0) hlt))
      clear hcell
      obtain ⟨d, hd⟩ : ∃ d, o.getD k (0, 0) = d := ⟨_, rfl⟩
      rw [hd] at HTS HOK e0 e1 HOk
      replace HLs := Lib.hid (HLs.out d)
      clear hd
      obtain ⟨d1, d2⟩ := d
      simp only at e0 e1
      obtain ⟨p1, hp1⟩ : ∃ p, pl h 1 (d1, d2) = p := ⟨_, rfl⟩
      obtain ⟨p3, hp3⟩ : ∃ p, pl h 3 (d1, d2) = p := ⟨_, rfl⟩
      obtain ⟨L, hL⟩ : ∃ L, lstC h (o.take k) = L := ⟨_, rfl⟩
      obtain ⟨q, hq⟩ : ∃ q, decide ((d1, d2) ∈ o.take k) = q := ⟨_, rfl⟩
      rw [hL] at a7
      rw [hp1, hL] at HLs
      rw [hp1, hp3, hL, hq] at HOk
      have hAH := Lib.hid (fun w => ahead_any (p1 : Nat) (p3 : Nat) (L : Nat) t w)
      obtain ⟨wa, hwa⟩ : ∃ wa, wa = wr.alloc (.cells #[.int .i64 d1, .int .i64 d2] 31) := ⟨_, rfl⟩
      have hba : Below wr.heap.size wr wa := by rw [hwa]; exact Below.al (Below.refl _ _) _
      have hlk := (HM.out.then hba).look HOK.out
      rw [hp1, hp3] at hlk
      obtain ⟨wb, hwb⟩ : ∃ wb, wb = wa.alloc (.cells #[.int .i64 (p1 : Nat), .int .i64 (p3 : Nat)] 46) := ⟨_, rfl⟩
      have hbb : Below wa.heap.size wa wb := by rw [hwb]; exact Below.al (Below.refl _ _) _
      have hls := ((HS.out.then hba).then hbb).look HOK.out
      rw [hq] at hls
      obtain ⟨wc, hwc⟩ : ∃ wc, wc = wb.alloc (.cells #[] 49) := ⟨_, rfl⟩
      have hbc : Below wb.heap.size wb wc := by rw [hwc]; exact Below.al (Below.refl _ _) _
      have HBa := Lib.hid (Below.call hba (Below.call hbb hbc))
      have HBc := Lib.hid (Below.call HB.out HBa.out)
      have HMc := Lib.hid (HM.out.then HBa.out)
      have HSc := Lib.hid (HS.out.then HBa.out)
      have sza : wa.heap.size = wr.heap.size + 1 := by rw [hwa]; simp
      have szb : wb.heap.size = wr.heap.size + 2 := by rw [hwb]; simp [sza]
      obtain ⟨D, hD⟩ : ∃ D, wr.heap.size = D := ⟨_, rfl⟩
      have x0 : wa.cell? ⟨D, 0, none⟩ = some (.int .i64 d1) := by rw [hwa, ← hD]; simp [go_sem]
      have x1 : wa.cell? ⟨D, 1, none⟩ = some (.int .i64 d2) := by rw [hwa, ← hD]; simp [go_sem]
      have u0 : wb.cell? ⟨D, 0, none⟩ = some (.int .i64 d1) := keep_cell hbb x0
      have u1 : wb.cell? ⟨D, 1, none⟩ = some (.int .i64 d2) := keep_cell hbb x1
      have v0 : wb.cell? ⟨D + 1, 0, none⟩ = some (.int .i64 (p1 : Nat)) := by rw [hwb, ← hD, ← sza]; simp [go_sem]
      have v1 : wb.cell? ⟨D + 1, 1, none⟩ = some (.int .i64 (p3 : Nat)) := by rw [hwb, ← hD, ← sza]; simp [go_sem]
      have k6 : wb.cell? ⟨bs + 1, 0, none⟩ = some (.map (some bs)) := keep_cell hbb (keep_cell hba a6)
      have y0 := keep_cell hbc u0
      have y1 := keep_cell hbc u1
      have y2 := keep_cell hbc v0
      have y3 := keep_cell hbc v1
      have y6 := keep_cell hbc k6
      have y7 := keep_cell HBa.out a7
      have y8 := keep_cell HBa.out a8
      have g7 := (HBa.out.frozen (p := ⟨bs + 1 + 1, 0, none⟩) (show bs + 1 + 1 < wr.heap.size from HBS.out)).trans f7
      have g8 := (HBa.out.frozen (p := ⟨bs + 1 + 1, 1, none⟩) (show bs + 1 + 1 < wr.heap.size from HBS.out)).trans f8
      have HDc := Lib.hid (show D + 1 < wc.heap.size from World.block_lt_of_cell? wc _ y2)
      have HDB := Lib.hid (show bs + 1 + 1 < D by rw [← hD]; exact HBS.out)
      have HP := Lib.hid (And.intro hp1 (And.intro hp3 (And.intro hL hq)))
      clear hba hbb hbc hp1 hp3 hL hq a6 a7 a8 f7 f8
      go_upto_region 7 with fail
      rw [← hwa]
      clear e0 e1 hwa
      go_upto_region 8 with fail
      rw [← hwb]
      clear x0 x1 hlk hwb
      go_upto_region 9 with fail
      rw [← hwc]
      clear hwc sza szb u0 u1 v0 v1 k6 hls hD
      cases q
      case true =>
        have HE := Lib.hid (HNk.out (by rw [HOk.out]; simp))
        go_wp2
        go_ret
        exact ⟨ret_b HE.out.symm, HBc.out⟩

      case false =>
        by_cases h1 : p1 = 0
        · have HE := Lib.hid (HNk.out (by rw [HOk.out, h1]; simp))
          subst h1
          go_wp2
          go_ret
          exact ⟨ret_b HE.out.symm, HBc.out⟩

        · have hq1 : ((p1 : Int) == 0) = false := by rw [beq_eq_false_iff_ne]; omega
          have hq2 : decide (p1 = 0) = false := decide_eq_false h1
          obtain ⟨a, ha⟩ : ∃ a, (decide ((p3 : Int) ≠ 0) && decide ((p3 : Int) < (L : Nat))) = a := ⟨_, rfl⟩
          have ha2 : (decide (p3 ≠ 0) && decide (p3 < L)) = a := by rw [← ha]; by_cases e1 : p3 = 0 <;> by_cases e2 : p3 < L <;> simp [e1, e2]
          rw [ha] at hAH
          rw [ha2] at HOk
          clear ha ha2
          cases a
          case true =>
            have HE := Lib.hid (HNk.out (by rw [HOk.out]; simp))
            go_wp2_with fail
            refine (hAH.out _).mono ?_
            rintro e wx ⟨rfl, hbx⟩
            have HBc := Lib.hid (Below.call HBc.out hbx)
            clear hbx
            go_wp2
            go_ret
            exact ⟨ret_b HE.out.symm, HBc.out⟩

          case false =>
            have HT := Lib.hid (show okF h o k = true by rw [HOk.out, decide_eq_true h1]; rfl)
            go_wp2_with fail
            refine (hAH.out _).mono ?_
            rintro e wx ⟨rfl, hbx⟩
            have HBx := Lib.hid (Below.call HBc.out hbx)
            have HMx := Lib.hid (HMc.out.then hbx)
            have HSx := Lib.hid (HSc.out.then hbx)
            replace y0 := keep_cell hbx y0
            replace y1 := keep_cell hbx y1
            replace y2 := keep_cell hbx y2
            replace y3 := keep_cell hbx y3
            replace y6 := keep_cell hbx y6
            replace y7 := keep_cell hbx y7
            replace y8 := keep_cell hbx y8
            have HLx := Lib.hid (show bs + 1 + 1 < wx.heap.size from World.block_lt_of_cell? wx _ y7)
            replace g7 := (hbx.frozen (p := ⟨bs + 1 + 1, 0, none⟩) (show bs + 1 + 1 < wc.heap.size by have := HDc.out; have := HDB.out; omega)).trans g7
            replace g8 := (hbx.frozen (p := ⟨bs + 1 + 1, 1, none⟩) (show bs + 1 + 1 < wc.heap.size by have := HDc.out; have := HDB.out; omega)).trans g8
            have HDx := Lib.hid (show D + 1 < wx.heap.size from World.block_lt_of_cell? wx _ y2)
            clear hbx
            obtain ⟨wz, hrun, hsz, hgz⟩ := HSx.out.store (by unfold maxLen; omega) d1 d2 HOK.out
            have n1 : some D ≠ some bs := fun e => by have := HDB.out; injection e; omega
            have n2 : some (D + 1) ≠ some bs := fun e => by have := HDB.out; injection e; omega
            have n6 : some (bs + 1) ≠ some bs := fun e => by injection e; omega
            have n7 : some (bs + 1 + 1) ≠ some bs := fun e => by injection e; omega
            have n9 : some w.heap.size ≠ some bs := fun e => by have := HLT.out; injection e; omega
            have s2 := cell_grown y2 hgz (by have := HDx.out; omega) n2
            have s3 := cell_grown y3 hgz (by have := HDx.out; omega) n2
            have s6 := cell_grown y6 hgz (by have := HLx.out; omega) n6
            have s7 := cell_grown y7 hgz (by have := HLx.out; omega) n7
            have s8 := cell_grown y8 hgz (by have := HLx.out; omega) n7
            have j7 := fz_grown g7 hgz (by have := HLx.out; omega) n7
            have j8 := fz_grown g8 hgz (by have := HLx.out; omega) n7
            have HMz := Lib.hid (HMx.out.grown hgz n9)
            have HSz := Lib.hid hsz
            have HBz := Lib.hid (HBx.out.grown hgz HBx.out.size (fun j hj => by cases hj; exact HWS.out))
            clear hsz hgz n1 n2 n6 n7 n9
            go_upto_region 12 with fail
            clear hrun y0 y1 y2 y3 y6 y7 y8 g7 g8
            by_cases h2 : L < p1
            · rw [if_pos h2] at HLs
              have hd2 : decide (L < p1) = true := decide_eq_true h2
              have hd3 : decide ((L : Int) < (p1 : Nat)) = true := decide_eq_true (by omega)
              obtain ⟨wy, hwy⟩ : ∃ wy, wy = (wz.setCell ⟨bs + 1 + 1, 0, none⟩ (.int .i64 (p1 : Nat))).setCell ⟨bs + 1 + 1, 1, none⟩ (.int .i64 (p3 : Nat)) := ⟨_, rfl⟩
              have b6 := Lib.hid (show wy.cell? ⟨bs + 1, 0, none⟩ = some (.map (some bs)) by rw [hwy]; exact st_other (st_other s6 (by simp)) (by simp))
              have b7 := Lib.hid (show wy.cell? ⟨bs + 1 + 1, 0, none⟩ = some (.int .i64 (p1 : Nat)) by rw [hwy]; exact st_other (st_same s7) (by simp))
              have b8 := Lib.hid (show wy.cell? ⟨bs + 1 + 1, 1, none⟩ = some (.int .i64 (p3 : Nat)) by rw [hwy]; exact st_same (st_other s8 (by simp)))
              have f7 := Lib.hid (show wy.frozen? ⟨bs + 1 + 1, 0, none⟩ = false by rw [hwy]; exact st_fz (st_fz j7))
              have f8 := Lib.hid (show wy.frozen? ⟨bs + 1 + 1, 1, none⟩ = false by rw [hwy]; exact st_fz (st_fz j8))
              replace HMz := Lib.hid (show Mc wy w.heap.size h.length h by rw [hwy]; exact (HMz.out.setC (by have := HLT.out; omega) _).setC (by have := HLT.out; omega) _)
              replace HSz := Lib.hid (show Sm wy bs (k + 1) (o.take k ++ [(d1, d2)]) by rw [hwy]; exact (HSz.out.setC (by omega) _).setC (by omega) _)
              replace HBz := Lib.hid (show Below w.heap.size w wy by rw [hwy]; exact (HBz.out.setCell (show w.heap.size ≤ bs + 1 + 1 by have := HWS.out; omega) _).setCell (show w.heap.size ≤ bs + 1 + 1 by have := HWS.out; omega) _)
              go_upto_region 14 with fail
              rw [← hwy]
              clear hwy s2 s3 s6 s7 s8 j7 j8
              go_wp2
              go_roundg (o.length - (k + 1))
              case measure => omega
              case rel => exact ⟨k + 1, (p3 : Nat), by omega, rfl, num_i (by omega), HMz.out, by rw [HTS.out]; exact HSz.out, b6.out, by rw [HTS.out, HLs.out]; exact b7.out, b8.out, f7.out, f8.out, HBz.out, fun i hi => by
                rcases Nat.lt_or_eq_of_le (Nat.le_of_lt_succ hi) with h' | rfl
                · exact HAll.out i h'
                · exact HT.out⟩

            · rw [if_neg h2] at HLs
              have hd2 : decide (L < p1) = false := decide_eq_false h2
              have hd3 : decide ((L : Int) < (p1 : Nat)) = false := decide_eq_false (by omega)
              have b6 := Lib.hid s6
              have b7 := Lib.hid s7
              have b8 := Lib.hid s8
              have f7 := Lib.hid j7
              have f8 := Lib.hid j8
              go_upto_region 14 with fail
              clear s2 s3 s6 s7 s8 j7 j8
              go_wp2
              go_roundg (o.length - (k + 1))
              case measure => omega
              case rel => exact ⟨k + 1, t, by omega, rfl, num_i (by omega), HMz.out, by rw [HTS.out]; exact HSz.out, b6.out, by rw [HTS.out, HLs.out]; exact b7.out, b8.out, f7.out, f8.out, HBz.out, fun i hi => by
                rcases Nat.lt_or_eq_of_le (Nat.le_of_lt_succ hi) with h' | rfl
                · exact HAll.out i h'
                · exact HT.out⟩

    · obtain rfl : k = o.length := by omega
      rw [List.take_length] at HS
      have HE := Lib.hid (HYes.out HAll.out)
      have HTD := Lib.hid (told_any _ h wr (HV.out.then HB.out) hl)
      have HF := Lib.hid (fun V (hb : Below wr.heap.size wr V) vT (hT : KC.IsL V V.heap.size vT (allE h 3)) => contC_any vT (allE h 3) 27 #[.pointer (some ⟨bs + 1, 0, none⟩)] (fun c => !decide (c ∈ o)) V hT (enters_of Try.func27 (by kernel_rfl) rfl) (fun W hb' x hx => fits1_any x (hT.2.1 x hx) o (bs + 1) bs _ W (keep_cell hb' (keep_cell hb a6)) ((HS.out.then hb).then hb')))
      have HLL := Lib.hid (show (allE h 3).length ≤ 9223372036854775807 by have := allE_len h 3 h.length; rw [List.take_length] at this; omega)
      clear a6 a7 a8 f7 f8
      generalize ((allE h 3).any fun c => !decide (c ∈ o)) = r at *
      go_wp2_with fail
      refine HTD.out.mono ?_
      rintro e wx ⟨vT, rfl, hot, hbx⟩
      have HBx := Lib.hid (Below.call HB.out hbx)
      have HFx := Lib.hid (HF.out wx hbx vT (hot.isL HLL.out))
      clear hot hbx
      go_wp2_with fail
      refine HFx.out.mono ?_
      rintro e wy ⟨rfl, hby⟩
      have HBy := Lib.hid (Below.call HBx.out hby)
      clear hby
      go_wp2
      go_ret
      exact ⟨ret_b HE.out.symm, HBy.out⟩
end Go.Proofs.Ytbfklpopodmalaa

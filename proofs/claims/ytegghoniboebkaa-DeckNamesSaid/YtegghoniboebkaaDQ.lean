/- What a well holds at most, and at first: what the program and the reference answer. -/
import Derived.Test.YtegghoniboebkaaDP
namespace Go.Proofs.Ytegghoniboebkaa
open Go.RowKit

set_option maxRecDepth 100000 in
set_option maxHeartbeats 4000000 in
theorem cap_any (d : Dk) (id : Int) (hid : fits id) (w : World) (hd : d.In w w.heap.size) : Calls Try.prog 33 #[d.v, .int .i64 id] w fun e w' => e = .returned (.int .i64 (capV d id)) ∧ Below w.heap.size w w' := by
  have HP := Lib.hid (fun w h => part_any d id hid w h)
  have HD := Lib.hid hd
  have HV := Lib.hid (partV_ok d id)
  have HW := Lib.hid (well_part d)
  have HE := Lib.hid (show capV d id = _ from rfl)
  unfold capV at HE
  have hpn := Lib.hid hd.p.len
  obtain ⟨w0, hw0⟩ : ∃ w0, w0 = w.alloc (.cells #[.slice d.bA d.bn d.bc, .slice d.pA d.pn d.pc, .slice d.rA d.rn d.rc, .int .i64 d.arms] 44) := ⟨_, rfl⟩
  have f1 : w0.cell? ⟨w.heap.size, 1, none⟩ = some (.slice d.pA d.pn d.pc) := by rw [hw0]; exact alloc_cell _ _ _ _ _ rfl
  have HB0 := Lib.hid (show Below w.heap.size w w0 by rw [hw0]; exact Below.al (Below.refl _ _) _)
  have HD0 := Lib.hid (HD.out.then HB0.out)
  obtain ⟨V, hV⟩ : ∃ V, V = capV d id := ⟨_, rfl⟩
  unfold capV at hV
  have HVV := Lib.hid hV
  rw [show capV d id = V by rw [hV]; rfl]
  clear HE hV hd
  generalize partV d id = t at *
  obtain ⟨q, er⟩ := t
  dsimp only at *
  unfold partVal at HP
  dsimp only at HP
  by_cases h0 : er = 0
  · subst h0
    by_cases h1 : q.a = 1
    · obtain ⟨hok, hq, _, _, _⟩ := HV.out rfl
      obtain ⟨b0, b1, c0, c1, d0, d1⟩ := HW.out q hq h1
      have hval := HVV.out
      rw [if_pos ⟨rfl, h1⟩] at hval
      have HVL := Lib.hid hval
      obtain ⟨b, off, hA, hb, hc, hcell⟩ := plate_cells HD0.out.p (by omega)
      obtain ⟨p0, p1, p2, p3, p4, p5, p6⟩ := hcell q.b.toNat b1
      have hsz := size_of (plate_size (hok.pl q.b.toNat b1))
      have hss := Lib.hid (HD0.out.s _ (getD_mem' d.pl q.b.toNat KP.dflt b1))
      have HBI := Lib.hid (show q.b = ((q.b.toNat : Nat) : Int) by omega)
      have b2 : q.b < (d.pn : Int) := by have := hpn.out; omega
      have b3 : (d.pn : Int) ≤ 4 := by have := hpn.out; have := hok.p4; omega
      have HA := Lib.hid hA
      clear hA
      clear hcell hval hq hok HVV HV HW
      obtain ⟨i, hi⟩ : ∃ i : Nat, i = q.b.toNat := ⟨_, rfl⟩
      rw [← hi] at p0 p1 p2 p3 p4 p5 p6 c1 d1 hsz hss HVL HBI b1
      clear hi
      generalize d.pl.getD i KP.dflt = pq at *
      obtain ⟨qa, qb, qc, qd⟩ := q
      dsimp only at *
      obtain rfl := HBI.out
      obtain rfl := h1
      go_enter Try.func33, Try.ntmps33
      go_wp2_with fail
      rw [← hw0]
      clear hw0
      refine (HP.out _ HD0.out).mono ?_
      rintro e w1 ⟨rfl, hb1⟩
      have g1 := keep_cell hb1 f1
      have g5 := keep_cell hb1 p5
      have HB1 := Lib.hid (Below.call HB0.out hb1)
      have hz1 : b < w1.heap.size := Nat.lt_of_lt_of_le hb hb1.size
      have hz2 : w.heap.size < w1.heap.size := World.block_lt_of_cell? w1 _ g1
      rw [HA.out] at g1
      clear hb1 f1 p0 p1 p2 p3 p4 p5 p6 HA hsz c0 c1 d0 d1
      go_wp2
      go_ret
      exact ⟨ret_i HVL.out.symm, Below.al HB1.out _⟩
    · have hval := HVV.out
      rw [if_neg (fun h => h1 h.2)] at hval
      have HVL := Lib.hid hval
      have g1 : (q.a != 1) = true := by rw [bne_iff_ne]; exact h1
      clear hval h1 HVV HV HW
      go_enter Try.func33, Try.ntmps33
      go_wp2_with fail
      rw [← hw0]
      clear hw0
      refine (HP.out _ HD0.out).mono ?_
      rintro e w1 ⟨rfl, hb1⟩
      have HB1 := Lib.hid (Below.call HB0.out hb1)
      clear hb1
      go_wp2
      go_ret
      exact ⟨ret_i HVL.out.symm, Below.al HB1.out _⟩
  · have hval := HVV.out
    rw [if_neg (fun h => h0 h.1)] at hval
    have HVL := Lib.hid hval
    have g1 : (er != 0) = true := by rw [bne_iff_ne]; exact h0
    clear hval h0 HVV HV HW
    go_enter Try.func33, Try.ntmps33
    go_wp2_with fail
    rw [← hw0]
    clear hw0
    refine (HP.out _ HD0.out).mono ?_
    rintro e w1 ⟨rfl, hb1⟩
    have HB1 := Lib.hid (Below.call HB0.out hb1)
    clear hb1
    go_wp2
    go_ret
    exact ⟨ret_i HVL.out.symm, Below.al HB1.out _⟩
set_option maxRecDepth 100000 in
set_option maxHeartbeats 4000000 in
theorem rcap_any (d : Dk) (id : Int) (hid : fits id) (w : World) (hd : d.In w w.heap.size) : Calls Try.prog 34 #[d.v, .int .i64 id] w fun e w' => e = .returned (.int .i64 (capV d id)) ∧ Below w.heap.size w w' := by
  have HP := Lib.hid (fun w h => rpart_any d id hid w h)
  have HD := Lib.hid hd
  have HV := Lib.hid (partV_ok d id)
  have HW := Lib.hid (well_part d)
  have HE := Lib.hid (show capV d id = _ from rfl)
  unfold capV at HE
  have hpn := Lib.hid hd.p.len
  obtain ⟨w0, hw0⟩ : ∃ w0, w0 = w.alloc (.cells #[.slice d.bA d.bn d.bc, .slice d.pA d.pn d.pc, .slice d.rA d.rn d.rc, .int .i64 d.arms] 44) := ⟨_, rfl⟩
  have f1 : w0.cell? ⟨w.heap.size, 1, none⟩ = some (.slice d.pA d.pn d.pc) := by rw [hw0]; exact alloc_cell _ _ _ _ _ rfl
  have HB0 := Lib.hid (show Below w.heap.size w w0 by rw [hw0]; exact Below.al (Below.refl _ _) _)
  have HD0 := Lib.hid (HD.out.then HB0.out)
  obtain ⟨V, hV⟩ : ∃ V, V = capV d id := ⟨_, rfl⟩
  unfold capV at hV
  have HVV := Lib.hid hV
  rw [show capV d id = V by rw [hV]; rfl]
  clear HE hV hd
  generalize partV d id = t at *
  obtain ⟨q, er⟩ := t
  dsimp only at *
  unfold partVal at HP
  dsimp only at HP
  by_cases h0 : er = 0
  · subst h0
    by_cases h1 : q.a = 1
    · obtain ⟨hok, hq, _, _, _⟩ := HV.out rfl
      obtain ⟨b0, b1, c0, c1, d0, d1⟩ := HW.out q hq h1
      have hval := HVV.out
      rw [if_pos ⟨rfl, h1⟩] at hval
      have HVL := Lib.hid hval
      obtain ⟨b, off, hA, hb, hc, hcell⟩ := plate_cells HD0.out.p (by omega)
      obtain ⟨p0, p1, p2, p3, p4, p5, p6⟩ := hcell q.b.toNat b1
      have hsz := size_of (plate_size (hok.pl q.b.toNat b1))
      have hss := Lib.hid (HD0.out.s _ (getD_mem' d.pl q.b.toNat KP.dflt b1))
      have HBI := Lib.hid (show q.b = ((q.b.toNat : Nat) : Int) by omega)
      have b2 : q.b < (d.pn : Int) := by have := hpn.out; omega
      have b3 : (d.pn : Int) ≤ 4 := by have := hpn.out; have := hok.p4; omega
      have HA := Lib.hid hA
      clear hA
      clear hcell hval hq hok HVV HV HW
      obtain ⟨i, hi⟩ : ∃ i : Nat, i = q.b.toNat := ⟨_, rfl⟩
      rw [← hi] at p0 p1 p2 p3 p4 p5 p6 c1 d1 hsz hss HVL HBI b1
      clear hi
      generalize d.pl.getD i KP.dflt = pq at *
      obtain ⟨qa, qb, qc, qd⟩ := q
      dsimp only at *
      obtain rfl := HBI.out
      obtain rfl := h1
      go_enter Try.func34, Try.ntmps34
      go_wp2_with fail
      rw [← hw0]
      clear hw0
      refine (HP.out _ HD0.out).mono ?_
      rintro e w1 ⟨rfl, hb1⟩
      have g1 := keep_cell hb1 f1
      have g5 := keep_cell hb1 p5
      have HB1 := Lib.hid (Below.call HB0.out hb1)
      have hz1 : b < w1.heap.size := Nat.lt_of_lt_of_le hb hb1.size
      have hz2 : w.heap.size < w1.heap.size := World.block_lt_of_cell? w1 _ g1
      rw [HA.out] at g1
      clear hb1 f1 p0 p1 p2 p3 p4 p5 p6 HA hsz c0 c1 d0 d1
      go_wp2
      go_ret
      exact ⟨ret_i HVL.out.symm, Below.al HB1.out _⟩
    · have hval := HVV.out
      rw [if_neg (fun h => h1 h.2)] at hval
      have HVL := Lib.hid hval
      have g1 : (q.a != 1) = true := by rw [bne_iff_ne]; exact h1
      clear hval h1 HVV HV HW
      go_enter Try.func34, Try.ntmps34
      go_wp2_with fail
      rw [← hw0]
      clear hw0
      refine (HP.out _ HD0.out).mono ?_
      rintro e w1 ⟨rfl, hb1⟩
      have HB1 := Lib.hid (Below.call HB0.out hb1)
      clear hb1
      go_wp2
      go_ret
      exact ⟨ret_i HVL.out.symm, Below.al HB1.out _⟩
  · have hval := HVV.out
    rw [if_neg (fun h => h0 h.1)] at hval
    have HVL := Lib.hid hval
    have g1 : (er != 0) = true := by rw [bne_iff_ne]; exact h0
    clear hval h0 HVV HV HW
    go_enter Try.func34, Try.ntmps34
    go_wp2_with fail
    rw [← hw0]
    clear hw0
    refine (HP.out _ HD0.out).mono ?_
    rintro e w1 ⟨rfl, hb1⟩
    have HB1 := Lib.hid (Below.call HB0.out hb1)
    clear hb1
    go_wp2
    go_ret
    exact ⟨ret_i HVL.out.symm, Below.al HB1.out _⟩
set_option maxRecDepth 100000 in
set_option maxHeartbeats 4000000 in
theorem start_any (d : Dk) (id : Int) (hid : fits id) (w : World) (hd : d.In w w.heap.size) : Calls Try.prog 35 #[d.v, .int .i64 id] w fun e w' => e = .returned (.int .i64 (startV d id)) ∧ Below w.heap.size w w' := by
  have HP := Lib.hid (fun w h => part_any d id hid w h)
  have HD := Lib.hid hd
  have HV := Lib.hid (partV_ok d id)
  have HW := Lib.hid (well_part d)
  have HE := Lib.hid (show startV d id = _ from rfl)
  unfold startV at HE
  have hpn := Lib.hid hd.p.len
  obtain ⟨w0, hw0⟩ : ∃ w0, w0 = w.alloc (.cells #[.slice d.bA d.bn d.bc, .slice d.pA d.pn d.pc, .slice d.rA d.rn d.rc, .int .i64 d.arms] 44) := ⟨_, rfl⟩
  have f1 : w0.cell? ⟨w.heap.size, 1, none⟩ = some (.slice d.pA d.pn d.pc) := by rw [hw0]; exact alloc_cell _ _ _ _ _ rfl
  have HB0 := Lib.hid (show Below w.heap.size w w0 by rw [hw0]; exact Below.al (Below.refl _ _) _)
  have HD0 := Lib.hid (HD.out.then HB0.out)
  obtain ⟨V, hV⟩ : ∃ V, V = startV d id := ⟨_, rfl⟩
  unfold startV at hV
  have HVV := Lib.hid hV
  rw [show startV d id = V by rw [hV]; rfl]
  clear HE hV hd
  generalize partV d id = t at *
  obtain ⟨q, er⟩ := t
  dsimp only at *
  unfold partVal at HP
  dsimp only at HP
  by_cases h0 : er = 0
  · subst h0
    by_cases h1 : q.a = 1
    · obtain ⟨hok, hq, _, _, _⟩ := HV.out rfl
      obtain ⟨b0, b1, c0, c1, d0, d1⟩ := HW.out q hq h1
      have hval := HVV.out
      rw [if_pos ⟨rfl, h1⟩] at hval
      have HVL := Lib.hid hval
      obtain ⟨b, off, hA, hb, hc, hcell⟩ := plate_cells HD0.out.p (by omega)
      obtain ⟨p0, p1, p2, p3, p4, p5, p6⟩ := hcell q.b.toNat b1
      have hsz := size_of (plate_size (hok.pl q.b.toNat b1))
      have hss := Lib.hid (HD0.out.s _ (getD_mem' d.pl q.b.toNat KP.dflt b1))
      have HBI := Lib.hid (show q.b = ((q.b.toNat : Nat) : Int) by omega)
      have b2 : q.b < (d.pn : Int) := by have := hpn.out; omega
      have b3 : (d.pn : Int) ≤ 4 := by have := hpn.out; have := hok.p4; omega
      have HA := Lib.hid hA
      clear hA
      clear hcell hval hq hok HVV HV HW
      obtain ⟨i, hi⟩ : ∃ i : Nat, i = q.b.toNat := ⟨_, rfl⟩
      rw [← hi] at p0 p1 p2 p3 p4 p5 p6 c1 d1 hsz hss HVL HBI b1
      clear hi
      generalize d.pl.getD i KP.dflt = pq at *
      obtain ⟨qa, qb, qc, qd⟩ := q
      dsimp only at *
      obtain rfl := HBI.out
      obtain rfl := h1
      obtain ⟨s1, s2, s3, s4⟩ := hsz
      have m1 : 0 ≤ qc * pq.cols := Int.mul_nonneg c0 (by omega)
      have m2 : qc * pq.cols ≤ 1536 := by
        have := Int.mul_le_mul (show qc ≤ 32 by omega) s4 (by omega) (by omega)
        omega
      have hsn := hss.out.len
      rw [hsn] at p6
      have hsl := hss.out.2.2
      have HST := Lib.hid (fun h0 => KI.cells hss.out h0)
      have hsf := fun (w : World) (a : Addr) (m : Mode) (b : Nat) => run_store_float (P := Try.prog) (w := w) (a := a) (m := m) .f64 b
      obtain ⟨at', hat⟩ : ∃ a : Nat, qc * pq.cols + qd = (a : Int) := ⟨(qc * pq.cols + qd).toNat, by omega⟩
      have HAT := Lib.hid hat
      have hd2 : qd < 48 := by omega
      by_cases hl : at' < pq.st.length
      · obtain ⟨sb, so, scp, hsv, hscc, hsb, _, hscell, _⟩ := HST.out (by omega)
        injection hsv with x1 x2 x3
        have hx := hscell at' hl
        rw [hat, Int.toNat_natCast] at HVL
        clear hscell HST hsn s1 s2 s3 s4 c0 c1 d1
        have hgl : qc * pq.cols + qd < (pq.st.length : Int) := by omega
        rw [x1] at p6
        go_enter Try.func35, Try.ntmps35
        go_wp2_with fail
        rw [← hw0]
        clear hw0
        refine (HP.out _ HD0.out).mono ?_
        rintro e w1 ⟨rfl, hb1⟩
        have g1 := keep_cell hb1 f1
        have y0 := keep_cell hb1 p0
        have y1 := keep_cell hb1 p1
        have y2 := keep_cell hb1 p2
        have y3 := keep_cell hb1 p3
        have y4 := keep_cell hb1 p4
        have y5 := keep_cell hb1 p5
        have y6 := keep_cell hb1 p6
        have yx := keep_cell hb1 hx
        have HB1 := Lib.hid (Below.call HB0.out hb1)
        have hz1 : b < w1.heap.size := Nat.lt_of_lt_of_le hb hb1.size
        have hz3 : sb < w1.heap.size := Nat.lt_of_lt_of_le hsb hb1.size
        have hz2 : w.heap.size < w1.heap.size := World.block_lt_of_cell? w1 _ g1
        rw [HA.out] at g1
        clear hb1 f1 p0 p1 p2 p3 p4 p5 p6 HA hx x1 x3
        go_wp2
        go_ret
        exact ⟨ret_i (by rw [HVL.out, List.getD_eq_getElem?_getD, List.getElem?_eq_getElem hl]; rfl), Below.al (Below.al HB1.out _) _⟩
      · have hgl : (pq.st.length : Int) ≤ qc * pq.cols + qd := by omega
        have HZ := Lib.hid (show pq.st.getD (qc * pq.cols + qd).toNat 0 = 0 by rw [hat, Int.toNat_natCast, List.getD_eq_getElem?_getD, List.getElem?_eq_none (by omega)]; rfl)
        clear HST hsn s1 s2 s3 s4 c0 c1 d1 hat
        go_enter Try.func35, Try.ntmps35
        go_wp2_with fail
        rw [← hw0]
        clear hw0
        refine (HP.out _ HD0.out).mono ?_
        rintro e w1 ⟨rfl, hb1⟩
        have g1 := keep_cell hb1 f1
        have y0 := keep_cell hb1 p0
        have y1 := keep_cell hb1 p1
        have y2 := keep_cell hb1 p2
        have y3 := keep_cell hb1 p3
        have y4 := keep_cell hb1 p4
        have y5 := keep_cell hb1 p5
        have y6 := keep_cell hb1 p6
        have HB1 := Lib.hid (Below.call HB0.out hb1)
        have hz1 : b < w1.heap.size := Nat.lt_of_lt_of_le hb hb1.size
        have hz2 : w.heap.size < w1.heap.size := World.block_lt_of_cell? w1 _ g1
        rw [HA.out] at g1
        clear hb1 f1 p0 p1 p2 p3 p4 p5 p6 HA
        go_wp2
        go_ret
        exact ⟨ret_i (by rw [HVL.out, HZ.out]), Below.al (Below.al HB1.out _) _⟩
    · have hval := HVV.out
      rw [if_neg (fun h => h1 h.2)] at hval
      have HVL := Lib.hid hval
      have g1 : (q.a != 1) = true := by rw [bne_iff_ne]; exact h1
      clear hval h1 HVV HV HW
      go_enter Try.func35, Try.ntmps35
      go_wp2_with fail
      rw [← hw0]
      clear hw0
      refine (HP.out _ HD0.out).mono ?_
      rintro e w1 ⟨rfl, hb1⟩
      have HB1 := Lib.hid (Below.call HB0.out hb1)
      clear hb1
      go_wp2
      go_ret
      exact ⟨ret_i HVL.out.symm, Below.al HB1.out _⟩
  · have hval := HVV.out
    rw [if_neg (fun h => h0 h.1)] at hval
    have HVL := Lib.hid hval
    have g1 : (er != 0) = true := by rw [bne_iff_ne]; exact h0
    clear hval h0 HVV HV HW
    go_enter Try.func35, Try.ntmps35
    go_wp2_with fail
    rw [← hw0]
    clear hw0
    refine (HP.out _ HD0.out).mono ?_
    rintro e w1 ⟨rfl, hb1⟩
    have HB1 := Lib.hid (Below.call HB0.out hb1)
    clear hb1
    go_wp2
    go_ret
    exact ⟨ret_i HVL.out.symm, Below.al HB1.out _⟩
set_option maxRecDepth 100000 in
set_option maxHeartbeats 4000000 in
theorem rstart_any (d : Dk) (id : Int) (hid : fits id) (w : World) (hd : d.In w w.heap.size) : Calls Try.prog 36 #[d.v, .int .i64 id] w fun e w' => e = .returned (.int .i64 (startV d id)) ∧ Below w.heap.size w w' := by
  have HP := Lib.hid (fun w h => rpart_any d id hid w h)
  have HD := Lib.hid hd
  have HV := Lib.hid (partV_ok d id)
  have HW := Lib.hid (well_part d)
  have HE := Lib.hid (show startV d id = _ from rfl)
  unfold startV at HE
  have hpn := Lib.hid hd.p.len
  obtain ⟨w0, hw0⟩ : ∃ w0, w0 = w.alloc (.cells #[.slice d.bA d.bn d.bc, .slice d.pA d.pn d.pc, .slice d.rA d.rn d.rc, .int .i64 d.arms] 44) := ⟨_, rfl⟩
  have f1 : w0.cell? ⟨w.heap.size, 1, none⟩ = some (.slice d.pA d.pn d.pc) := by rw [hw0]; exact alloc_cell _ _ _ _ _ rfl
  have HB0 := Lib.hid (show Below w.heap.size w w0 by rw [hw0]; exact Below.al (Below.refl _ _) _)
  have HD0 := Lib.hid (HD.out.then HB0.out)
  obtain ⟨V, hV⟩ : ∃ V, V = startV d id := ⟨_, rfl⟩
  unfold startV at hV
  have HVV := Lib.hid hV
  rw [show startV d id = V by rw [hV]; rfl]
  clear HE hV hd
  generalize partV d id = t at *
  obtain ⟨q, er⟩ := t
  dsimp only at *
  unfold partVal at HP
  dsimp only at HP
  by_cases h0 : er = 0
  · subst h0
    by_cases h1 : q.a = 1
    · obtain ⟨hok, hq, _, _, _⟩ := HV.out rfl
      obtain ⟨b0, b1, c0, c1, d0, d1⟩ := HW.out q hq h1
      have hval := HVV.out
      rw [if_pos ⟨rfl, h1⟩] at hval
      have HVL := Lib.hid hval
      obtain ⟨b, off, hA, hb, hc, hcell⟩ := plate_cells HD0.out.p (by omega)
      obtain ⟨p0, p1, p2, p3, p4, p5, p6⟩ := hcell q.b.toNat b1
      have hsz := size_of (plate_size (hok.pl q.b.toNat b1))
      have hss := Lib.hid (HD0.out.s _ (getD_mem' d.pl q.b.toNat KP.dflt b1))
      have HBI := Lib.hid (show q.b = ((q.b.toNat : Nat) : Int) by omega)
      have b2 : q.b < (d.pn : Int) := by have := hpn.out; omega
      have b3 : (d.pn : Int) ≤ 4 := by have := hpn.out; have := hok.p4; omega
      have HA := Lib.hid hA
      clear hA
      clear hcell hval hq hok HVV HV HW
      obtain ⟨i, hi⟩ : ∃ i : Nat, i = q.b.toNat := ⟨_, rfl⟩
      rw [← hi] at p0 p1 p2 p3 p4 p5 p6 c1 d1 hsz hss HVL HBI b1
      clear hi
      generalize d.pl.getD i KP.dflt = pq at *
      obtain ⟨qa, qb, qc, qd⟩ := q
      dsimp only at *
      obtain rfl := HBI.out
      obtain rfl := h1
      obtain ⟨s1, s2, s3, s4⟩ := hsz
      have m1 : 0 ≤ qc * pq.cols := Int.mul_nonneg c0 (by omega)
      have m2 : qc * pq.cols ≤ 1536 := by
        have := Int.mul_le_mul (show qc ≤ 32 by omega) s4 (by omega) (by omega)
        omega
      have hsn := hss.out.len
      rw [hsn] at p6
      have hsl := hss.out.2.2
      have HST := Lib.hid (fun h0 => KI.cells hss.out h0)
      have hsf := fun (w : World) (a : Addr) (m : Mode) (b : Nat) => run_store_float (P := Try.prog) (w := w) (a := a) (m := m) .f64 b
      obtain ⟨at', hat⟩ : ∃ a : Nat, qc * pq.cols + qd = (a : Int) := ⟨(qc * pq.cols + qd).toNat, by omega⟩
      have HAT := Lib.hid hat
      have hd2 : qd < 48 := by omega
      by_cases hl : at' < pq.st.length
      · obtain ⟨sb, so, scp, hsv, hscc, hsb, _, hscell, _⟩ := HST.out (by omega)
        injection hsv with x1 x2 x3
        have hx := hscell at' hl
        rw [hat, Int.toNat_natCast] at HVL
        clear hscell HST hsn s1 s2 s3 s4 c0 c1 d1
        have hgl : qc * pq.cols + qd < (pq.st.length : Int) := by omega
        rw [x1] at p6
        go_enter Try.func36, Try.ntmps36
        go_wp2_with fail
        rw [← hw0]
        clear hw0
        refine (HP.out _ HD0.out).mono ?_
        rintro e w1 ⟨rfl, hb1⟩
        have g1 := keep_cell hb1 f1
        have y0 := keep_cell hb1 p0
        have y1 := keep_cell hb1 p1
        have y2 := keep_cell hb1 p2
        have y3 := keep_cell hb1 p3
        have y4 := keep_cell hb1 p4
        have y5 := keep_cell hb1 p5
        have y6 := keep_cell hb1 p6
        have yx := keep_cell hb1 hx
        have HB1 := Lib.hid (Below.call HB0.out hb1)
        have hz1 : b < w1.heap.size := Nat.lt_of_lt_of_le hb hb1.size
        have hz3 : sb < w1.heap.size := Nat.lt_of_lt_of_le hsb hb1.size
        have hz2 : w.heap.size < w1.heap.size := World.block_lt_of_cell? w1 _ g1
        rw [HA.out] at g1
        clear hb1 f1 p0 p1 p2 p3 p4 p5 p6 HA hx x1 x3
        go_wp2
        go_ret
        exact ⟨ret_i (by rw [HVL.out, List.getD_eq_getElem?_getD, List.getElem?_eq_getElem hl]; rfl), Below.al (Below.al HB1.out _) _⟩
      · have hgl : (pq.st.length : Int) ≤ qc * pq.cols + qd := by omega
        have HZ := Lib.hid (show pq.st.getD (qc * pq.cols + qd).toNat 0 = 0 by rw [hat, Int.toNat_natCast, List.getD_eq_getElem?_getD, List.getElem?_eq_none (by omega)]; rfl)
        clear HST hsn s1 s2 s3 s4 c0 c1 d1 hat
        go_enter Try.func36, Try.ntmps36
        go_wp2_with fail
        rw [← hw0]
        clear hw0
        refine (HP.out _ HD0.out).mono ?_
        rintro e w1 ⟨rfl, hb1⟩
        have g1 := keep_cell hb1 f1
        have y0 := keep_cell hb1 p0
        have y1 := keep_cell hb1 p1
        have y2 := keep_cell hb1 p2
        have y3 := keep_cell hb1 p3
        have y4 := keep_cell hb1 p4
        have y5 := keep_cell hb1 p5
        have y6 := keep_cell hb1 p6
        have HB1 := Lib.hid (Below.call HB0.out hb1)
        have hz1 : b < w1.heap.size := Nat.lt_of_lt_of_le hb hb1.size
        have hz2 : w.heap.size < w1.heap.size := World.block_lt_of_cell? w1 _ g1
        rw [HA.out] at g1
        clear hb1 f1 p0 p1 p2 p3 p4 p5 p6 HA
        go_wp2
        go_ret
        exact ⟨ret_i (by rw [HVL.out, HZ.out]), Below.al (Below.al HB1.out _) _⟩
    · have hval := HVV.out
      rw [if_neg (fun h => h1 h.2)] at hval
      have HVL := Lib.hid hval
      have g1 : (q.a != 1) = true := by rw [bne_iff_ne]; exact h1
      clear hval h1 HVV HV HW
      go_enter Try.func36, Try.ntmps36
      go_wp2_with fail
      rw [← hw0]
      clear hw0
      refine (HP.out _ HD0.out).mono ?_
      rintro e w1 ⟨rfl, hb1⟩
      have HB1 := Lib.hid (Below.call HB0.out hb1)
      clear hb1
      go_wp2
      go_ret
      exact ⟨ret_i HVL.out.symm, Below.al HB1.out _⟩
  · have hval := HVV.out
    rw [if_neg (fun h => h0 h.1)] at hval
    have HVL := Lib.hid hval
    have g1 : (er != 0) = true := by rw [bne_iff_ne]; exact h0
    clear hval h0 HVV HV HW
    go_enter Try.func36, Try.ntmps36
    go_wp2_with fail
    rw [← hw0]
    clear hw0
    refine (HP.out _ HD0.out).mono ?_
    rintro e w1 ⟨rfl, hb1⟩
    have HB1 := Lib.hid (Below.call HB0.out hb1)
    clear hb1
    go_wp2
    go_ret
    exact ⟨ret_i HVL.out.symm, Below.al HB1.out _⟩
end Go.Proofs.Ytegghoniboebkaa

/- The statement ZoneClash, walked. -/
import Derived.Test.YtlgpnjbhmoomfaaZS
namespace Go.Proofs.Ytlgpnjbhmoomfaa
open Go.RowKit

theorem lanes_in (F : Int) (lo n : Nat) (x : Int) : x ∈ lanesI F lo n ↔ F + lo ≤ x ∧ x < F + lo + n := by
  constructor
  · exact lanes_mem F lo n x
  · intro h
    unfold lanesI
    refine List.mem_map.2 ⟨(x - F - lo).toNat, List.mem_range.2 (by omega), by omega⟩
theorem lanes_at (F : Int) (lo n j : Nat) (h : j < n) : (lanesI F lo n).getD j 0 = F + ((lo : Int) + (j : Int)) := by
  unfold lanesI
  rw [List.getD_eq_getElem?_getD, List.getElem?_map, List.getElem?_range h]
  rfl
theorem sps1 (d : Dk) (a : Int) (h : spsE d [a] = 0) : setV d [a] = lanP d (spA d a) := by
  unfold setV spsL
  rw [if_pos h]
  unfold foldS
  show Two.mk ([] ++ lanP d (spA d a)) = _
  rw [List.nil_append]
  unfold lanP
  exact Two.mk_inc (lanes_inc _ _ _)
theorem clash_math (d : Dk) (a b : Int) {w : World} (hd : d.In w w.heap.size) (h : spsE d [a, b] = 0) : ∃ X Y P : List Int, setV d [a] = X ∧ setV d [b] = Y ∧ pathV d a b = P ∧ X.length ≤ 24 ∧ Y.length ≤ 24 ∧ 1 ≤ P.length ∧ P.length ≤ 24 ∧ Two.Inc X ∧ clV d a b = decide (0 < (X.filter (fun y => decide (y ∈ Y))).length) ∧ (Two.mk (X ++ Y)).length ≤ 24 ∧ (Two.mk (X ++ Y)).filter (fun y => !decide (y ∈ P)) = [] ∧ ∀ j : Nat, j + 1 < P.length → P.getD (j + 1) 0 = P.getD j 0 + 1 ∧ 0 ≤ P.getD j 0 ∧ P.getD j 0 ≤ 2000 := by
  have hz : zchk d = 0 := by
    unfold spsE at h
    by_cases e : zchk d = 0
    · exact e
    · rw [if_neg e] at h; exact absurd h e
  have hr : inR d a = true ∧ inR d b = true := by
    unfold spsE at h
    rw [if_pos hz] at h
    by_cases e : [a, b].all (inR d) = true
    · simpa using e
    · rw [if_neg e] at h; exact absurd h (by decide)
  have one : ∀ x, inR d x = true → spsE d [x] = 0 := by
    intro x hx
    unfold spsE
    rw [if_pos hz, if_pos (by simpa using hx)]
  have g1 := spA_good d hd hz a hr.1
  have g2 := spA_good d hd hz b hr.2
  obtain ⟨f1, f2, f3, f4, _, _⟩ := frst_bd d
  have hf : 0 ≤ frst d ∧ frst d ≤ 768 := by unfold frst; omega
  rw [sps1 d a (one a hr.1), sps1 d b (one b hr.2)]
  unfold pathV clV lanP
  rw [if_pos h, if_pos h]
  generalize frst d = F at *
  generalize spA d a = p at *
  generalize spA d b = q at *
  obtain ⟨p1, p2⟩ := p
  obtain ⟨q1, q2⟩ := q
  dsimp only at *
  obtain ⟨p1, rfl⟩ : ∃ k : Nat, p1 = (k : Int) := ⟨p1.toNat, by omega⟩
  obtain ⟨p2, rfl⟩ : ∃ k : Nat, p2 = (k : Int) := ⟨p2.toNat, by omega⟩
  obtain ⟨q1, rfl⟩ : ∃ k : Nat, q1 = (k : Int) := ⟨q1.toNat, by omega⟩
  obtain ⟨q2, rfl⟩ : ∃ k : Nat, q2 = (k : Int) := ⟨q2.toNat, by omega⟩
  have m1 : min (p1 : Int) q1 = ((min p1 q1 : Nat) : Int) := by omega
  have m2 : max (p2 : Int) q2 = ((max p2 q2 : Nat) : Int) := by omega
  rw [m1, m2]
  simp only [Int.toNat_natCast]
  refine ⟨_, _, _, rfl, rfl, rfl, by rw [lanes_len]; omega, by rw [lanes_len]; omega, by rw [lanes_len]; omega, by rw [lanes_len]; omega, lanes_inc _ _ _, ?_, ?_, ?_, ?_⟩
  · apply decide_eq_decide.2
    rw [List.length_pos_iff_exists_mem]
    constructor
    · intro hh
      refine ⟨F + max p1 q1, List.mem_filter.2 ⟨(lanes_in _ _ _ _).2 (by omega), decide_eq_true ((lanes_in _ _ _ _).2 (by omega))⟩⟩
    · rintro ⟨x, hx⟩
      obtain ⟨h1, h2⟩ := List.mem_filter.1 hx
      have h1 := (lanes_in _ _ _ _).1 h1
      have h2 := (lanes_in _ _ _ _).1 (of_decide_eq_true h2)
      omega
  · refine inc_len _ F 24 (Two.inc_mk _) fun x hx => ?_
    rw [Two.mem_mk, List.mem_append, lanes_in, lanes_in] at hx
    omega
  · rw [List.filter_eq_nil_iff]
    intro x hx
    rw [Two.mem_mk, List.mem_append, lanes_in, lanes_in] at hx
    rw [decide_eq_true ((lanes_in _ _ _ _).2 (by omega))]
    decide
  · intro j hj
    rw [lanes_len] at hj
    rw [lanes_at _ _ _ _ hj, lanes_at _ _ _ _ (by omega)]
    omega

set_option maxRecDepth 100000 in
set_option maxHeartbeats 8000000 in
theorem zoneClash_walk (d : Dk) (a b : Int) (ha : fits a) (hb : fits b) (w : World) (hd : d.In w w.heap.size) : Calls Try.prog 6 #[d.v, .int .i64 a, .int .i64 b] w fun e w' => e = .returned (.bool true) ∧ Below w.heap.size w w' := by
  have HD := Lib.hid hd
  have HLG := Lib.hid (fun w h => large_any d w h)
  have HLV := Lib.hid (fun w => lives9 w)
  have H1 := Lib.hid (fun w h => clash_any d a b ha hb w h)
  have H2 := Lib.hid (fun w h => rclash_any d a b ha hb w h)
  have H3 := Lib.hid (fun w h => path_any d a b ha hb w h)
  have H4 := Lib.hid (fun w h => rpath_any d a b ha hb w h)
  have H5 := Lib.hid (fun v w h1 h2 => needs_any d v [a] w h1 h2 (by simp))
  have H6 := Lib.hid (fun v w h1 h2 => needs_any d v [b] w h1 h2 (by simp))
  have HM := Lib.hid (fun h => clash_math d a b hd h)
  have HLA := Lib.hid (show ∀ w : World, KI.IsL (w.alloc (.cells #[.int .i64 a] 3)) (w.heap.size + 1) (.slice (some ⟨w.heap.size, 0, none⟩) 1 1) [a] from fun w => Lk.IsL.lit (K := KI) w a #[.int .i64 a] ha (by simp [KI]) w.heap.size rfl)
  have HLB := Lib.hid (show ∀ w : World, KI.IsL (w.alloc (.cells #[.int .i64 b] 3)) (w.heap.size + 1) (.slice (some ⟨w.heap.size, 0, none⟩) 1 1) [b] from fun w => Lk.IsL.lit (K := KI) w b #[.int .i64 b] hb (by simp [KI]) w.heap.size rfl)
  obtain ⟨w0, hw0⟩ : ∃ w0, w0 = w.alloc (.cells #[.slice d.bA d.bn d.bc, .slice d.pA d.pn d.pc, .slice d.rA d.rn d.rc, .int .i64 d.arms] 26) := ⟨_, rfl⟩
  have HB0 := Lib.hid (show Below w.heap.size w w0 by rw [hw0]; exact Below.al (Below.refl _ _) _)
  have HD0 := Lib.hid (HD.out.then HB0.out)
  have hsz0 : w.heap.size < w0.heap.size := by rw [hw0]; simp
  have HF := Lib.hid (show ∀ w1, Below w0.heap.size w0 w1 → (w1.cell? ⟨w.heap.size, 0, none⟩ = some (.slice d.bA d.bn d.bc) ∧ w1.cell? ⟨w.heap.size, 1, none⟩ = some (.slice d.pA d.pn d.pc) ∧ w1.cell? ⟨w.heap.size, 2, none⟩ = some (.slice d.rA d.rn d.rc) ∧ w1.cell? ⟨w.heap.size, 3, none⟩ = some (.int .i64 d.arms)) from by
      intro w1 hb
      refine ⟨keep_cell hb ?_, keep_cell hb ?_, keep_cell hb ?_, keep_cell hb ?_⟩
      all_goals (rw [hw0]; simp))
  clear hd
  rcases Bool.eq_false_or_eq_true (largeB d) with g | g
  · rw [g] at HLG
    clear g
    go_enter Try.func6, Try.ntmps6
    go_wp2_with fail
    rw [← hw0]
    clear hw0
    refine (HLG.out w0 HD0.out).mono ?_
    rintro e w1 ⟨rfl, hb1⟩
    have HB1 := Lib.hid hb1
    clear hb1
    go_wp2_with fail
    refine (HLV.out _).mono ?_
    rintro e w2 ⟨rfl, hb2⟩
    have HB2 := Lib.hid (Below.call HB1.out hb2)
    clear hb2
    go_wp2
    go_ret
    exact ⟨rfl, Below.call HB0.out HB2.out⟩
  · rw [g] at HLG
    clear g
    generalize setV d [a] = SX at *
    generalize setV d [b] = SY at *
    generalize pathV d a b = SP at *
    generalize clV d a b = cv at *
    generalize spsE d [a] = EX at *
    generalize spsE d [b] = EY at *
    generalize spsE d [a, b] = SE at *
    go_enter Try.func6, Try.ntmps6
    go_wp2_with fail
    rw [← hw0]
    clear hw0
    refine (HLG.out w0 HD0.out).mono ?_
    rintro e w1 ⟨rfl, hb1⟩
    have HB1 := Lib.hid hb1
    clear hb1
    obtain ⟨d0, d1, d2, d3⟩ := HF.out w1 HB1.out
    go_wp2_with fail
    refine (H1.out w1 (HD0.out.then HB1.out)).mono ?_
    rintro e w2 ⟨rfl, hb2⟩
    have HB2 := Lib.hid (Below.call HB1.out hb2)
    obtain ⟨f0, f1, f2, f3⟩ := HF.out w2 HB2.out
    clear hb2 d0 d1 d2 d3
    go_wp2_with fail
    refine (H2.out w2 (HD0.out.then HB2.out)).mono ?_
    rintro e w3 ⟨rfl, hb3⟩
    have HB3 := Lib.hid (Below.call HB2.out hb3)
    obtain ⟨d0, d1, d2, d3⟩ := HF.out w3 HB3.out
    clear hb3 f0 f1 f2 f3
    go_wp2_with fail
    refine (H3.out w3 (HD0.out.then HB3.out)).mono ?_
    rintro e w4 ⟨u4, rfl, ho4, hb4⟩
    have HB4 := Lib.hid (Below.call HB3.out hb4)
    obtain ⟨f0, f1, f2, f3⟩ := HF.out w4 HB4.out
    have HP4 := Lib.hid ho4
    clear hb4 ho4 d0 d1 d2 d3
    go_wp2_with fail
    refine (H4.out w4 (HD0.out.then HB4.out)).mono ?_
    rintro e w5 ⟨u5, rfl, ho5, hb5⟩
    have HB5 := Lib.hid (Below.call HB4.out hb5)
    have HQ5 := Lib.hid ho5
    have HP5 := Lib.hid (HP4.out.then hb5)
    clear hb5 ho5 f0 f1 f2 f3
    go_wp2_with fail
    refine (HLV.out _).mono ?_
    rintro e w6 ⟨rfl, hb6⟩
    have HB6 := Lib.hid (Below.call HB5.out hb6)
    have HQ6 := Lib.hid (HQ5.out.then hb6)
    have HP6 := Lib.hid (HP5.out.then hb6)
    clear hb6
    go_wp2_with fail
    refine (sameI_eq _ _ _ _ HP6.out HQ6.out).mono ?_
    rintro e w7 ⟨rfl, hb7⟩
    have HB7 := Lib.hid (Below.call HB6.out hb7)
    have HP7 := Lib.hid (HP6.out.then hb7)
    obtain ⟨d0, d1, d2, d3⟩ := HF.out w7 HB7.out
    clear hb7
    by_cases hz : SE = 0
    · subst hz
      obtain ⟨X, Y, P, rfl, rfl, rfl, lx, ly, lp1, lp2, hix, hcv, hml, hnil, hcons⟩ := HM.out rfl
      have HIX := Lib.hid hix
      have HCV := Lib.hid hcv
      have HML := Lib.hid hml
      have HNL := Lib.hid hnil
      have HCS := Lib.hid hcons
      have hsz7 : w.heap.size < w7.heap.size := Nat.lt_of_lt_of_le hsz0 HB7.out.size
      clear hix hcv hml hnil hcons HM
      go_wp2_with fail
      have HBA := Lib.hid (Below.al HB7.out (.cells #[.int .i64 a] 3))
      refine (H5.out _ _ (HD0.out.then HBA.out) (by simpa using HLA.out w7)).mono ?_
      rintro e w8 ⟨u8, rfl, ho8, hb8⟩
      have HB8 := Lib.hid (Below.call HBA.out hb8)
      have HX8 := Lib.hid ho8
      have HP8 := Lib.hid ((HP7.out.then (Below.al (Below.refl _ _) _)).then hb8)
      obtain ⟨f0, f1, f2, f3⟩ := HF.out w8 HB8.out
      have hsz8 : w.heap.size < w8.heap.size := Nat.lt_of_lt_of_le hsz0 HB8.out.size
      clear hb8 ho8 d0 d1 d2 d3
      go_wp2_with fail
      have HBB := Lib.hid (Below.al HB8.out (.cells #[.int .i64 b] 3))
      refine (H6.out _ _ (HD0.out.then HBB.out) (by simpa using HLB.out w8)).mono ?_
      rintro e w9 ⟨u9, rfl, ho9, hb9⟩
      have HB9 := Lib.hid (Below.call HBB.out hb9)
      have HY9 := Lib.hid ho9
      have HX9 := Lib.hid ((HX8.out.then (Below.al (Below.refl _ _) _)).then hb9)
      have HP9 := Lib.hid ((HP8.out.then (Below.al (Below.refl _ _) _)).then hb9)
      clear hb9 ho9 f0 f1 f2 f3
      obtain ⟨pb, poff, pc, rfl, hpc, hpb, _, hpcell, _⟩ := KI.cells HP9.out (by omega)
      have HPC := Lib.hid hpcell
      clear hpcell
      go_wp2_with fail
      go_loopw [19] (fun i wr => ∃ j : Nat, j + 1 ≤ SP.length ∧ i = .int .i64 ((j : Int) + 1) ∧ Below w9.heap.size w9 wr) (fun i _ => SP.length - (intOf i).toNat)
      case atStart => exact ⟨0, lp1, rfl, Below.refl _ _⟩
      case round =>
        obtain ⟨j, hj, rfl, hbl⟩ := hrel
        have HB := Lib.hid hbl
        clear hbl
        by_cases hlt : j + 1 < SP.length
        · obtain ⟨_, _, _, hv1, _, hpb2, _, hpcell, _⟩ := KI.cells (HP9.out.below HB.out) (by omega)
          cases hv1
          obtain ⟨hs, hs0, hs1⟩ := HCS.out j hlt
          have c0 := hpcell j (by omega)
          have c1 := hpcell (j + 1) hlt
          rw [hs] at c1
          clear hpcell hs
          generalize SP.getD j 0 = x at *
          go_wp2_with fail
          go_quiet (fail)
          go_wp2
          go_roundw
          case rel => exact ⟨j + 1, by omega, num_i (by omega), below_drewN HB.out _⟩
          case measure => simp [intOf]; omega
        · have hjj : j + 1 = SP.length := by omega
          have HPR := Lib.hid (HP9.out.then HB.out)
          have HXR := Lib.hid (HX9.out.then HB.out)
          have HYR := Lib.hid (HY9.out.then HB.out)
          go_wp2_with fail
          refine (Two.rboth_any _ _ SX SY wr (two_of HXR.out) (two_of HYR.out) (by omega)).mono ?_
          rintro e w10 ⟨nv, rfl, hnv, hb10⟩
          have HB10 := Lib.hid (Below.call (Below.call HB9.out HB.out) hb10)
          have HP10 := Lib.hid (HPR.out.then hb10)
          have HX10 := Lib.hid (HXR.out.then hb10)
          have HY10 := Lib.hid (HYR.out.then hb10)
          have hcv := HCV.out
          generalize List.filter (fun y => decide (y ∈ SY)) SX = BL at *
          obtain ⟨⟨BA, bcap, rfl, _⟩, _, hbl⟩ := hnv
          generalize BL.length = n at *
          subst hcv
          clear hb10
          go_wp2_with fail
          refine (Two.reither_any _ _ SX SY w10 (two_of HX10.out) (two_of HY10.out) (by omega) HIX.out).mono ?_
          rintro e w11 ⟨nv, rfl, hnv, hb11⟩
          have HB11 := Lib.hid (Below.call HB10.out hb11)
          have HP11 := Lib.hid (HP10.out.then hb11)
          have HE11 := Lib.hid hnv
          clear hb11 hnv
          go_wp2_with fail
          refine (Two.rless_any _ _ _ SP w11 HE11.out (two_of HP11.out) (by have := HML.out; omega)).mono ?_
          rintro e w12 ⟨nv, rfl, hnv, hb12⟩
          rw [HNL.out] at hnv
          have HB12 := Lib.hid (Below.call HB11.out hb12)
          obtain ⟨⟨BA, bcap, rfl, _⟩, _, _⟩ := hnv
          clear hb12
          go_wp2
          go_ret
          exact ⟨ret_b (by simp), Below.call HB0.out HB12.out⟩
    · have q1 : (SE != 0) = true := by rw [bne_iff_ne]; exact hz
      clear hz
      go_wp2
      go_ret
      exact ⟨rfl, Below.call HB0.out HB7.out⟩
end Go.Proofs.Ytlgpnjbhmoomfaa

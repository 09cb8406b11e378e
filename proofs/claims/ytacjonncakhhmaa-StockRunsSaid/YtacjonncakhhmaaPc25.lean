/- Stocks: a deck's stock at first, as the program tells it. -/
import Derived.Test.YtacjonncakhhmaaPc24
import Derived.Test.YtacjonncakhhmaaPc12
import Derived.Deep.Cut
namespace Go.Proofs.Ytacjonncakhhmaa
open Go.RowKit
/-- A new log. -/
def lo8 : Lo := ⟨8, 0, none, 0, []⟩
def logF (n k : Nat) : List Lo := List.replicate k lo8 ++ List.replicate (n - k) lo0
theorem logF_len (n k : Nat) (h : k ≤ n) : (logF n k).length = n := by unfold logF; rw [List.length_append, List.length_replicate, List.length_replicate]; omega
theorem logF_set (n k : Nat) (h : k < n) : (logF n k).set k lo8 = logF n (k + 1) := by
 unfold logF
 rw [List.set_append, if_neg (by rw [List.length_replicate]; omega), List.length_replicate, Nat.sub_self, show n - k = (n - (k + 1)) + 1 by omega, List.replicate_succ, List.set_cons_zero, List.replicate_succ', List.append_assoc]
 rfl
def tipF (n k : Nat) : List (Int × Int) := List.replicate k (1, 0) ++ List.replicate (n - k) (0, 0)
theorem tipF_len (n k : Nat) (h : k ≤ n) : (tipF n k).length = n := by unfold tipF; rw [List.length_append, List.length_replicate, List.length_replicate]; omega
theorem tipF_set (n k : Nat) (h : k < n) : (tipF n k).set k (1, 0) = tipF n (k + 1) := by
 unfold tipF
 rw [List.set_append, if_neg (by rw [List.length_replicate]; omega), List.length_replicate, Nat.sub_self, show n - k = (n - (k + 1)) + 1 by omega, List.replicate_succ, List.set_cons_zero, List.replicate_succ', List.append_assoc]
 rfl
theorem vlog8_any (w : World) : Calls Try.prog 48 #[.int .i64 8] w fun e w' => e = .returned (.tuple #[.agg #[.int .i64 8, .int .i64 0, .slice none 0 0], .int .i64 0]) ∧ Below w.heap.size w w' := Lg.new_any 8 w
set_option maxRecDepth 100000 in
set_option maxHeartbeats 4000000 in
theorem new_any (d : Dk) (w : World) (hd : d.In w w.heap.size) : Calls Try.prog 12 #[d.v] w fun e w' => ∃ s : Stk, e = .returned (.tuple #[s.v, .int .i64 (zchk d)]) ∧ s.In w' w'.heap.size ∧ s.ab = (if zchk d = 0 then newA d else ab0) ∧ Below w.heap.size w w' := by
 obtain ⟨w0, hw0⟩ : ∃ w0, w0 = (w.alloc (.cells #[.slice d.bA d.bn d.bc, .slice d.pA d.pn d.pc, .slice d.rA d.rn d.rc, .int .i64 d.arms] 26)).alloc (.cells #[.slice none 0 0, .slice none 0 0, .slice none 0 0, .int .i64 0, .int .i64 0, .int .i64 0] 33) := ⟨_, rfl⟩
 have HB0 := Lib.hid (show Below w.heap.size w w0 by rw [hw0]; exact Below.al (Below.al (Below.refl _ _) _) _)
 have HD0 := Lib.hid (hd.then HB0.out)
 have HK0 := Lib.hid (show DkAt w0 w.heap.size d by rw [hw0]; exact (Cells4.new w _ _ _ _ _).below (Below.al (Below.refl _ _) _))
 have HR0 := Lib.hid (show Cells6 w0 (w.heap.size + 1) (.slice none 0 0) (.slice none 0 0) (.slice none 0 0) (.int .i64 0) (.int .i64 0) (.int .i64 0) by
  have h := Cells6.new (w.alloc (.cells #[.slice d.bA d.bn d.bc, .slice d.pA d.pn d.pc, .slice d.rA d.rn d.rc, .int .i64 d.arms] 26)) 33 (.slice none 0 0) (.slice none 0 0) (.slice none 0 0) (.int .i64 0) (.int .i64 0) (.int .i64 0)
  rw [← hw0, show (w.alloc (.cells #[.slice d.bA d.bn d.bc, .slice d.pA d.pn d.pc, .slice d.rA d.rn d.rc, .int .i64 d.arms] 26)).heap.size = w.heap.size + 1 by simp] at h
  exact h)
 have HZ := Lib.hid (fun w h => zcheck_any d w h)
 have HCN := Lib.hid (fun w h => counts_any d w h)
 clear hd
 by_cases hz : zchk d = 0
 case neg =>
  rw [if_neg hz]
  generalize zchk d = E at *
  have hz' : (E == 0) = false := by simpa using hz
  clear hz
  go_enter Try.func12, Try.ntmps12
  go_wp2_with fail
  rw [← hw0]
  clear hw0
  refine (HZ.out _ HD0.out).mono ?_
  rintro e w1 ⟨rfl, hb1⟩
  have HB1 := Lib.hid (Below.call HB0.out hb1)
  have hr := HR0.out.below hb1
  have HR1 := Lib.hid hr
  obtain ⟨r0, r1, r2, r3, r4, r5, y0, y1, y2, y3, y4, y5, _⟩ := hr
  clear hb1
  go_wp2
  have hset := HR1.out.set (.slice none 0 0) (.slice none 0 0) (.slice none 0 0) (.int .i64 0) (.int .i64 0) (.int .i64 0)
  obtain ⟨q0, q1, q2, q3, q4, q5, _⟩ := hset
  refine bodyPost_ret (v := .tuple #[stk0.v, .int .i64 E]) ?_ rfl ?_
  ·simp [results, Try.results12, go_sem, q0, q1, q2, q3, q4, q5, stk0]
  ·refine ⟨stk0, rfl, stk0_in _ _, rfl, ?_⟩
   exact below_set6 HB1.out (by omega) _ _ _ _ _ _
 rw [hz] at HZ ⊢
 rw [if_pos rfl]
 have hdz : dchk d = 0 := by
  unfold zchk at hz
  by_cases h : dchk d = 0
  ·exact h
  ·rw [if_neg h] at hz; exact absurd hz h
 have HOK := Lib.hid (dchk_ok d hdz)
 have hcv : cntV d = (wellsV d.pl, tipsV d.rl, (d.bl.length : Int) - 1) := by unfold cntV; rw [if_pos hdz]
 have hwn := wellN_eq d HOK.out
 have htn := tipN_eq d HOK.out
 rw [hcv] at HCN
 dsimp only at HCN
 rw [← hwn.1, ← htn.1] at HCN
 have HWN := Lib.hid hwn
 have HTN := Lib.hid htn
 clear hcv hz hdz hwn htn
 go_enter Try.func12, Try.ntmps12
 go_wp2_with fail
 rw [← hw0]
 clear hw0
 refine (HZ.out _ HD0.out).mono ?_
 rintro e w1 ⟨rfl, hb1⟩
 have HB1 := Lib.hid (Below.call HB0.out hb1)
 have HK1 := Lib.hid (HK0.out.below hb1)
 have HR1 := Lib.hid (HR0.out.below hb1)
 have HD1 := Lib.hid (HD0.out.then hb1)
 obtain ⟨d0, d1, d2, d3, _⟩ := HK1.out
 clear hb1
 go_wp2_with fail
 refine (HCN.out _ HD1.out).mono ?_
 rintro e w2 ⟨rfl, hb2⟩
 clear d0 d1 d2 d3
 have HB2 := Lib.hid (Below.call HB1.out hb2)
 have HK2 := Lib.hid (HK1.out.below hb2)
 have HR2 := Lib.hid (HR1.out.below hb2)
 have HD2 := Lib.hid (HD1.out.then hb2)
 clear hb2 HK1 HR1 HD1
 go_wp2_with fail
 go_cut [8] from 25 (fun t wx => ∃ D gc gl gt : Nat, t = .pointer (some ⟨D, 0, none⟩) ∧ Hid (Below w2.heap.size w2 wx) ∧ Hid (KE.Own wx w2.heap.size (.slice (some ⟨gc, 0, none⟩) 0 (wellN d)) []) ∧ Hid (KL.Own wx w2.heap.size (.slice (some ⟨gl, 0, none⟩) (wellN d) (wellN d)) (List.replicate (wellN d) lo0)) ∧
   Hid (KT.Own wx w2.heap.size (.slice (some ⟨gt, 0, none⟩) (tipN d) (tipN d)) (List.replicate (tipN d) (0, 0))) ∧ Hid (Cells6 wx D (.slice (some ⟨gc, 0, none⟩) 0 (wellN d)) (.slice (some ⟨gl, 0, none⟩) (wellN d) (wellN d)) (.slice (some ⟨gt, 0, none⟩) (tipN d) (tipN d)) (.int .i64 0) (.int .i64 0) (.int .i64 0)) ∧
   Hid (gc ≠ gl ∧ gc ≠ gt ∧ gl ≠ gt ∧ gc ≠ D ∧ gl ≠ D ∧ gt ≠ D ∧ w2.heap.size ≤ D ∧ w2.heap.size ≤ gc ∧ w2.heap.size ≤ gl ∧ w2.heap.size ≤ gt))
 case first =>
  have hW2 := HWN.out.2.1
  have hT2 := HTN.out.2
  clear HWN HTN HCN HOK HB0 HD0 HK0 HR0 HZ HB1 HB2 HK2 HR2 HD2
  generalize wellN d = WN at *
  generalize tipN d = TN at *
  refine wp_region_held_drew (S := fun _ => True) (by kernel_rfl) ?_ (fun hHeld => ?_)
  ·trivial
  refine wpAnyH_take (i := 0) (oi := ⟨some 25, _, _, _, _, _⟩) (v := ?_) rfl (by kernel_rfl) (by kernel_rfl) (by kernel_rfl) (fun _ _ _ h => h) (Or.inl ⟨by kernel_rfl, ?_⟩) (by assumption) ?_
  rotate_left 1
  ·((intro w hSw; (try dsimp only at hSw); go_simp) <;> (try with_reducible rfl))
  (try simp only [Act.put, List.setIfInBounds_toArray, List.set_cons_zero, List.set_cons_succ])
  refine wpAnyH_take (i := 2) (oi := ⟨some 27, _, _, _, _, _⟩) (v := ?_) rfl (by kernel_rfl) (by kernel_rfl) (by kernel_rfl) (fun _ _ _ h => h) (Or.inl ⟨by kernel_rfl, ?_⟩) (by assumption) ?_
  rotate_left 1
  ·((intro w hSw; (try dsimp only at hSw); go_simp) <;> (try with_reducible rfl))
  (try simp only [Act.put, List.setIfInBounds_toArray, List.set_cons_zero, List.set_cons_succ])
  refine wpAnyH_take (i := 4) (oi := ⟨some 29, _, _, _, _, _⟩) (v := ?_) rfl (by kernel_rfl) (by kernel_rfl) (by kernel_rfl) (fun _ _ _ h => h) (Or.inl ⟨by kernel_rfl, ?_⟩) (by assumption) ?_
  rotate_left 1
  ·((intro w hSw; (try dsimp only at hSw); go_simp) <;> (try with_reducible rfl))
  (try simp only [Act.put, List.setIfInBounds_toArray, List.set_cons_zero, List.set_cons_succ])
  have B0 := Lib.hid (show Below w2.heap.size w2 w2.drew from (Below.refl _ w2).drew)
  have S0 := Lib.hid (show w2.heap.size ≤ w2.drew.heap.size from Nat.le_refl _)
  generalize w2.drew = v0 at *
  clear hHeld
  refine wpAnyH_ready (rs := [1, 3, 5, 7]) (by kernel_rfl) (by simp) ?_
  refine AllReadyH.cons (o := ⟨some 26, _, _, _, _, _⟩) rfl (fun K hK => ?_) ?_
  ·refine Lk.wp_made (K := KE) v0 _ _ rfl rfl _ _ 0 WN _ _ rfl rfl rfl rfl (.inr rfl) ce0 rfl ⟨by decide, by decide, by decide⟩ (by omega) ?_
   intro v1 ho hb hl
   have F1 := Lib.hid (ho.mono S0.out)
   have B1 := Lib.hid (B0.out.trans (hb.mono S0.out))
   have S1 := Lib.hid (Nat.le_trans S0.out (Nat.le_of_lt hl))
   have T1 := Lib.hid hl
   have G1 := Lib.hid S0.out
   clear hb hl ho B0 S0
   generalize v0.heap.size = g_c at *
   refine hK.out _ _ trivial (fun hHeld => ?_)
   clear hK K hHeld
   (try simp only [Act.put, List.setIfInBounds_toArray, List.set_cons_zero, List.set_cons_succ])
   refine wpAnyH_ready (rs := [3, 5, 7]) (by kernel_rfl) (by simp) ?_
   refine AllReadyH.cons (o := ⟨some 28, _, _, _, _, _⟩) rfl (fun K hK => ?_) ?_
   ·refine Lk.wp_made (K := KL) v1 _ _ rfl rfl _ _ WN WN _ _ rfl rfl rfl rfl (.inl rfl) lo0 rfl ⟨by decide, by decide⟩ (by omega) ?_
    intro v2 ho hb hl
    have F2 := Lib.hid (ho.mono S1.out)
    have B2 := Lib.hid (B1.out.trans (hb.mono S1.out))
    have S2 := Lib.hid (Nat.le_trans S1.out (Nat.le_of_lt hl))
    have T2 := Lib.hid hl
    have G2 := Lib.hid S1.out
    have F2_c := Lib.hid (F1.out.below hb)
    have T2_c := Lib.hid (Nat.lt_trans T1.out hl)
    have N2_c := Lib.hid (Nat.ne_of_lt T1.out)
    clear hb hl ho B1 S1 F1 T1
    generalize v1.heap.size = g_l at *
    refine hK.out _ _ trivial (fun hHeld => ?_)
    clear hK K hHeld
    (try simp only [Act.put, List.setIfInBounds_toArray, List.set_cons_zero, List.set_cons_succ])
    refine wpAnyH_ready (rs := [5, 7]) (by kernel_rfl) (by simp) ?_
    refine AllReadyH.cons (o := ⟨some 30, _, _, _, _, _⟩) rfl (fun K hK => ?_) ?_
    ·refine Lk.wp_made (K := KT) v2 _ _ rfl rfl _ _ TN TN _ _ rfl rfl rfl rfl (.inl rfl) (0, 0) rfl ⟨by decide, by decide⟩ (by omega) ?_
     intro v3 ho hb hl
     have F3 := Lib.hid (ho.mono S2.out)
     have B3 := Lib.hid (B2.out.trans (hb.mono S2.out))
     have S3 := Lib.hid (Nat.le_trans S2.out (Nat.le_of_lt hl))
     have T3 := Lib.hid hl
     have G3 := Lib.hid S2.out
     have F3_c := Lib.hid (F2_c.out.below hb)
     have T3_c := Lib.hid (Nat.lt_trans T2_c.out hl)
     have N3_c := Lib.hid (Nat.ne_of_lt T2_c.out)
     have F3_l := Lib.hid (F2.out.below hb)
     have T3_l := Lib.hid (Nat.lt_trans T2.out hl)
     have N3_l := Lib.hid (Nat.ne_of_lt T2.out)
     clear hb hl ho B2 S2 F2_c T2_c F2 T2
     generalize v2.heap.size = g_t at *
     refine hK.out _ _ trivial (fun hHeld => ?_)
     clear hK K hHeld
     (try simp only [Act.put, List.setIfInBounds_toArray, List.set_cons_zero, List.set_cons_succ])
     have hHeld : True := trivial
     refine wpAnyH_take (i := 6) (oi := ⟨some 31, _, _, _, _, _⟩) (v := ?_) rfl (by kernel_rfl) (by kernel_rfl) (by kernel_rfl) (fun _ _ _ h => h) (Or.inl ⟨by kernel_rfl, ?_⟩) (by assumption) ?_
     rotate_left 1
     ·((intro w hSw; (try dsimp only at hSw); go_simp) <;> (try with_reducible rfl))
     (try simp only [Act.put, List.setIfInBounds_toArray, List.set_cons_zero, List.set_cons_succ])
     clear hHeld
     refine wpAnyH_ready (rs := [7]) (by kernel_rfl) (by simp) ?_
     refine AllReadyH.cons (o := ⟨some 8, _, _, _, _, _⟩) rfl (fun K hK => ?_) AllReadyH.nil
     go_simp
     have hb := Below.al (Below.refl _ v3) (.cells #[.slice none 0 0, .slice none 0 0, .slice none 0 0, .int .i64 0, .int .i64 0, .int .i64 0] 33)
     have hl : v3.heap.size < (v3.alloc (.cells #[.slice none 0 0, .slice none 0 0, .slice none 0 0, .int .i64 0, .int .i64 0, .int .i64 0] 33)).heap.size := by simp
     have F4 := Lib.hid (Cells6.new v3 33 (.slice none 0 0) (.slice none 0 0) (.slice none 0 0) (.int .i64 0) (.int .i64 0) (.int .i64 0))
     have B4 := Lib.hid (B3.out.trans (hb.mono S3.out))
     have S4 := Lib.hid (Nat.le_trans S3.out (Nat.le_of_lt hl))
     have T4 := Lib.hid hl
     have G4 := Lib.hid S3.out
     have F4_c := Lib.hid (F3_c.out.below hb)
     have T4_c := Lib.hid (Nat.lt_trans T3_c.out hl)
     have N4_c := Lib.hid (Nat.ne_of_lt T3_c.out)
     have F4_l := Lib.hid (F3_l.out.below hb)
     have T4_l := Lib.hid (Nat.lt_trans T3_l.out hl)
     have N4_l := Lib.hid (Nat.ne_of_lt T3_l.out)
     have F4_t := Lib.hid (F3.out.below hb)
     have T4_t := Lib.hid (Nat.lt_trans T3.out hl)
     have N4_t := Lib.hid (Nat.ne_of_lt T3.out)
     clear hb hl B3 S3 F3_c T3_c F3_l T3_l F3 T3
     generalize v3.alloc (.cells #[.slice none 0 0, .slice none 0 0, .slice none 0 0, .int .i64 0, .int .i64 0, .int .i64 0] 33) = v4 at *
     generalize v3.heap.size = g_D at *
     refine hK.out _ _ trivial (fun hHeld => ?_)
     clear hK K hHeld
     (try simp only [Act.put, List.setIfInBounds_toArray, List.set_cons_zero, List.set_cons_succ])
     refine wpAnyH_ready (rs := [8]) (by kernel_rfl) (by simp) ?_
     refine AllReadyH.cons (o := ⟨none, _, _, _, _, _⟩) rfl (fun K hK => ?_) AllReadyH.nil
     obtain ⟨s0, s1, s2, s3, s4, s5, y0, y1, y2, y3, y4, y5, sl⟩ := F4.out
     go_simp
     clear s0 s1 s2 s3 s4 s5 y0 y1 y2 y3 y4 y5 sl
     have XD := Lib.hid (F4.out.set (.slice (some ⟨g_c, 0, none⟩) 0 WN) (.slice (some ⟨g_l, 0, none⟩) WN WN) (.slice (some ⟨g_t, 0, none⟩) TN TN) (.int .i64 0) (.int .i64 0) (.int .i64 0))
     have XB := Lib.hid (below_set6 B4.out G4.out (.slice (some ⟨g_c, 0, none⟩) 0 WN) (.slice (some ⟨g_l, 0, none⟩) WN WN) (.slice (some ⟨g_t, 0, none⟩) TN TN) (.int .i64 0) (.int .i64 0) (.int .i64 0))
     have Xc := Lib.hid (F4_c.out.far6 (D := g_D) (fun k hk => by cases hk; exact N4_c.out) (.slice (some ⟨g_c, 0, none⟩) 0 WN) (.slice (some ⟨g_l, 0, none⟩) WN WN) (.slice (some ⟨g_t, 0, none⟩) TN TN) (.int .i64 0) (.int .i64 0) (.int .i64 0))
     have Xl := Lib.hid (F4_l.out.far6 (D := g_D) (fun k hk => by cases hk; exact N4_l.out) (.slice (some ⟨g_c, 0, none⟩) 0 WN) (.slice (some ⟨g_l, 0, none⟩) WN WN) (.slice (some ⟨g_t, 0, none⟩) TN TN) (.int .i64 0) (.int .i64 0) (.int .i64 0))
     have Xt := Lib.hid (F4_t.out.far6 (D := g_D) (fun k hk => by cases hk; exact N4_t.out) (.slice (some ⟨g_c, 0, none⟩) 0 WN) (.slice (some ⟨g_l, 0, none⟩) WN WN) (.slice (some ⟨g_t, 0, none⟩) TN TN) (.int .i64 0) (.int .i64 0) (.int .i64 0))
     have XN0 := Lib.hid (show g_c ≠ g_l from N2_c.out)
     have XN1 := Lib.hid (show g_c ≠ g_t from N3_c.out)
     have XN2 := Lib.hid (show g_l ≠ g_t from N3_l.out)
     have XMc := Lib.hid (show g_c ≠ g_D from N4_c.out)
     have XMl := Lib.hid (show g_l ≠ g_D from N4_l.out)
     have XMt := Lib.hid (show g_t ≠ g_D from N4_t.out)
     have XGc := Lib.hid G1.out
     have XGl := Lib.hid G2.out
     have XGt := Lib.hid G3.out
     have XGD := Lib.hid G4.out
     refine hK.out _ _ trivial (fun hHeld => ?_)
     clear hK K hHeld
     (try simp only [Act.put, List.setIfInBounds_toArray, List.set_cons_zero, List.set_cons_succ])
     refine wpAnyH_done (by kernel_rfl) ?_ _
     clear B4 F4 F4_c F4_l F4_t G1 G2 G3 G4 N2_c N3_c N3_l N4_c N4_l N4_t S4 T4 T4_c T4_l T4_t
     generalize (((((v4.setCell ⟨g_D, 0, none⟩ (.slice (some ⟨g_c, 0, none⟩) 0 WN)).setCell ⟨g_D, 1, none⟩ (.slice (some ⟨g_l, 0, none⟩) WN WN)).setCell ⟨g_D, 2, none⟩ (.slice (some ⟨g_t, 0, none⟩) TN TN)).setCell ⟨g_D, 3, none⟩ (.int .i64 0)).setCell ⟨g_D, 4, none⟩ (.int .i64 0)).setCell ⟨g_D, 5, none⟩ (.int .i64 0) = vx at *
     go_wp2_with fail
     go_meet
     exact ⟨g_D, g_c, g_l, g_t, rfl, XB, Xc, Xl, Xt, XD, Lib.hid ⟨XN0.out, XN1.out, XN2.out, XMc.out, XMl.out, XMt.out, XGD.out, XGc.out, XGl.out, XGt.out⟩⟩
    refine AllReadyH.cons (o := ⟨some 8, _, _, _, _, _⟩) rfl (fun K hK => ?_) AllReadyH.nil
    go_simp
    have hb := Below.al (Below.refl _ v2) (.cells #[.slice none 0 0, .slice none 0 0, .slice none 0 0, .int .i64 0, .int .i64 0, .int .i64 0] 33)
    have hl : v2.heap.size < (v2.alloc (.cells #[.slice none 0 0, .slice none 0 0, .slice none 0 0, .int .i64 0, .int .i64 0, .int .i64 0] 33)).heap.size := by simp
    have F5 := Lib.hid (Cells6.new v2 33 (.slice none 0 0) (.slice none 0 0) (.slice none 0 0) (.int .i64 0) (.int .i64 0) (.int .i64 0))
    have B5 := Lib.hid (B2.out.trans (hb.mono S2.out))
    have S5 := Lib.hid (Nat.le_trans S2.out (Nat.le_of_lt hl))
    have T5 := Lib.hid hl
    have G5 := Lib.hid S2.out
    have F5_c := Lib.hid (F2_c.out.below hb)
    have T5_c := Lib.hid (Nat.lt_trans T2_c.out hl)
    have N5_c := Lib.hid (Nat.ne_of_lt T2_c.out)
    have F5_l := Lib.hid (F2.out.below hb)
    have T5_l := Lib.hid (Nat.lt_trans T2.out hl)
    have N5_l := Lib.hid (Nat.ne_of_lt T2.out)
    clear hb hl B2 S2 F2_c T2_c F2 T2
    generalize v2.alloc (.cells #[.slice none 0 0, .slice none 0 0, .slice none 0 0, .int .i64 0, .int .i64 0, .int .i64 0] 33) = v5 at *
    generalize v2.heap.size = g_D at *
    refine hK.out _ _ trivial (fun hHeld => ?_)
    clear hK K hHeld
    (try simp only [Act.put, List.setIfInBounds_toArray, List.set_cons_zero, List.set_cons_succ])
    refine wpAnyH_ready (rs := [5]) (by kernel_rfl) (by simp) ?_
    refine AllReadyH.cons (o := ⟨some 30, _, _, _, _, _⟩) rfl (fun K hK => ?_) AllReadyH.nil
    refine Lk.wp_made (K := KT) v5 _ _ rfl rfl _ _ TN TN _ _ rfl rfl rfl rfl (.inl rfl) (0, 0) rfl ⟨by decide, by decide⟩ (by omega) ?_
    intro v6 ho hb hl
    have F6 := Lib.hid (ho.mono S5.out)
    have B6 := Lib.hid (B5.out.trans (hb.mono S5.out))
    have S6 := Lib.hid (Nat.le_trans S5.out (Nat.le_of_lt hl))
    have T6 := Lib.hid hl
    have G6 := Lib.hid S5.out
    have F6_c := Lib.hid (F5_c.out.below hb)
    have T6_c := Lib.hid (Nat.lt_trans T5_c.out hl)
    have N6_c := Lib.hid (Nat.ne_of_lt T5_c.out)
    have F6_l := Lib.hid (F5_l.out.below hb)
    have T6_l := Lib.hid (Nat.lt_trans T5_l.out hl)
    have N6_l := Lib.hid (Nat.ne_of_lt T5_l.out)
    have F6_D := Lib.hid (F5.out.below hb)
    have T6_D := Lib.hid (Nat.lt_trans T5.out hl)
    have N6_D := Lib.hid (Nat.ne_of_lt T5.out)
    clear hb hl ho B5 S5 F5_c T5_c F5_l T5_l F5 T5
    generalize v5.heap.size = g_t at *
    refine hK.out _ _ trivial (fun hHeld => ?_)
    clear hK K hHeld
    (try simp only [Act.put, List.setIfInBounds_toArray, List.set_cons_zero, List.set_cons_succ])
    have hHeld : True := trivial
    refine wpAnyH_take (i := 6) (oi := ⟨some 31, _, _, _, _, _⟩) (v := ?_) rfl (by kernel_rfl) (by kernel_rfl) (by kernel_rfl) (fun _ _ _ h => h) (Or.inl ⟨by kernel_rfl, ?_⟩) (by assumption) ?_
    rotate_left 1
    ·((intro w hSw; (try dsimp only at hSw); go_simp) <;> (try with_reducible rfl))
    (try simp only [Act.put, List.setIfInBounds_toArray, List.set_cons_zero, List.set_cons_succ])
    clear hHeld
    refine wpAnyH_ready (rs := [8]) (by kernel_rfl) (by simp) ?_
    refine AllReadyH.cons (o := ⟨none, _, _, _, _, _⟩) rfl (fun K hK => ?_) AllReadyH.nil
    obtain ⟨s0, s1, s2, s3, s4, s5, y0, y1, y2, y3, y4, y5, sl⟩ := F6_D.out
    go_simp
    clear s0 s1 s2 s3 s4 s5 y0 y1 y2 y3 y4 y5 sl
    have XD := Lib.hid (F6_D.out.set (.slice (some ⟨g_c, 0, none⟩) 0 WN) (.slice (some ⟨g_l, 0, none⟩) WN WN) (.slice (some ⟨g_t, 0, none⟩) TN TN) (.int .i64 0) (.int .i64 0) (.int .i64 0))
    have XB := Lib.hid (below_set6 B6.out G5.out (.slice (some ⟨g_c, 0, none⟩) 0 WN) (.slice (some ⟨g_l, 0, none⟩) WN WN) (.slice (some ⟨g_t, 0, none⟩) TN TN) (.int .i64 0) (.int .i64 0) (.int .i64 0))
    have Xc := Lib.hid (F6_c.out.far6 (D := g_D) (fun k hk => by cases hk; exact N5_c.out) (.slice (some ⟨g_c, 0, none⟩) 0 WN) (.slice (some ⟨g_l, 0, none⟩) WN WN) (.slice (some ⟨g_t, 0, none⟩) TN TN) (.int .i64 0) (.int .i64 0) (.int .i64 0))
    have Xl := Lib.hid (F6_l.out.far6 (D := g_D) (fun k hk => by cases hk; exact N5_l.out) (.slice (some ⟨g_c, 0, none⟩) 0 WN) (.slice (some ⟨g_l, 0, none⟩) WN WN) (.slice (some ⟨g_t, 0, none⟩) TN TN) (.int .i64 0) (.int .i64 0) (.int .i64 0))
    have Xt := Lib.hid (F6.out.far6 (D := g_D) (fun k hk => by cases hk; exact N6_D.out.symm) (.slice (some ⟨g_c, 0, none⟩) 0 WN) (.slice (some ⟨g_l, 0, none⟩) WN WN) (.slice (some ⟨g_t, 0, none⟩) TN TN) (.int .i64 0) (.int .i64 0) (.int .i64 0))
    have XN0 := Lib.hid (show g_c ≠ g_l from N2_c.out)
    have XN1 := Lib.hid (show g_c ≠ g_t from N6_c.out)
    have XN2 := Lib.hid (show g_l ≠ g_t from N6_l.out)
    have XMc := Lib.hid (show g_c ≠ g_D from N5_c.out)
    have XMl := Lib.hid (show g_l ≠ g_D from N5_l.out)
    have XMt := Lib.hid (show g_t ≠ g_D from N6_D.out.symm)
    have XGc := Lib.hid G1.out
    have XGl := Lib.hid G2.out
    have XGt := Lib.hid G6.out
    have XGD := Lib.hid G5.out
    refine hK.out _ _ trivial (fun hHeld => ?_)
    clear hK K hHeld
    (try simp only [Act.put, List.setIfInBounds_toArray, List.set_cons_zero, List.set_cons_succ])
    refine wpAnyH_done (by kernel_rfl) ?_ _
    clear B6 F6 F6_D F6_c F6_l G1 G2 G5 G6 N2_c N5_c N5_l N6_D N6_c N6_l S6 T6 T6_D T6_c T6_l
    generalize (((((v6.setCell ⟨g_D, 0, none⟩ (.slice (some ⟨g_c, 0, none⟩) 0 WN)).setCell ⟨g_D, 1, none⟩ (.slice (some ⟨g_l, 0, none⟩) WN WN)).setCell ⟨g_D, 2, none⟩ (.slice (some ⟨g_t, 0, none⟩) TN TN)).setCell ⟨g_D, 3, none⟩ (.int .i64 0)).setCell ⟨g_D, 4, none⟩ (.int .i64 0)).setCell ⟨g_D, 5, none⟩ (.int .i64 0) = vx at *
    go_wp2_with fail
    go_meet
    exact ⟨g_D, g_c, g_l, g_t, rfl, XB, Xc, Xl, Xt, XD, Lib.hid ⟨XN0.out, XN1.out, XN2.out, XMc.out, XMl.out, XMt.out, XGD.out, XGc.out, XGl.out, XGt.out⟩⟩
   refine AllReadyH.cons (o := ⟨some 30, _, _, _, _, _⟩) rfl (fun K hK => ?_) ?_
   ·refine Lk.wp_made (K := KT) v1 _ _ rfl rfl _ _ TN TN _ _ rfl rfl rfl rfl (.inl rfl) (0, 0) rfl ⟨by decide, by decide⟩ (by omega) ?_
    intro v7 ho hb hl
    have F7 := Lib.hid (ho.mono S1.out)
    have B7 := Lib.hid (B1.out.trans (hb.mono S1.out))
    have S7 := Lib.hid (Nat.le_trans S1.out (Nat.le_of_lt hl))
    have T7 := Lib.hid hl
    have G7 := Lib.hid S1.out
    have F7_c := Lib.hid (F1.out.below hb)
    have T7_c := Lib.hid (Nat.lt_trans T1.out hl)
    have N7_c := Lib.hid (Nat.ne_of_lt T1.out)
    clear hb hl ho B1 S1 F1 T1
    generalize v1.heap.size = g_t at *
    refine hK.out _ _ trivial (fun hHeld => ?_)
    clear hK K hHeld
    (try simp only [Act.put, List.setIfInBounds_toArray, List.set_cons_zero, List.set_cons_succ])
    refine wpAnyH_ready (rs := [3, 7]) (by kernel_rfl) (by simp) ?_
    refine AllReadyH.cons (o := ⟨some 28, _, _, _, _, _⟩) rfl (fun K hK => ?_) ?_
    ·refine Lk.wp_made (K := KL) v7 _ _ rfl rfl _ _ WN WN _ _ rfl rfl rfl rfl (.inl rfl) lo0 rfl ⟨by decide, by decide⟩ (by omega) ?_
     intro v8 ho hb hl
     have F8 := Lib.hid (ho.mono S7.out)
     have B8 := Lib.hid (B7.out.trans (hb.mono S7.out))
     have S8 := Lib.hid (Nat.le_trans S7.out (Nat.le_of_lt hl))
     have T8 := Lib.hid hl
     have G8 := Lib.hid S7.out
     have F8_c := Lib.hid (F7_c.out.below hb)
     have T8_c := Lib.hid (Nat.lt_trans T7_c.out hl)
     have N8_c := Lib.hid (Nat.ne_of_lt T7_c.out)
     have F8_t := Lib.hid (F7.out.below hb)
     have T8_t := Lib.hid (Nat.lt_trans T7.out hl)
     have N8_t := Lib.hid (Nat.ne_of_lt T7.out)
     clear hb hl ho B7 S7 F7_c T7_c F7 T7
     generalize v7.heap.size = g_l at *
     refine hK.out _ _ trivial (fun hHeld => ?_)
     clear hK K hHeld
     (try simp only [Act.put, List.setIfInBounds_toArray, List.set_cons_zero, List.set_cons_succ])
     have hHeld : True := trivial
     refine wpAnyH_take (i := 6) (oi := ⟨some 31, _, _, _, _, _⟩) (v := ?_) rfl (by kernel_rfl) (by kernel_rfl) (by kernel_rfl) (fun _ _ _ h => h) (Or.inl ⟨by kernel_rfl, ?_⟩) (by assumption) ?_
     rotate_left 1
     ·((intro w hSw; (try dsimp only at hSw); go_simp) <;> (try with_reducible rfl))
     (try simp only [Act.put, List.setIfInBounds_toArray, List.set_cons_zero, List.set_cons_succ])
     clear hHeld
     refine wpAnyH_ready (rs := [7]) (by kernel_rfl) (by simp) ?_
     refine AllReadyH.cons (o := ⟨some 8, _, _, _, _, _⟩) rfl (fun K hK => ?_) AllReadyH.nil
     go_simp
     have hb := Below.al (Below.refl _ v8) (.cells #[.slice none 0 0, .slice none 0 0, .slice none 0 0, .int .i64 0, .int .i64 0, .int .i64 0] 33)
     have hl : v8.heap.size < (v8.alloc (.cells #[.slice none 0 0, .slice none 0 0, .slice none 0 0, .int .i64 0, .int .i64 0, .int .i64 0] 33)).heap.size := by simp
     have F9 := Lib.hid (Cells6.new v8 33 (.slice none 0 0) (.slice none 0 0) (.slice none 0 0) (.int .i64 0) (.int .i64 0) (.int .i64 0))
     have B9 := Lib.hid (B8.out.trans (hb.mono S8.out))
     have S9 := Lib.hid (Nat.le_trans S8.out (Nat.le_of_lt hl))
     have T9 := Lib.hid hl
     have G9 := Lib.hid S8.out
     have F9_c := Lib.hid (F8_c.out.below hb)
     have T9_c := Lib.hid (Nat.lt_trans T8_c.out hl)
     have N9_c := Lib.hid (Nat.ne_of_lt T8_c.out)
     have F9_l := Lib.hid (F8.out.below hb)
     have T9_l := Lib.hid (Nat.lt_trans T8.out hl)
     have N9_l := Lib.hid (Nat.ne_of_lt T8.out)
     have F9_t := Lib.hid (F8_t.out.below hb)
     have T9_t := Lib.hid (Nat.lt_trans T8_t.out hl)
     have N9_t := Lib.hid (Nat.ne_of_lt T8_t.out)
     clear hb hl B8 S8 F8_c T8_c F8 T8 F8_t T8_t
     generalize v8.alloc (.cells #[.slice none 0 0, .slice none 0 0, .slice none 0 0, .int .i64 0, .int .i64 0, .int .i64 0] 33) = v9 at *
     generalize v8.heap.size = g_D at *
     refine hK.out _ _ trivial (fun hHeld => ?_)
     clear hK K hHeld
     (try simp only [Act.put, List.setIfInBounds_toArray, List.set_cons_zero, List.set_cons_succ])
     refine wpAnyH_ready (rs := [8]) (by kernel_rfl) (by simp) ?_
     refine AllReadyH.cons (o := ⟨none, _, _, _, _, _⟩) rfl (fun K hK => ?_) AllReadyH.nil
     obtain ⟨s0, s1, s2, s3, s4, s5, y0, y1, y2, y3, y4, y5, sl⟩ := F9.out
     go_simp
     clear s0 s1 s2 s3 s4 s5 y0 y1 y2 y3 y4 y5 sl
     have XD := Lib.hid (F9.out.set (.slice (some ⟨g_c, 0, none⟩) 0 WN) (.slice (some ⟨g_l, 0, none⟩) WN WN) (.slice (some ⟨g_t, 0, none⟩) TN TN) (.int .i64 0) (.int .i64 0) (.int .i64 0))
     have XB := Lib.hid (below_set6 B9.out G9.out (.slice (some ⟨g_c, 0, none⟩) 0 WN) (.slice (some ⟨g_l, 0, none⟩) WN WN) (.slice (some ⟨g_t, 0, none⟩) TN TN) (.int .i64 0) (.int .i64 0) (.int .i64 0))
     have Xc := Lib.hid (F9_c.out.far6 (D := g_D) (fun k hk => by cases hk; exact N9_c.out) (.slice (some ⟨g_c, 0, none⟩) 0 WN) (.slice (some ⟨g_l, 0, none⟩) WN WN) (.slice (some ⟨g_t, 0, none⟩) TN TN) (.int .i64 0) (.int .i64 0) (.int .i64 0))
     have Xl := Lib.hid (F9_l.out.far6 (D := g_D) (fun k hk => by cases hk; exact N9_l.out) (.slice (some ⟨g_c, 0, none⟩) 0 WN) (.slice (some ⟨g_l, 0, none⟩) WN WN) (.slice (some ⟨g_t, 0, none⟩) TN TN) (.int .i64 0) (.int .i64 0) (.int .i64 0))
     have Xt := Lib.hid (F9_t.out.far6 (D := g_D) (fun k hk => by cases hk; exact N9_t.out) (.slice (some ⟨g_c, 0, none⟩) 0 WN) (.slice (some ⟨g_l, 0, none⟩) WN WN) (.slice (some ⟨g_t, 0, none⟩) TN TN) (.int .i64 0) (.int .i64 0) (.int .i64 0))
     have XN0 := Lib.hid (show g_c ≠ g_l from N8_c.out)
     have XN1 := Lib.hid (show g_c ≠ g_t from N7_c.out)
     have XN2 := Lib.hid (show g_l ≠ g_t from N8_t.out.symm)
     have XMc := Lib.hid (show g_c ≠ g_D from N9_c.out)
     have XMl := Lib.hid (show g_l ≠ g_D from N9_l.out)
     have XMt := Lib.hid (show g_t ≠ g_D from N9_t.out)
     have XGc := Lib.hid G1.out
     have XGl := Lib.hid G8.out
     have XGt := Lib.hid G7.out
     have XGD := Lib.hid G9.out
     refine hK.out _ _ trivial (fun hHeld => ?_)
     clear hK K hHeld
     (try simp only [Act.put, List.setIfInBounds_toArray, List.set_cons_zero, List.set_cons_succ])
     refine wpAnyH_done (by kernel_rfl) ?_ _
     clear B9 F9 F9_c F9_l F9_t G1 G7 G8 G9 N7_c N8_c N8_t N9_c N9_l N9_t S9 T9 T9_c T9_l T9_t
     generalize (((((v9.setCell ⟨g_D, 0, none⟩ (.slice (some ⟨g_c, 0, none⟩) 0 WN)).setCell ⟨g_D, 1, none⟩ (.slice (some ⟨g_l, 0, none⟩) WN WN)).setCell ⟨g_D, 2, none⟩ (.slice (some ⟨g_t, 0, none⟩) TN TN)).setCell ⟨g_D, 3, none⟩ (.int .i64 0)).setCell ⟨g_D, 4, none⟩ (.int .i64 0)).setCell ⟨g_D, 5, none⟩ (.int .i64 0) = vx at *
     go_wp2_with fail
     go_meet
     exact ⟨g_D, g_c, g_l, g_t, rfl, XB, Xc, Xl, Xt, XD, Lib.hid ⟨XN0.out, XN1.out, XN2.out, XMc.out, XMl.out, XMt.out, XGD.out, XGc.out, XGl.out, XGt.out⟩⟩
    refine AllReadyH.cons (o := ⟨some 8, _, _, _, _, _⟩) rfl (fun K hK => ?_) AllReadyH.nil
    go_simp
    have hb := Below.al (Below.refl _ v7) (.cells #[.slice none 0 0, .slice none 0 0, .slice none 0 0, .int .i64 0, .int .i64 0, .int .i64 0] 33)
    have hl : v7.heap.size < (v7.alloc (.cells #[.slice none 0 0, .slice none 0 0, .slice none 0 0, .int .i64 0, .int .i64 0, .int .i64 0] 33)).heap.size := by simp
    have F10 := Lib.hid (Cells6.new v7 33 (.slice none 0 0) (.slice none 0 0) (.slice none 0 0) (.int .i64 0) (.int .i64 0) (.int .i64 0))
    have B10 := Lib.hid (B7.out.trans (hb.mono S7.out))
    have S10 := Lib.hid (Nat.le_trans S7.out (Nat.le_of_lt hl))
    have T10 := Lib.hid hl
    have G10 := Lib.hid S7.out
    have F10_c := Lib.hid (F7_c.out.below hb)
    have T10_c := Lib.hid (Nat.lt_trans T7_c.out hl)
    have N10_c := Lib.hid (Nat.ne_of_lt T7_c.out)
    have F10_t := Lib.hid (F7.out.below hb)
    have T10_t := Lib.hid (Nat.lt_trans T7.out hl)
    have N10_t := Lib.hid (Nat.ne_of_lt T7.out)
    clear hb hl B7 S7 F7_c T7_c F7 T7
    generalize v7.alloc (.cells #[.slice none 0 0, .slice none 0 0, .slice none 0 0, .int .i64 0, .int .i64 0, .int .i64 0] 33) = v10 at *
    generalize v7.heap.size = g_D at *
    refine hK.out _ _ trivial (fun hHeld => ?_)
    clear hK K hHeld
    (try simp only [Act.put, List.setIfInBounds_toArray, List.set_cons_zero, List.set_cons_succ])
    refine wpAnyH_ready (rs := [3]) (by kernel_rfl) (by simp) ?_
    refine AllReadyH.cons (o := ⟨some 28, _, _, _, _, _⟩) rfl (fun K hK => ?_) AllReadyH.nil
    refine Lk.wp_made (K := KL) v10 _ _ rfl rfl _ _ WN WN _ _ rfl rfl rfl rfl (.inl rfl) lo0 rfl ⟨by decide, by decide⟩ (by omega) ?_
    intro v11 ho hb hl
    have F11 := Lib.hid (ho.mono S10.out)
    have B11 := Lib.hid (B10.out.trans (hb.mono S10.out))
    have S11 := Lib.hid (Nat.le_trans S10.out (Nat.le_of_lt hl))
    have T11 := Lib.hid hl
    have G11 := Lib.hid S10.out
    have F11_c := Lib.hid (F10_c.out.below hb)
    have T11_c := Lib.hid (Nat.lt_trans T10_c.out hl)
    have N11_c := Lib.hid (Nat.ne_of_lt T10_c.out)
    have F11_t := Lib.hid (F10_t.out.below hb)
    have T11_t := Lib.hid (Nat.lt_trans T10_t.out hl)
    have N11_t := Lib.hid (Nat.ne_of_lt T10_t.out)
    have F11_D := Lib.hid (F10.out.below hb)
    have T11_D := Lib.hid (Nat.lt_trans T10.out hl)
    have N11_D := Lib.hid (Nat.ne_of_lt T10.out)
    clear hb hl ho B10 S10 F10_c T10_c F10_t T10_t F10 T10
    generalize v10.heap.size = g_l at *
    refine hK.out _ _ trivial (fun hHeld => ?_)
    clear hK K hHeld
    (try simp only [Act.put, List.setIfInBounds_toArray, List.set_cons_zero, List.set_cons_succ])
    have hHeld : True := trivial
    refine wpAnyH_take (i := 6) (oi := ⟨some 31, _, _, _, _, _⟩) (v := ?_) rfl (by kernel_rfl) (by kernel_rfl) (by kernel_rfl) (fun _ _ _ h => h) (Or.inl ⟨by kernel_rfl, ?_⟩) (by assumption) ?_
    rotate_left 1
    ·((intro w hSw; (try dsimp only at hSw); go_simp) <;> (try with_reducible rfl))
    (try simp only [Act.put, List.setIfInBounds_toArray, List.set_cons_zero, List.set_cons_succ])
    clear hHeld
    refine wpAnyH_ready (rs := [8]) (by kernel_rfl) (by simp) ?_
    refine AllReadyH.cons (o := ⟨none, _, _, _, _, _⟩) rfl (fun K hK => ?_) AllReadyH.nil
    obtain ⟨s0, s1, s2, s3, s4, s5, y0, y1, y2, y3, y4, y5, sl⟩ := F11_D.out
    go_simp
    clear s0 s1 s2 s3 s4 s5 y0 y1 y2 y3 y4 y5 sl
    have XD := Lib.hid (F11_D.out.set (.slice (some ⟨g_c, 0, none⟩) 0 WN) (.slice (some ⟨g_l, 0, none⟩) WN WN) (.slice (some ⟨g_t, 0, none⟩) TN TN) (.int .i64 0) (.int .i64 0) (.int .i64 0))
    have XB := Lib.hid (below_set6 B11.out G10.out (.slice (some ⟨g_c, 0, none⟩) 0 WN) (.slice (some ⟨g_l, 0, none⟩) WN WN) (.slice (some ⟨g_t, 0, none⟩) TN TN) (.int .i64 0) (.int .i64 0) (.int .i64 0))
    have Xc := Lib.hid (F11_c.out.far6 (D := g_D) (fun k hk => by cases hk; exact N10_c.out) (.slice (some ⟨g_c, 0, none⟩) 0 WN) (.slice (some ⟨g_l, 0, none⟩) WN WN) (.slice (some ⟨g_t, 0, none⟩) TN TN) (.int .i64 0) (.int .i64 0) (.int .i64 0))
    have Xl := Lib.hid (F11.out.far6 (D := g_D) (fun k hk => by cases hk; exact N11_D.out.symm) (.slice (some ⟨g_c, 0, none⟩) 0 WN) (.slice (some ⟨g_l, 0, none⟩) WN WN) (.slice (some ⟨g_t, 0, none⟩) TN TN) (.int .i64 0) (.int .i64 0) (.int .i64 0))
    have Xt := Lib.hid (F11_t.out.far6 (D := g_D) (fun k hk => by cases hk; exact N10_t.out) (.slice (some ⟨g_c, 0, none⟩) 0 WN) (.slice (some ⟨g_l, 0, none⟩) WN WN) (.slice (some ⟨g_t, 0, none⟩) TN TN) (.int .i64 0) (.int .i64 0) (.int .i64 0))
    have XN0 := Lib.hid (show g_c ≠ g_l from N11_c.out)
    have XN1 := Lib.hid (show g_c ≠ g_t from N7_c.out)
    have XN2 := Lib.hid (show g_l ≠ g_t from N11_t.out.symm)
    have XMc := Lib.hid (show g_c ≠ g_D from N10_c.out)
    have XMl := Lib.hid (show g_l ≠ g_D from N11_D.out.symm)
    have XMt := Lib.hid (show g_t ≠ g_D from N10_t.out)
    have XGc := Lib.hid G1.out
    have XGl := Lib.hid G11.out
    have XGt := Lib.hid G7.out
    have XGD := Lib.hid G10.out
    refine hK.out _ _ trivial (fun hHeld => ?_)
    clear hK K hHeld
    (try simp only [Act.put, List.setIfInBounds_toArray, List.set_cons_zero, List.set_cons_succ])
    refine wpAnyH_done (by kernel_rfl) ?_ _
    clear B11 F11 F11_D F11_c F11_t G1 G10 G11 G7 N10_c N10_t N11_D N11_c N11_t N7_c S11 T11 T11_D T11_c T11_t
    generalize (((((v11.setCell ⟨g_D, 0, none⟩ (.slice (some ⟨g_c, 0, none⟩) 0 WN)).setCell ⟨g_D, 1, none⟩ (.slice (some ⟨g_l, 0, none⟩) WN WN)).setCell ⟨g_D, 2, none⟩ (.slice (some ⟨g_t, 0, none⟩) TN TN)).setCell ⟨g_D, 3, none⟩ (.int .i64 0)).setCell ⟨g_D, 4, none⟩ (.int .i64 0)).setCell ⟨g_D, 5, none⟩ (.int .i64 0) = vx at *
    go_wp2_with fail
    go_meet
    exact ⟨g_D, g_c, g_l, g_t, rfl, XB, Xc, Xl, Xt, XD, Lib.hid ⟨XN0.out, XN1.out, XN2.out, XMc.out, XMl.out, XMt.out, XGD.out, XGc.out, XGl.out, XGt.out⟩⟩
   refine AllReadyH.cons (o := ⟨some 8, _, _, _, _, _⟩) rfl (fun K hK => ?_) AllReadyH.nil
   go_simp
   have hb := Below.al (Below.refl _ v1) (.cells #[.slice none 0 0, .slice none 0 0, .slice none 0 0, .int .i64 0, .int .i64 0, .int .i64 0] 33)
   have hl : v1.heap.size < (v1.alloc (.cells #[.slice none 0 0, .slice none 0 0, .slice none 0 0, .int .i64 0, .int .i64 0, .int .i64 0] 33)).heap.size := by simp
   have F12 := Lib.hid (Cells6.new v1 33 (.slice none 0 0) (.slice none 0 0) (.slice none 0 0) (.int .i64 0) (.int .i64 0) (.int .i64 0))
   have B12 := Lib.hid (B1.out.trans (hb.mono S1.out))
   have S12 := Lib.hid (Nat.le_trans S1.out (Nat.le_of_lt hl))
   have T12 := Lib.hid hl
   have G12 := Lib.hid S1.out
   have F12_c := Lib.hid (F1.out.below hb)
   have T12_c := Lib.hid (Nat.lt_trans T1.out hl)
   have N12_c := Lib.hid (Nat.ne_of_lt T1.out)
   clear hb hl B1 S1 F1 T1
   generalize v1.alloc (.cells #[.slice none 0 0, .slice none 0 0, .slice none 0 0, .int .i64 0, .int .i64 0, .int .i64 0] 33) = v12 at *
   generalize v1.heap.size = g_D at *
   refine hK.out _ _ trivial (fun hHeld => ?_)
   clear hK K hHeld
   (try simp only [Act.put, List.setIfInBounds_toArray, List.set_cons_zero, List.set_cons_succ])
   refine wpAnyH_ready (rs := [3, 5]) (by kernel_rfl) (by simp) ?_
   refine AllReadyH.cons (o := ⟨some 28, _, _, _, _, _⟩) rfl (fun K hK => ?_) ?_
   ·refine Lk.wp_made (K := KL) v12 _ _ rfl rfl _ _ WN WN _ _ rfl rfl rfl rfl (.inl rfl) lo0 rfl ⟨by decide, by decide⟩ (by omega) ?_
    intro v13 ho hb hl
    have F13 := Lib.hid (ho.mono S12.out)
    have B13 := Lib.hid (B12.out.trans (hb.mono S12.out))
    have S13 := Lib.hid (Nat.le_trans S12.out (Nat.le_of_lt hl))
    have T13 := Lib.hid hl
    have G13 := Lib.hid S12.out
    have F13_c := Lib.hid (F12_c.out.below hb)
    have T13_c := Lib.hid (Nat.lt_trans T12_c.out hl)
    have N13_c := Lib.hid (Nat.ne_of_lt T12_c.out)
    have F13_D := Lib.hid (F12.out.below hb)
    have T13_D := Lib.hid (Nat.lt_trans T12.out hl)
    have N13_D := Lib.hid (Nat.ne_of_lt T12.out)
    clear hb hl ho B12 S12 F12_c T12_c F12 T12
    generalize v12.heap.size = g_l at *
    refine hK.out _ _ trivial (fun hHeld => ?_)
    clear hK K hHeld
    (try simp only [Act.put, List.setIfInBounds_toArray, List.set_cons_zero, List.set_cons_succ])
    refine wpAnyH_ready (rs := [5]) (by kernel_rfl) (by simp) ?_
    refine AllReadyH.cons (o := ⟨some 30, _, _, _, _, _⟩) rfl (fun K hK => ?_) AllReadyH.nil
    refine Lk.wp_made (K := KT) v13 _ _ rfl rfl _ _ TN TN _ _ rfl rfl rfl rfl (.inl rfl) (0, 0) rfl ⟨by decide, by decide⟩ (by omega) ?_
    intro v14 ho hb hl
    have F14 := Lib.hid (ho.mono S13.out)
    have B14 := Lib.hid (B13.out.trans (hb.mono S13.out))
    have S14 := Lib.hid (Nat.le_trans S13.out (Nat.le_of_lt hl))
    have T14 := Lib.hid hl
    have G14 := Lib.hid S13.out
    have F14_c := Lib.hid (F13_c.out.below hb)
    have T14_c := Lib.hid (Nat.lt_trans T13_c.out hl)
    have N14_c := Lib.hid (Nat.ne_of_lt T13_c.out)
    have F14_l := Lib.hid (F13.out.below hb)
    have T14_l := Lib.hid (Nat.lt_trans T13.out hl)
    have N14_l := Lib.hid (Nat.ne_of_lt T13.out)
    have F14_D := Lib.hid (F13_D.out.below hb)
    have T14_D := Lib.hid (Nat.lt_trans T13_D.out hl)
    have N14_D := Lib.hid (Nat.ne_of_lt T13_D.out)
    clear hb hl ho B13 S13 F13_c T13_c F13 T13 F13_D T13_D
    generalize v13.heap.size = g_t at *
    refine hK.out _ _ trivial (fun hHeld => ?_)
    clear hK K hHeld
    (try simp only [Act.put, List.setIfInBounds_toArray, List.set_cons_zero, List.set_cons_succ])
    have hHeld : True := trivial
    refine wpAnyH_take (i := 6) (oi := ⟨some 31, _, _, _, _, _⟩) (v := ?_) rfl (by kernel_rfl) (by kernel_rfl) (by kernel_rfl) (fun _ _ _ h => h) (Or.inl ⟨by kernel_rfl, ?_⟩) (by assumption) ?_
    rotate_left 1
    ·((intro w hSw; (try dsimp only at hSw); go_simp) <;> (try with_reducible rfl))
    (try simp only [Act.put, List.setIfInBounds_toArray, List.set_cons_zero, List.set_cons_succ])
    clear hHeld
    refine wpAnyH_ready (rs := [8]) (by kernel_rfl) (by simp) ?_
    refine AllReadyH.cons (o := ⟨none, _, _, _, _, _⟩) rfl (fun K hK => ?_) AllReadyH.nil
    obtain ⟨s0, s1, s2, s3, s4, s5, y0, y1, y2, y3, y4, y5, sl⟩ := F14_D.out
    go_simp
    clear s0 s1 s2 s3 s4 s5 y0 y1 y2 y3 y4 y5 sl
    have XD := Lib.hid (F14_D.out.set (.slice (some ⟨g_c, 0, none⟩) 0 WN) (.slice (some ⟨g_l, 0, none⟩) WN WN) (.slice (some ⟨g_t, 0, none⟩) TN TN) (.int .i64 0) (.int .i64 0) (.int .i64 0))
    have XB := Lib.hid (below_set6 B14.out G12.out (.slice (some ⟨g_c, 0, none⟩) 0 WN) (.slice (some ⟨g_l, 0, none⟩) WN WN) (.slice (some ⟨g_t, 0, none⟩) TN TN) (.int .i64 0) (.int .i64 0) (.int .i64 0))
    have Xc := Lib.hid (F14_c.out.far6 (D := g_D) (fun k hk => by cases hk; exact N12_c.out) (.slice (some ⟨g_c, 0, none⟩) 0 WN) (.slice (some ⟨g_l, 0, none⟩) WN WN) (.slice (some ⟨g_t, 0, none⟩) TN TN) (.int .i64 0) (.int .i64 0) (.int .i64 0))
    have Xl := Lib.hid (F14_l.out.far6 (D := g_D) (fun k hk => by cases hk; exact N13_D.out.symm) (.slice (some ⟨g_c, 0, none⟩) 0 WN) (.slice (some ⟨g_l, 0, none⟩) WN WN) (.slice (some ⟨g_t, 0, none⟩) TN TN) (.int .i64 0) (.int .i64 0) (.int .i64 0))
    have Xt := Lib.hid (F14.out.far6 (D := g_D) (fun k hk => by cases hk; exact N14_D.out.symm) (.slice (some ⟨g_c, 0, none⟩) 0 WN) (.slice (some ⟨g_l, 0, none⟩) WN WN) (.slice (some ⟨g_t, 0, none⟩) TN TN) (.int .i64 0) (.int .i64 0) (.int .i64 0))
    have XN0 := Lib.hid (show g_c ≠ g_l from N13_c.out)
    have XN1 := Lib.hid (show g_c ≠ g_t from N14_c.out)
    have XN2 := Lib.hid (show g_l ≠ g_t from N14_l.out)
    have XMc := Lib.hid (show g_c ≠ g_D from N12_c.out)
    have XMl := Lib.hid (show g_l ≠ g_D from N13_D.out.symm)
    have XMt := Lib.hid (show g_t ≠ g_D from N14_D.out.symm)
    have XGc := Lib.hid G1.out
    have XGl := Lib.hid G13.out
    have XGt := Lib.hid G14.out
    have XGD := Lib.hid G12.out
    refine hK.out _ _ trivial (fun hHeld => ?_)
    clear hK K hHeld
    (try simp only [Act.put, List.setIfInBounds_toArray, List.set_cons_zero, List.set_cons_succ])
    refine wpAnyH_done (by kernel_rfl) ?_ _
    clear B14 F14 F14_D F14_c F14_l G1 G12 G13 G14 N12_c N13_D N13_c N14_D N14_c N14_l S14 T14 T14_D T14_c T14_l
    generalize (((((v14.setCell ⟨g_D, 0, none⟩ (.slice (some ⟨g_c, 0, none⟩) 0 WN)).setCell ⟨g_D, 1, none⟩ (.slice (some ⟨g_l, 0, none⟩) WN WN)).setCell ⟨g_D, 2, none⟩ (.slice (some ⟨g_t, 0, none⟩) TN TN)).setCell ⟨g_D, 3, none⟩ (.int .i64 0)).setCell ⟨g_D, 4, none⟩ (.int .i64 0)).setCell ⟨g_D, 5, none⟩ (.int .i64 0) = vx at *
    go_wp2_with fail
    go_meet
    exact ⟨g_D, g_c, g_l, g_t, rfl, XB, Xc, Xl, Xt, XD, Lib.hid ⟨XN0.out, XN1.out, XN2.out, XMc.out, XMl.out, XMt.out, XGD.out, XGc.out, XGl.out, XGt.out⟩⟩
   refine AllReadyH.cons (o := ⟨some 30, _, _, _, _, _⟩) rfl (fun K hK => ?_) AllReadyH.nil
   refine Lk.wp_made (K := KT) v12 _ _ rfl rfl _ _ TN TN _ _ rfl rfl rfl rfl (.inl rfl) (0, 0) rfl ⟨by decide, by decide⟩ (by omega) ?_
   intro v15 ho hb hl
   have F15 := Lib.hid (ho.mono S12.out)
   have B15 := Lib.hid (B12.out.trans (hb.mono S12.out))
   have S15 := Lib.hid (Nat.le_trans S12.out (Nat.le_of_lt hl))
   have T15 := Lib.hid hl
   have G15 := Lib.hid S12.out
   have F15_c := Lib.hid (F12_c.out.below hb)
   have T15_c := Lib.hid (Nat.lt_trans T12_c.out hl)
   have N15_c := Lib.hid (Nat.ne_of_lt T12_c.out)
   have F15_D := Lib.hid (F12.out.below hb)
   have T15_D := Lib.hid (Nat.lt_trans T12.out hl)
   have N15_D := Lib.hid (Nat.ne_of_lt T12.out)
   clear hb hl ho B12 S12 F12_c T12_c F12 T12
   generalize v12.heap.size = g_t at *
   refine hK.out _ _ trivial (fun hHeld => ?_)
   clear hK K hHeld
   (try simp only [Act.put, List.setIfInBounds_toArray, List.set_cons_zero, List.set_cons_succ])
   refine wpAnyH_ready (rs := [3]) (by kernel_rfl) (by simp) ?_
   refine AllReadyH.cons (o := ⟨some 28, _, _, _, _, _⟩) rfl (fun K hK => ?_) AllReadyH.nil
   refine Lk.wp_made (K := KL) v15 _ _ rfl rfl _ _ WN WN _ _ rfl rfl rfl rfl (.inl rfl) lo0 rfl ⟨by decide, by decide⟩ (by omega) ?_
   intro v16 ho hb hl
   have F16 := Lib.hid (ho.mono S15.out)
   have B16 := Lib.hid (B15.out.trans (hb.mono S15.out))
   have S16 := Lib.hid (Nat.le_trans S15.out (Nat.le_of_lt hl))
   have T16 := Lib.hid hl
   have G16 := Lib.hid S15.out
   have F16_c := Lib.hid (F15_c.out.below hb)
   have T16_c := Lib.hid (Nat.lt_trans T15_c.out hl)
   have N16_c := Lib.hid (Nat.ne_of_lt T15_c.out)
   have F16_t := Lib.hid (F15.out.below hb)
   have T16_t := Lib.hid (Nat.lt_trans T15.out hl)
   have N16_t := Lib.hid (Nat.ne_of_lt T15.out)
   have F16_D := Lib.hid (F15_D.out.below hb)
   have T16_D := Lib.hid (Nat.lt_trans T15_D.out hl)
   have N16_D := Lib.hid (Nat.ne_of_lt T15_D.out)
   clear hb hl ho B15 S15 F15_c T15_c F15 T15 F15_D T15_D
   generalize v15.heap.size = g_l at *
   refine hK.out _ _ trivial (fun hHeld => ?_)
   clear hK K hHeld
   (try simp only [Act.put, List.setIfInBounds_toArray, List.set_cons_zero, List.set_cons_succ])
   have hHeld : True := trivial
   refine wpAnyH_take (i := 6) (oi := ⟨some 31, _, _, _, _, _⟩) (v := ?_) rfl (by kernel_rfl) (by kernel_rfl) (by kernel_rfl) (fun _ _ _ h => h) (Or.inl ⟨by kernel_rfl, ?_⟩) (by assumption) ?_
   rotate_left 1
   ·((intro w hSw; (try dsimp only at hSw); go_simp) <;> (try with_reducible rfl))
   (try simp only [Act.put, List.setIfInBounds_toArray, List.set_cons_zero, List.set_cons_succ])
   clear hHeld
   refine wpAnyH_ready (rs := [8]) (by kernel_rfl) (by simp) ?_
   refine AllReadyH.cons (o := ⟨none, _, _, _, _, _⟩) rfl (fun K hK => ?_) AllReadyH.nil
   obtain ⟨s0, s1, s2, s3, s4, s5, y0, y1, y2, y3, y4, y5, sl⟩ := F16_D.out
   go_simp
   clear s0 s1 s2 s3 s4 s5 y0 y1 y2 y3 y4 y5 sl
   have XD := Lib.hid (F16_D.out.set (.slice (some ⟨g_c, 0, none⟩) 0 WN) (.slice (some ⟨g_l, 0, none⟩) WN WN) (.slice (some ⟨g_t, 0, none⟩) TN TN) (.int .i64 0) (.int .i64 0) (.int .i64 0))
   have XB := Lib.hid (below_set6 B16.out G12.out (.slice (some ⟨g_c, 0, none⟩) 0 WN) (.slice (some ⟨g_l, 0, none⟩) WN WN) (.slice (some ⟨g_t, 0, none⟩) TN TN) (.int .i64 0) (.int .i64 0) (.int .i64 0))
   have Xc := Lib.hid (F16_c.out.far6 (D := g_D) (fun k hk => by cases hk; exact N12_c.out) (.slice (some ⟨g_c, 0, none⟩) 0 WN) (.slice (some ⟨g_l, 0, none⟩) WN WN) (.slice (some ⟨g_t, 0, none⟩) TN TN) (.int .i64 0) (.int .i64 0) (.int .i64 0))
   have Xl := Lib.hid (F16.out.far6 (D := g_D) (fun k hk => by cases hk; exact N16_D.out.symm) (.slice (some ⟨g_c, 0, none⟩) 0 WN) (.slice (some ⟨g_l, 0, none⟩) WN WN) (.slice (some ⟨g_t, 0, none⟩) TN TN) (.int .i64 0) (.int .i64 0) (.int .i64 0))
   have Xt := Lib.hid (F16_t.out.far6 (D := g_D) (fun k hk => by cases hk; exact N15_D.out.symm) (.slice (some ⟨g_c, 0, none⟩) 0 WN) (.slice (some ⟨g_l, 0, none⟩) WN WN) (.slice (some ⟨g_t, 0, none⟩) TN TN) (.int .i64 0) (.int .i64 0) (.int .i64 0))
   have XN0 := Lib.hid (show g_c ≠ g_l from N16_c.out)
   have XN1 := Lib.hid (show g_c ≠ g_t from N15_c.out)
   have XN2 := Lib.hid (show g_l ≠ g_t from N16_t.out.symm)
   have XMc := Lib.hid (show g_c ≠ g_D from N12_c.out)
   have XMl := Lib.hid (show g_l ≠ g_D from N16_D.out.symm)
   have XMt := Lib.hid (show g_t ≠ g_D from N15_D.out.symm)
   have XGc := Lib.hid G1.out
   have XGl := Lib.hid G16.out
   have XGt := Lib.hid G15.out
   have XGD := Lib.hid G12.out
   refine hK.out _ _ trivial (fun hHeld => ?_)
   clear hK K hHeld
   (try simp only [Act.put, List.setIfInBounds_toArray, List.set_cons_zero, List.set_cons_succ])
   refine wpAnyH_done (by kernel_rfl) ?_ _
   clear B16 F16 F16_D F16_c F16_t G1 G12 G15 G16 N12_c N15_D N15_c N16_D N16_c N16_t S16 T16 T16_D T16_c T16_t
   generalize (((((v16.setCell ⟨g_D, 0, none⟩ (.slice (some ⟨g_c, 0, none⟩) 0 WN)).setCell ⟨g_D, 1, none⟩ (.slice (some ⟨g_l, 0, none⟩) WN WN)).setCell ⟨g_D, 2, none⟩ (.slice (some ⟨g_t, 0, none⟩) TN TN)).setCell ⟨g_D, 3, none⟩ (.int .i64 0)).setCell ⟨g_D, 4, none⟩ (.int .i64 0)).setCell ⟨g_D, 5, none⟩ (.int .i64 0) = vx at *
   go_wp2_with fail
   go_meet
   exact ⟨g_D, g_c, g_l, g_t, rfl, XB, Xc, Xl, Xt, XD, Lib.hid ⟨XN0.out, XN1.out, XN2.out, XMc.out, XMl.out, XMt.out, XGD.out, XGc.out, XGl.out, XGt.out⟩⟩
  refine AllReadyH.cons (o := ⟨some 28, _, _, _, _, _⟩) rfl (fun K hK => ?_) ?_
  ·refine Lk.wp_made (K := KL) v0 _ _ rfl rfl _ _ WN WN _ _ rfl rfl rfl rfl (.inl rfl) lo0 rfl ⟨by decide, by decide⟩ (by omega) ?_
   intro v17 ho hb hl
   have F17 := Lib.hid (ho.mono S0.out)
   have B17 := Lib.hid (B0.out.trans (hb.mono S0.out))
   have S17 := Lib.hid (Nat.le_trans S0.out (Nat.le_of_lt hl))
   have T17 := Lib.hid hl
   have G17 := Lib.hid S0.out
   clear hb hl ho B0 S0
   generalize v0.heap.size = g_l at *
   refine hK.out _ _ trivial (fun hHeld => ?_)
   clear hK K hHeld
   (try simp only [Act.put, List.setIfInBounds_toArray, List.set_cons_zero, List.set_cons_succ])
   refine wpAnyH_ready (rs := [1, 5, 7]) (by kernel_rfl) (by simp) ?_
   refine AllReadyH.cons (o := ⟨some 26, _, _, _, _, _⟩) rfl (fun K hK => ?_) ?_
   ·refine Lk.wp_made (K := KE) v17 _ _ rfl rfl _ _ 0 WN _ _ rfl rfl rfl rfl (.inr rfl) ce0 rfl ⟨by decide, by decide, by decide⟩ (by omega) ?_
    intro v18 ho hb hl
    have F18 := Lib.hid (ho.mono S17.out)
    have B18 := Lib.hid (B17.out.trans (hb.mono S17.out))
    have S18 := Lib.hid (Nat.le_trans S17.out (Nat.le_of_lt hl))
    have T18 := Lib.hid hl
    have G18 := Lib.hid S17.out
    have F18_l := Lib.hid (F17.out.below hb)
    have T18_l := Lib.hid (Nat.lt_trans T17.out hl)
    have N18_l := Lib.hid (Nat.ne_of_lt T17.out)
    clear hb hl ho B17 S17 F17 T17
    generalize v17.heap.size = g_c at *
    refine hK.out _ _ trivial (fun hHeld => ?_)
    clear hK K hHeld
    (try simp only [Act.put, List.setIfInBounds_toArray, List.set_cons_zero, List.set_cons_succ])
    refine wpAnyH_ready (rs := [5, 7]) (by kernel_rfl) (by simp) ?_
    refine AllReadyH.cons (o := ⟨some 30, _, _, _, _, _⟩) rfl (fun K hK => ?_) ?_
    ·refine Lk.wp_made (K := KT) v18 _ _ rfl rfl _ _ TN TN _ _ rfl rfl rfl rfl (.inl rfl) (0, 0) rfl ⟨by decide, by decide⟩ (by omega) ?_
     intro v19 ho hb hl
     have F19 := Lib.hid (ho.mono S18.out)
     have B19 := Lib.hid (B18.out.trans (hb.mono S18.out))
     have S19 := Lib.hid (Nat.le_trans S18.out (Nat.le_of_lt hl))
     have T19 := Lib.hid hl
     have G19 := Lib.hid S18.out
     have F19_c := Lib.hid (F18.out.below hb)
     have T19_c := Lib.hid (Nat.lt_trans T18.out hl)
     have N19_c := Lib.hid (Nat.ne_of_lt T18.out)
     have F19_l := Lib.hid (F18_l.out.below hb)
     have T19_l := Lib.hid (Nat.lt_trans T18_l.out hl)
     have N19_l := Lib.hid (Nat.ne_of_lt T18_l.out)
     clear hb hl ho B18 S18 F18 T18 F18_l T18_l
     generalize v18.heap.size = g_t at *
     refine hK.out _ _ trivial (fun hHeld => ?_)
     clear hK K hHeld
     (try simp only [Act.put, List.setIfInBounds_toArray, List.set_cons_zero, List.set_cons_succ])
     have hHeld : True := trivial
     refine wpAnyH_take (i := 6) (oi := ⟨some 31, _, _, _, _, _⟩) (v := ?_) rfl (by kernel_rfl) (by kernel_rfl) (by kernel_rfl) (fun _ _ _ h => h) (Or.inl ⟨by kernel_rfl, ?_⟩) (by assumption) ?_
     rotate_left 1
     ·((intro w hSw; (try dsimp only at hSw); go_simp) <;> (try with_reducible rfl))
     (try simp only [Act.put, List.setIfInBounds_toArray, List.set_cons_zero, List.set_cons_succ])
     clear hHeld
     refine wpAnyH_ready (rs := [7]) (by kernel_rfl) (by simp) ?_
     refine AllReadyH.cons (o := ⟨some 8, _, _, _, _, _⟩) rfl (fun K hK => ?_) AllReadyH.nil
     go_simp
     have hb := Below.al (Below.refl _ v19) (.cells #[.slice none 0 0, .slice none 0 0, .slice none 0 0, .int .i64 0, .int .i64 0, .int .i64 0] 33)
     have hl : v19.heap.size < (v19.alloc (.cells #[.slice none 0 0, .slice none 0 0, .slice none 0 0, .int .i64 0, .int .i64 0, .int .i64 0] 33)).heap.size := by simp
     have F20 := Lib.hid (Cells6.new v19 33 (.slice none 0 0) (.slice none 0 0) (.slice none 0 0) (.int .i64 0) (.int .i64 0) (.int .i64 0))
     have B20 := Lib.hid (B19.out.trans (hb.mono S19.out))
     have S20 := Lib.hid (Nat.le_trans S19.out (Nat.le_of_lt hl))
     have T20 := Lib.hid hl
     have G20 := Lib.hid S19.out
     have F20_c := Lib.hid (F19_c.out.below hb)
     have T20_c := Lib.hid (Nat.lt_trans T19_c.out hl)
     have N20_c := Lib.hid (Nat.ne_of_lt T19_c.out)
     have F20_l := Lib.hid (F19_l.out.below hb)
     have T20_l := Lib.hid (Nat.lt_trans T19_l.out hl)
     have N20_l := Lib.hid (Nat.ne_of_lt T19_l.out)
     have F20_t := Lib.hid (F19.out.below hb)
     have T20_t := Lib.hid (Nat.lt_trans T19.out hl)
     have N20_t := Lib.hid (Nat.ne_of_lt T19.out)
     clear hb hl B19 S19 F19_c T19_c F19_l T19_l F19 T19
     generalize v19.alloc (.cells #[.slice none 0 0, .slice none 0 0, .slice none 0 0, .int .i64 0, .int .i64 0, .int .i64 0] 33) = v20 at *
     generalize v19.heap.size = g_D at *
     refine hK.out _ _ trivial (fun hHeld => ?_)
     clear hK K hHeld
     (try simp only [Act.put, List.setIfInBounds_toArray, List.set_cons_zero, List.set_cons_succ])
     refine wpAnyH_ready (rs := [8]) (by kernel_rfl) (by simp) ?_
     refine AllReadyH.cons (o := ⟨none, _, _, _, _, _⟩) rfl (fun K hK => ?_) AllReadyH.nil
     obtain ⟨s0, s1, s2, s3, s4, s5, y0, y1, y2, y3, y4, y5, sl⟩ := F20.out
     go_simp
     clear s0 s1 s2 s3 s4 s5 y0 y1 y2 y3 y4 y5 sl
     have XD := Lib.hid (F20.out.set (.slice (some ⟨g_c, 0, none⟩) 0 WN) (.slice (some ⟨g_l, 0, none⟩) WN WN) (.slice (some ⟨g_t, 0, none⟩) TN TN) (.int .i64 0) (.int .i64 0) (.int .i64 0))
     have XB := Lib.hid (below_set6 B20.out G20.out (.slice (some ⟨g_c, 0, none⟩) 0 WN) (.slice (some ⟨g_l, 0, none⟩) WN WN) (.slice (some ⟨g_t, 0, none⟩) TN TN) (.int .i64 0) (.int .i64 0) (.int .i64 0))
     have Xc := Lib.hid (F20_c.out.far6 (D := g_D) (fun k hk => by cases hk; exact N20_c.out) (.slice (some ⟨g_c, 0, none⟩) 0 WN) (.slice (some ⟨g_l, 0, none⟩) WN WN) (.slice (some ⟨g_t, 0, none⟩) TN TN) (.int .i64 0) (.int .i64 0) (.int .i64 0))
     have Xl := Lib.hid (F20_l.out.far6 (D := g_D) (fun k hk => by cases hk; exact N20_l.out) (.slice (some ⟨g_c, 0, none⟩) 0 WN) (.slice (some ⟨g_l, 0, none⟩) WN WN) (.slice (some ⟨g_t, 0, none⟩) TN TN) (.int .i64 0) (.int .i64 0) (.int .i64 0))
     have Xt := Lib.hid (F20_t.out.far6 (D := g_D) (fun k hk => by cases hk; exact N20_t.out) (.slice (some ⟨g_c, 0, none⟩) 0 WN) (.slice (some ⟨g_l, 0, none⟩) WN WN) (.slice (some ⟨g_t, 0, none⟩) TN TN) (.int .i64 0) (.int .i64 0) (.int .i64 0))
     have XN0 := Lib.hid (show g_c ≠ g_l from N18_l.out.symm)
     have XN1 := Lib.hid (show g_c ≠ g_t from N19_c.out)
     have XN2 := Lib.hid (show g_l ≠ g_t from N19_l.out)
     have XMc := Lib.hid (show g_c ≠ g_D from N20_c.out)
     have XMl := Lib.hid (show g_l ≠ g_D from N20_l.out)
     have XMt := Lib.hid (show g_t ≠ g_D from N20_t.out)
     have XGc := Lib.hid G18.out
     have XGl := Lib.hid G17.out
     have XGt := Lib.hid G19.out
     have XGD := Lib.hid G20.out
     refine hK.out _ _ trivial (fun hHeld => ?_)
     clear hK K hHeld
     (try simp only [Act.put, List.setIfInBounds_toArray, List.set_cons_zero, List.set_cons_succ])
     refine wpAnyH_done (by kernel_rfl) ?_ _
     clear B20 F20 F20_c F20_l F20_t G17 G18 G19 G20 N18_l N19_c N19_l N20_c N20_l N20_t S20 T20 T20_c T20_l T20_t
     generalize (((((v20.setCell ⟨g_D, 0, none⟩ (.slice (some ⟨g_c, 0, none⟩) 0 WN)).setCell ⟨g_D, 1, none⟩ (.slice (some ⟨g_l, 0, none⟩) WN WN)).setCell ⟨g_D, 2, none⟩ (.slice (some ⟨g_t, 0, none⟩) TN TN)).setCell ⟨g_D, 3, none⟩ (.int .i64 0)).setCell ⟨g_D, 4, none⟩ (.int .i64 0)).setCell ⟨g_D, 5, none⟩ (.int .i64 0) = vx at *
     go_wp2_with fail
     go_meet
     exact ⟨g_D, g_c, g_l, g_t, rfl, XB, Xc, Xl, Xt, XD, Lib.hid ⟨XN0.out, XN1.out, XN2.out, XMc.out, XMl.out, XMt.out, XGD.out, XGc.out, XGl.out, XGt.out⟩⟩
    refine AllReadyH.cons (o := ⟨some 8, _, _, _, _, _⟩) rfl (fun K hK => ?_) AllReadyH.nil
    go_simp
    have hb := Below.al (Below.refl _ v18) (.cells #[.slice none 0 0, .slice none 0 0, .slice none 0 0, .int .i64 0, .int .i64 0, .int .i64 0] 33)
    have hl : v18.heap.size < (v18.alloc (.cells #[.slice none 0 0, .slice none 0 0, .slice none 0 0, .int .i64 0, .int .i64 0, .int .i64 0] 33)).heap.size := by simp
    have F21 := Lib.hid (Cells6.new v18 33 (.slice none 0 0) (.slice none 0 0) (.slice none 0 0) (.int .i64 0) (.int .i64 0) (.int .i64 0))
    have B21 := Lib.hid (B18.out.trans (hb.mono S18.out))
    have S21 := Lib.hid (Nat.le_trans S18.out (Nat.le_of_lt hl))
    have T21 := Lib.hid hl
    have G21 := Lib.hid S18.out
    have F21_c := Lib.hid (F18.out.below hb)
    have T21_c := Lib.hid (Nat.lt_trans T18.out hl)
    have N21_c := Lib.hid (Nat.ne_of_lt T18.out)
    have F21_l := Lib.hid (F18_l.out.below hb)
    have T21_l := Lib.hid (Nat.lt_trans T18_l.out hl)
    have N21_l := Lib.hid (Nat.ne_of_lt T18_l.out)
    clear hb hl B18 S18 F18 T18 F18_l T18_l
    generalize v18.alloc (.cells #[.slice none 0 0, .slice none 0 0, .slice none 0 0, .int .i64 0, .int .i64 0, .int .i64 0] 33) = v21 at *
    generalize v18.heap.size = g_D at *
    refine hK.out _ _ trivial (fun hHeld => ?_)
    clear hK K hHeld
    (try simp only [Act.put, List.setIfInBounds_toArray, List.set_cons_zero, List.set_cons_succ])
    refine wpAnyH_ready (rs := [5]) (by kernel_rfl) (by simp) ?_
    refine AllReadyH.cons (o := ⟨some 30, _, _, _, _, _⟩) rfl (fun K hK => ?_) AllReadyH.nil
    refine Lk.wp_made (K := KT) v21 _ _ rfl rfl _ _ TN TN _ _ rfl rfl rfl rfl (.inl rfl) (0, 0) rfl ⟨by decide, by decide⟩ (by omega) ?_
    intro v22 ho hb hl
    have F22 := Lib.hid (ho.mono S21.out)
    have B22 := Lib.hid (B21.out.trans (hb.mono S21.out))
    have S22 := Lib.hid (Nat.le_trans S21.out (Nat.le_of_lt hl))
    have T22 := Lib.hid hl
    have G22 := Lib.hid S21.out
    have F22_c := Lib.hid (F21_c.out.below hb)
    have T22_c := Lib.hid (Nat.lt_trans T21_c.out hl)
    have N22_c := Lib.hid (Nat.ne_of_lt T21_c.out)
    have F22_l := Lib.hid (F21_l.out.below hb)
    have T22_l := Lib.hid (Nat.lt_trans T21_l.out hl)
    have N22_l := Lib.hid (Nat.ne_of_lt T21_l.out)
    have F22_D := Lib.hid (F21.out.below hb)
    have T22_D := Lib.hid (Nat.lt_trans T21.out hl)
    have N22_D := Lib.hid (Nat.ne_of_lt T21.out)
    clear hb hl ho B21 S21 F21_c T21_c F21_l T21_l F21 T21
    generalize v21.heap.size = g_t at *
    refine hK.out _ _ trivial (fun hHeld => ?_)
    clear hK K hHeld
    (try simp only [Act.put, List.setIfInBounds_toArray, List.set_cons_zero, List.set_cons_succ])
    have hHeld : True := trivial
    refine wpAnyH_take (i := 6) (oi := ⟨some 31, _, _, _, _, _⟩) (v := ?_) rfl (by kernel_rfl) (by kernel_rfl) (by kernel_rfl) (fun _ _ _ h => h) (Or.inl ⟨by kernel_rfl, ?_⟩) (by assumption) ?_
    rotate_left 1
    ·((intro w hSw; (try dsimp only at hSw); go_simp) <;> (try with_reducible rfl))
    (try simp only [Act.put, List.setIfInBounds_toArray, List.set_cons_zero, List.set_cons_succ])
    clear hHeld
    refine wpAnyH_ready (rs := [8]) (by kernel_rfl) (by simp) ?_
    refine AllReadyH.cons (o := ⟨none, _, _, _, _, _⟩) rfl (fun K hK => ?_) AllReadyH.nil
    obtain ⟨s0, s1, s2, s3, s4, s5, y0, y1, y2, y3, y4, y5, sl⟩ := F22_D.out
    go_simp
    clear s0 s1 s2 s3 s4 s5 y0 y1 y2 y3 y4 y5 sl
    have XD := Lib.hid (F22_D.out.set (.slice (some ⟨g_c, 0, none⟩) 0 WN) (.slice (some ⟨g_l, 0, none⟩) WN WN) (.slice (some ⟨g_t, 0, none⟩) TN TN) (.int .i64 0) (.int .i64 0) (.int .i64 0))
    have XB := Lib.hid (below_set6 B22.out G21.out (.slice (some ⟨g_c, 0, none⟩) 0 WN) (.slice (some ⟨g_l, 0, none⟩) WN WN) (.slice (some ⟨g_t, 0, none⟩) TN TN) (.int .i64 0) (.int .i64 0) (.int .i64 0))
    have Xc := Lib.hid (F22_c.out.far6 (D := g_D) (fun k hk => by cases hk; exact N21_c.out) (.slice (some ⟨g_c, 0, none⟩) 0 WN) (.slice (some ⟨g_l, 0, none⟩) WN WN) (.slice (some ⟨g_t, 0, none⟩) TN TN) (.int .i64 0) (.int .i64 0) (.int .i64 0))
    have Xl := Lib.hid (F22_l.out.far6 (D := g_D) (fun k hk => by cases hk; exact N21_l.out) (.slice (some ⟨g_c, 0, none⟩) 0 WN) (.slice (some ⟨g_l, 0, none⟩) WN WN) (.slice (some ⟨g_t, 0, none⟩) TN TN) (.int .i64 0) (.int .i64 0) (.int .i64 0))
    have Xt := Lib.hid (F22.out.far6 (D := g_D) (fun k hk => by cases hk; exact N22_D.out.symm) (.slice (some ⟨g_c, 0, none⟩) 0 WN) (.slice (some ⟨g_l, 0, none⟩) WN WN) (.slice (some ⟨g_t, 0, none⟩) TN TN) (.int .i64 0) (.int .i64 0) (.int .i64 0))
    have XN0 := Lib.hid (show g_c ≠ g_l from N18_l.out.symm)
    have XN1 := Lib.hid (show g_c ≠ g_t from N22_c.out)
    have XN2 := Lib.hid (show g_l ≠ g_t from N22_l.out)
    have XMc := Lib.hid (show g_c ≠ g_D from N21_c.out)
    have XMl := Lib.hid (show g_l ≠ g_D from N21_l.out)
    have XMt := Lib.hid (show g_t ≠ g_D from N22_D.out.symm)
    have XGc := Lib.hid G18.out
    have XGl := Lib.hid G17.out
    have XGt := Lib.hid G22.out
    have XGD := Lib.hid G21.out
    refine hK.out _ _ trivial (fun hHeld => ?_)
    clear hK K hHeld
    (try simp only [Act.put, List.setIfInBounds_toArray, List.set_cons_zero, List.set_cons_succ])
    refine wpAnyH_done (by kernel_rfl) ?_ _
    clear B22 F22 F22_D F22_c F22_l G17 G18 G21 G22 N18_l N21_c N21_l N22_D N22_c N22_l S22 T22 T22_D T22_c T22_l
    generalize (((((v22.setCell ⟨g_D, 0, none⟩ (.slice (some ⟨g_c, 0, none⟩) 0 WN)).setCell ⟨g_D, 1, none⟩ (.slice (some ⟨g_l, 0, none⟩) WN WN)).setCell ⟨g_D, 2, none⟩ (.slice (some ⟨g_t, 0, none⟩) TN TN)).setCell ⟨g_D, 3, none⟩ (.int .i64 0)).setCell ⟨g_D, 4, none⟩ (.int .i64 0)).setCell ⟨g_D, 5, none⟩ (.int .i64 0) = vx at *
    go_wp2_with fail
    go_meet
    exact ⟨g_D, g_c, g_l, g_t, rfl, XB, Xc, Xl, Xt, XD, Lib.hid ⟨XN0.out, XN1.out, XN2.out, XMc.out, XMl.out, XMt.out, XGD.out, XGc.out, XGl.out, XGt.out⟩⟩
   refine AllReadyH.cons (o := ⟨some 30, _, _, _, _, _⟩) rfl (fun K hK => ?_) ?_
   ·refine Lk.wp_made (K := KT) v17 _ _ rfl rfl _ _ TN TN _ _ rfl rfl rfl rfl (.inl rfl) (0, 0) rfl ⟨by decide, by decide⟩ (by omega) ?_
    intro v23 ho hb hl
    have F23 := Lib.hid (ho.mono S17.out)
    have B23 := Lib.hid (B17.out.trans (hb.mono S17.out))
    have S23 := Lib.hid (Nat.le_trans S17.out (Nat.le_of_lt hl))
    have T23 := Lib.hid hl
    have G23 := Lib.hid S17.out
    have F23_l := Lib.hid (F17.out.below hb)
    have T23_l := Lib.hid (Nat.lt_trans T17.out hl)
    have N23_l := Lib.hid (Nat.ne_of_lt T17.out)
    clear hb hl ho B17 S17 F17 T17
    generalize v17.heap.size = g_t at *
    refine hK.out _ _ trivial (fun hHeld => ?_)
    clear hK K hHeld
    (try simp only [Act.put, List.setIfInBounds_toArray, List.set_cons_zero, List.set_cons_succ])
    refine wpAnyH_ready (rs := [1, 7]) (by kernel_rfl) (by simp) ?_
    refine AllReadyH.cons (o := ⟨some 26, _, _, _, _, _⟩) rfl (fun K hK => ?_) ?_
    ·refine Lk.wp_made (K := KE) v23 _ _ rfl rfl _ _ 0 WN _ _ rfl rfl rfl rfl (.inr rfl) ce0 rfl ⟨by decide, by decide, by decide⟩ (by omega) ?_
     intro v24 ho hb hl
     have F24 := Lib.hid (ho.mono S23.out)
     have B24 := Lib.hid (B23.out.trans (hb.mono S23.out))
     have S24 := Lib.hid (Nat.le_trans S23.out (Nat.le_of_lt hl))
     have T24 := Lib.hid hl
     have G24 := Lib.hid S23.out
     have F24_l := Lib.hid (F23_l.out.below hb)
     have T24_l := Lib.hid (Nat.lt_trans T23_l.out hl)
     have N24_l := Lib.hid (Nat.ne_of_lt T23_l.out)
     have F24_t := Lib.hid (F23.out.below hb)
     have T24_t := Lib.hid (Nat.lt_trans T23.out hl)
     have N24_t := Lib.hid (Nat.ne_of_lt T23.out)
     clear hb hl ho B23 S23 F23_l T23_l F23 T23
     generalize v23.heap.size = g_c at *
     refine hK.out _ _ trivial (fun hHeld => ?_)
     clear hK K hHeld
     (try simp only [Act.put, List.setIfInBounds_toArray, List.set_cons_zero, List.set_cons_succ])
     have hHeld : True := trivial
     refine wpAnyH_take (i := 6) (oi := ⟨some 31, _, _, _, _, _⟩) (v := ?_) rfl (by kernel_rfl) (by kernel_rfl) (by kernel_rfl) (fun _ _ _ h => h) (Or.inl ⟨by kernel_rfl, ?_⟩) (by assumption) ?_
     rotate_left 1
     ·((intro w hSw; (try dsimp only at hSw); go_simp) <;> (try with_reducible rfl))
     (try simp only [Act.put, List.setIfInBounds_toArray, List.set_cons_zero, List.set_cons_succ])
     clear hHeld
     refine wpAnyH_ready (rs := [7]) (by kernel_rfl) (by simp) ?_
     refine AllReadyH.cons (o := ⟨some 8, _, _, _, _, _⟩) rfl (fun K hK => ?_) AllReadyH.nil
     go_simp
     have hb := Below.al (Below.refl _ v24) (.cells #[.slice none 0 0, .slice none 0 0, .slice none 0 0, .int .i64 0, .int .i64 0, .int .i64 0] 33)
     have hl : v24.heap.size < (v24.alloc (.cells #[.slice none 0 0, .slice none 0 0, .slice none 0 0, .int .i64 0, .int .i64 0, .int .i64 0] 33)).heap.size := by simp
     have F25 := Lib.hid (Cells6.new v24 33 (.slice none 0 0) (.slice none 0 0) (.slice none 0 0) (.int .i64 0) (.int .i64 0) (.int .i64 0))
     have B25 := Lib.hid (B24.out.trans (hb.mono S24.out))
     have S25 := Lib.hid (Nat.le_trans S24.out (Nat.le_of_lt hl))
     have T25 := Lib.hid hl
     have G25 := Lib.hid S24.out
     have F25_c := Lib.hid (F24.out.below hb)
     have T25_c := Lib.hid (Nat.lt_trans T24.out hl)
     have N25_c := Lib.hid (Nat.ne_of_lt T24.out)
     have F25_l := Lib.hid (F24_l.out.below hb)
     have T25_l := Lib.hid (Nat.lt_trans T24_l.out hl)
     have N25_l := Lib.hid (Nat.ne_of_lt T24_l.out)
     have F25_t := Lib.hid (F24_t.out.below hb)
     have T25_t := Lib.hid (Nat.lt_trans T24_t.out hl)
     have N25_t := Lib.hid (Nat.ne_of_lt T24_t.out)
     clear hb hl B24 S24 F24 T24 F24_l T24_l F24_t T24_t
     generalize v24.alloc (.cells #[.slice none 0 0, .slice none 0 0, .slice none 0 0, .int .i64 0, .int .i64 0, .int .i64 0] 33) = v25 at *
     generalize v24.heap.size = g_D at *
     refine hK.out _ _ trivial (fun hHeld => ?_)
     clear hK K hHeld
     (try simp only [Act.put, List.setIfInBounds_toArray, List.set_cons_zero, List.set_cons_succ])
     refine wpAnyH_ready (rs := [8]) (by kernel_rfl) (by simp) ?_
     refine AllReadyH.cons (o := ⟨none, _, _, _, _, _⟩) rfl (fun K hK => ?_) AllReadyH.nil
     obtain ⟨s0, s1, s2, s3, s4, s5, y0, y1, y2, y3, y4, y5, sl⟩ := F25.out
     go_simp
     clear s0 s1 s2 s3 s4 s5 y0 y1 y2 y3 y4 y5 sl
     have XD := Lib.hid (F25.out.set (.slice (some ⟨g_c, 0, none⟩) 0 WN) (.slice (some ⟨g_l, 0, none⟩) WN WN) (.slice (some ⟨g_t, 0, none⟩) TN TN) (.int .i64 0) (.int .i64 0) (.int .i64 0))
     have XB := Lib.hid (below_set6 B25.out G25.out (.slice (some ⟨g_c, 0, none⟩) 0 WN) (.slice (some ⟨g_l, 0, none⟩) WN WN) (.slice (some ⟨g_t, 0, none⟩) TN TN) (.int .i64 0) (.int .i64 0) (.int .i64 0))
     have Xc := Lib.hid (F25_c.out.far6 (D := g_D) (fun k hk => by cases hk; exact N25_c.out) (.slice (some ⟨g_c, 0, none⟩) 0 WN) (.slice (some ⟨g_l, 0, none⟩) WN WN) (.slice (some ⟨g_t, 0, none⟩) TN TN) (.int .i64 0) (.int .i64 0) (.int .i64 0))
     have Xl := Lib.hid (F25_l.out.far6 (D := g_D) (fun k hk => by cases hk; exact N25_l.out) (.slice (some ⟨g_c, 0, none⟩) 0 WN) (.slice (some ⟨g_l, 0, none⟩) WN WN) (.slice (some ⟨g_t, 0, none⟩) TN TN) (.int .i64 0) (.int .i64 0) (.int .i64 0))
     have Xt := Lib.hid (F25_t.out.far6 (D := g_D) (fun k hk => by cases hk; exact N25_t.out) (.slice (some ⟨g_c, 0, none⟩) 0 WN) (.slice (some ⟨g_l, 0, none⟩) WN WN) (.slice (some ⟨g_t, 0, none⟩) TN TN) (.int .i64 0) (.int .i64 0) (.int .i64 0))
     have XN0 := Lib.hid (show g_c ≠ g_l from N24_l.out.symm)
     have XN1 := Lib.hid (show g_c ≠ g_t from N24_t.out.symm)
     have XN2 := Lib.hid (show g_l ≠ g_t from N23_l.out)
     have XMc := Lib.hid (show g_c ≠ g_D from N25_c.out)
     have XMl := Lib.hid (show g_l ≠ g_D from N25_l.out)
     have XMt := Lib.hid (show g_t ≠ g_D from N25_t.out)
     have XGc := Lib.hid G24.out
     have XGl := Lib.hid G17.out
     have XGt := Lib.hid G23.out
     have XGD := Lib.hid G25.out
     refine hK.out _ _ trivial (fun hHeld => ?_)
     clear hK K hHeld
     (try simp only [Act.put, List.setIfInBounds_toArray, List.set_cons_zero, List.set_cons_succ])
     refine wpAnyH_done (by kernel_rfl) ?_ _
     clear B25 F25 F25_c F25_l F25_t G17 G23 G24 G25 N23_l N24_l N24_t N25_c N25_l N25_t S25 T25 T25_c T25_l T25_t
     generalize (((((v25.setCell ⟨g_D, 0, none⟩ (.slice (some ⟨g_c, 0, none⟩) 0 WN)).setCell ⟨g_D, 1, none⟩ (.slice (some ⟨g_l, 0, none⟩) WN WN)).setCell ⟨g_D, 2, none⟩ (.slice (some ⟨g_t, 0, none⟩) TN TN)).setCell ⟨g_D, 3, none⟩ (.int .i64 0)).setCell ⟨g_D, 4, none⟩ (.int .i64 0)).setCell ⟨g_D, 5, none⟩ (.int .i64 0) = vx at *
     go_wp2_with fail
     go_meet
     exact ⟨g_D, g_c, g_l, g_t, rfl, XB, Xc, Xl, Xt, XD, Lib.hid ⟨XN0.out, XN1.out, XN2.out, XMc.out, XMl.out, XMt.out, XGD.out, XGc.out, XGl.out, XGt.out⟩⟩
    refine AllReadyH.cons (o := ⟨some 8, _, _, _, _, _⟩) rfl (fun K hK => ?_) AllReadyH.nil
    go_simp
    have hb := Below.al (Below.refl _ v23) (.cells #[.slice none 0 0, .slice none 0 0, .slice none 0 0, .int .i64 0, .int .i64 0, .int .i64 0] 33)
    have hl : v23.heap.size < (v23.alloc (.cells #[.slice none 0 0, .slice none 0 0, .slice none 0 0, .int .i64 0, .int .i64 0, .int .i64 0] 33)).heap.size := by simp
    have F26 := Lib.hid (Cells6.new v23 33 (.slice none 0 0) (.slice none 0 0) (.slice none 0 0) (.int .i64 0) (.int .i64 0) (.int .i64 0))
    have B26 := Lib.hid (B23.out.trans (hb.mono S23.out))
    have S26 := Lib.hid (Nat.le_trans S23.out (Nat.le_of_lt hl))
    have T26 := Lib.hid hl
    have G26 := Lib.hid S23.out
    have F26_l := Lib.hid (F23_l.out.below hb)
    have T26_l := Lib.hid (Nat.lt_trans T23_l.out hl)
    have N26_l := Lib.hid (Nat.ne_of_lt T23_l.out)
    have F26_t := Lib.hid (F23.out.below hb)
    have T26_t := Lib.hid (Nat.lt_trans T23.out hl)
    have N26_t := Lib.hid (Nat.ne_of_lt T23.out)
    clear hb hl B23 S23 F23_l T23_l F23 T23
    generalize v23.alloc (.cells #[.slice none 0 0, .slice none 0 0, .slice none 0 0, .int .i64 0, .int .i64 0, .int .i64 0] 33) = v26 at *
    generalize v23.heap.size = g_D at *
    refine hK.out _ _ trivial (fun hHeld => ?_)
    clear hK K hHeld
    (try simp only [Act.put, List.setIfInBounds_toArray, List.set_cons_zero, List.set_cons_succ])
    refine wpAnyH_ready (rs := [1]) (by kernel_rfl) (by simp) ?_
    refine AllReadyH.cons (o := ⟨some 26, _, _, _, _, _⟩) rfl (fun K hK => ?_) AllReadyH.nil
    refine Lk.wp_made (K := KE) v26 _ _ rfl rfl _ _ 0 WN _ _ rfl rfl rfl rfl (.inr rfl) ce0 rfl ⟨by decide, by decide, by decide⟩ (by omega) ?_
    intro v27 ho hb hl
    have F27 := Lib.hid (ho.mono S26.out)
    have B27 := Lib.hid (B26.out.trans (hb.mono S26.out))
    have S27 := Lib.hid (Nat.le_trans S26.out (Nat.le_of_lt hl))
    have T27 := Lib.hid hl
    have G27 := Lib.hid S26.out
    have F27_l := Lib.hid (F26_l.out.below hb)
    have T27_l := Lib.hid (Nat.lt_trans T26_l.out hl)
    have N27_l := Lib.hid (Nat.ne_of_lt T26_l.out)
    have F27_t := Lib.hid (F26_t.out.below hb)
    have T27_t := Lib.hid (Nat.lt_trans T26_t.out hl)
    have N27_t := Lib.hid (Nat.ne_of_lt T26_t.out)
    have F27_D := Lib.hid (F26.out.below hb)
    have T27_D := Lib.hid (Nat.lt_trans T26.out hl)
    have N27_D := Lib.hid (Nat.ne_of_lt T26.out)
    clear hb hl ho B26 S26 F26_l T26_l F26_t T26_t F26 T26
    generalize v26.heap.size = g_c at *
    refine hK.out _ _ trivial (fun hHeld => ?_)
    clear hK K hHeld
    (try simp only [Act.put, List.setIfInBounds_toArray, List.set_cons_zero, List.set_cons_succ])
    have hHeld : True := trivial
    refine wpAnyH_take (i := 6) (oi := ⟨some 31, _, _, _, _, _⟩) (v := ?_) rfl (by kernel_rfl) (by kernel_rfl) (by kernel_rfl) (fun _ _ _ h => h) (Or.inl ⟨by kernel_rfl, ?_⟩) (by assumption) ?_
    rotate_left 1
    ·((intro w hSw; (try dsimp only at hSw); go_simp) <;> (try with_reducible rfl))
    (try simp only [Act.put, List.setIfInBounds_toArray, List.set_cons_zero, List.set_cons_succ])
    clear hHeld
    refine wpAnyH_ready (rs := [8]) (by kernel_rfl) (by simp) ?_
    refine AllReadyH.cons (o := ⟨none, _, _, _, _, _⟩) rfl (fun K hK => ?_) AllReadyH.nil
    obtain ⟨s0, s1, s2, s3, s4, s5, y0, y1, y2, y3, y4, y5, sl⟩ := F27_D.out
    go_simp
    clear s0 s1 s2 s3 s4 s5 y0 y1 y2 y3 y4 y5 sl
    have XD := Lib.hid (F27_D.out.set (.slice (some ⟨g_c, 0, none⟩) 0 WN) (.slice (some ⟨g_l, 0, none⟩) WN WN) (.slice (some ⟨g_t, 0, none⟩) TN TN) (.int .i64 0) (.int .i64 0) (.int .i64 0))
    have XB := Lib.hid (below_set6 B27.out G26.out (.slice (some ⟨g_c, 0, none⟩) 0 WN) (.slice (some ⟨g_l, 0, none⟩) WN WN) (.slice (some ⟨g_t, 0, none⟩) TN TN) (.int .i64 0) (.int .i64 0) (.int .i64 0))
    have Xc := Lib.hid (F27.out.far6 (D := g_D) (fun k hk => by cases hk; exact N27_D.out.symm) (.slice (some ⟨g_c, 0, none⟩) 0 WN) (.slice (some ⟨g_l, 0, none⟩) WN WN) (.slice (some ⟨g_t, 0, none⟩) TN TN) (.int .i64 0) (.int .i64 0) (.int .i64 0))
    have Xl := Lib.hid (F27_l.out.far6 (D := g_D) (fun k hk => by cases hk; exact N26_l.out) (.slice (some ⟨g_c, 0, none⟩) 0 WN) (.slice (some ⟨g_l, 0, none⟩) WN WN) (.slice (some ⟨g_t, 0, none⟩) TN TN) (.int .i64 0) (.int .i64 0) (.int .i64 0))
    have Xt := Lib.hid (F27_t.out.far6 (D := g_D) (fun k hk => by cases hk; exact N26_t.out) (.slice (some ⟨g_c, 0, none⟩) 0 WN) (.slice (some ⟨g_l, 0, none⟩) WN WN) (.slice (some ⟨g_t, 0, none⟩) TN TN) (.int .i64 0) (.int .i64 0) (.int .i64 0))
    have XN0 := Lib.hid (show g_c ≠ g_l from N27_l.out.symm)
    have XN1 := Lib.hid (show g_c ≠ g_t from N27_t.out.symm)
    have XN2 := Lib.hid (show g_l ≠ g_t from N23_l.out)
    have XMc := Lib.hid (show g_c ≠ g_D from N27_D.out.symm)
    have XMl := Lib.hid (show g_l ≠ g_D from N26_l.out)
    have XMt := Lib.hid (show g_t ≠ g_D from N26_t.out)
    have XGc := Lib.hid G27.out
    have XGl := Lib.hid G17.out
    have XGt := Lib.hid G23.out
    have XGD := Lib.hid G26.out
    refine hK.out _ _ trivial (fun hHeld => ?_)
    clear hK K hHeld
    (try simp only [Act.put, List.setIfInBounds_toArray, List.set_cons_zero, List.set_cons_succ])
    refine wpAnyH_done (by kernel_rfl) ?_ _
    clear B27 F27 F27_D F27_l F27_t G17 G23 G26 G27 N23_l N26_l N26_t N27_D N27_l N27_t S27 T27 T27_D T27_l T27_t
    generalize (((((v27.setCell ⟨g_D, 0, none⟩ (.slice (some ⟨g_c, 0, none⟩) 0 WN)).setCell ⟨g_D, 1, none⟩ (.slice (some ⟨g_l, 0, none⟩) WN WN)).setCell ⟨g_D, 2, none⟩ (.slice (some ⟨g_t, 0, none⟩) TN TN)).setCell ⟨g_D, 3, none⟩ (.int .i64 0)).setCell ⟨g_D, 4, none⟩ (.int .i64 0)).setCell ⟨g_D, 5, none⟩ (.int .i64 0) = vx at *
    go_wp2_with fail
    go_meet
    exact ⟨g_D, g_c, g_l, g_t, rfl, XB, Xc, Xl, Xt, XD, Lib.hid ⟨XN0.out, XN1.out, XN2.out, XMc.out, XMl.out, XMt.out, XGD.out, XGc.out, XGl.out, XGt.out⟩⟩
   refine AllReadyH.cons (o := ⟨some 8, _, _, _, _, _⟩) rfl (fun K hK => ?_) AllReadyH.nil
   go_simp
   have hb := Below.al (Below.refl _ v17) (.cells #[.slice none 0 0, .slice none 0 0, .slice none 0 0, .int .i64 0, .int .i64 0, .int .i64 0] 33)
   have hl : v17.heap.size < (v17.alloc (.cells #[.slice none 0 0, .slice none 0 0, .slice none 0 0, .int .i64 0, .int .i64 0, .int .i64 0] 33)).heap.size := by simp
   have F28 := Lib.hid (Cells6.new v17 33 (.slice none 0 0) (.slice none 0 0) (.slice none 0 0) (.int .i64 0) (.int .i64 0) (.int .i64 0))
   have B28 := Lib.hid (B17.out.trans (hb.mono S17.out))
   have S28 := Lib.hid (Nat.le_trans S17.out (Nat.le_of_lt hl))
   have T28 := Lib.hid hl
   have G28 := Lib.hid S17.out
   have F28_l := Lib.hid (F17.out.below hb)
   have T28_l := Lib.hid (Nat.lt_trans T17.out hl)
   have N28_l := Lib.hid (Nat.ne_of_lt T17.out)
   clear hb hl B17 S17 F17 T17
   generalize v17.alloc (.cells #[.slice none 0 0, .slice none 0 0, .slice none 0 0, .int .i64 0, .int .i64 0, .int .i64 0] 33) = v28 at *
   generalize v17.heap.size = g_D at *
   refine hK.out _ _ trivial (fun hHeld => ?_)
   clear hK K hHeld
   (try simp only [Act.put, List.setIfInBounds_toArray, List.set_cons_zero, List.set_cons_succ])
   refine wpAnyH_ready (rs := [1, 5]) (by kernel_rfl) (by simp) ?_
   refine AllReadyH.cons (o := ⟨some 26, _, _, _, _, _⟩) rfl (fun K hK => ?_) ?_
   ·refine Lk.wp_made (K := KE) v28 _ _ rfl rfl _ _ 0 WN _ _ rfl rfl rfl rfl (.inr rfl) ce0 rfl ⟨by decide, by decide, by decide⟩ (by omega) ?_
    intro v29 ho hb hl
    have F29 := Lib.hid (ho.mono S28.out)
    have B29 := Lib.hid (B28.out.trans (hb.mono S28.out))
    have S29 := Lib.hid (Nat.le_trans S28.out (Nat.le_of_lt hl))
    have T29 := Lib.hid hl
    have G29 := Lib.hid S28.out
    have F29_l := Lib.hid (F28_l.out.below hb)
    have T29_l := Lib.hid (Nat.lt_trans T28_l.out hl)
    have N29_l := Lib.hid (Nat.ne_of_lt T28_l.out)
    have F29_D := Lib.hid (F28.out.below hb)
    have T29_D := Lib.hid (Nat.lt_trans T28.out hl)
    have N29_D := Lib.hid (Nat.ne_of_lt T28.out)
    clear hb hl ho B28 S28 F28_l T28_l F28 T28
    generalize v28.heap.size = g_c at *
    refine hK.out _ _ trivial (fun hHeld => ?_)
    clear hK K hHeld
    (try simp only [Act.put, List.setIfInBounds_toArray, List.set_cons_zero, List.set_cons_succ])
    refine wpAnyH_ready (rs := [5]) (by kernel_rfl) (by simp) ?_
    refine AllReadyH.cons (o := ⟨some 30, _, _, _, _, _⟩) rfl (fun K hK => ?_) AllReadyH.nil
    refine Lk.wp_made (K := KT) v29 _ _ rfl rfl _ _ TN TN _ _ rfl rfl rfl rfl (.inl rfl) (0, 0) rfl ⟨by decide, by decide⟩ (by omega) ?_
    intro v30 ho hb hl
    have F30 := Lib.hid (ho.mono S29.out)
    have B30 := Lib.hid (B29.out.trans (hb.mono S29.out))
    have S30 := Lib.hid (Nat.le_trans S29.out (Nat.le_of_lt hl))
    have T30 := Lib.hid hl
    have G30 := Lib.hid S29.out
    have F30_c := Lib.hid (F29.out.below hb)
    have T30_c := Lib.hid (Nat.lt_trans T29.out hl)
    have N30_c := Lib.hid (Nat.ne_of_lt T29.out)
    have F30_l := Lib.hid (F29_l.out.below hb)
    have T30_l := Lib.hid (Nat.lt_trans T29_l.out hl)
    have N30_l := Lib.hid (Nat.ne_of_lt T29_l.out)
    have F30_D := Lib.hid (F29_D.out.below hb)
    have T30_D := Lib.hid (Nat.lt_trans T29_D.out hl)
    have N30_D := Lib.hid (Nat.ne_of_lt T29_D.out)
    clear hb hl ho B29 S29 F29 T29 F29_l T29_l F29_D T29_D
    generalize v29.heap.size = g_t at *
    refine hK.out _ _ trivial (fun hHeld => ?_)
    clear hK K hHeld
    (try simp only [Act.put, List.setIfInBounds_toArray, List.set_cons_zero, List.set_cons_succ])
    have hHeld : True := trivial
    refine wpAnyH_take (i := 6) (oi := ⟨some 31, _, _, _, _, _⟩) (v := ?_) rfl (by kernel_rfl) (by kernel_rfl) (by kernel_rfl) (fun _ _ _ h => h) (Or.inl ⟨by kernel_rfl, ?_⟩) (by assumption) ?_
    rotate_left 1
    ·((intro w hSw; (try dsimp only at hSw); go_simp) <;> (try with_reducible rfl))
    (try simp only [Act.put, List.setIfInBounds_toArray, List.set_cons_zero, List.set_cons_succ])
    clear hHeld
    refine wpAnyH_ready (rs := [8]) (by kernel_rfl) (by simp) ?_
    refine AllReadyH.cons (o := ⟨none, _, _, _, _, _⟩) rfl (fun K hK => ?_) AllReadyH.nil
    obtain ⟨s0, s1, s2, s3, s4, s5, y0, y1, y2, y3, y4, y5, sl⟩ := F30_D.out
    go_simp
    clear s0 s1 s2 s3 s4 s5 y0 y1 y2 y3 y4 y5 sl
    have XD := Lib.hid (F30_D.out.set (.slice (some ⟨g_c, 0, none⟩) 0 WN) (.slice (some ⟨g_l, 0, none⟩) WN WN) (.slice (some ⟨g_t, 0, none⟩) TN TN) (.int .i64 0) (.int .i64 0) (.int .i64 0))
    have XB := Lib.hid (below_set6 B30.out G28.out (.slice (some ⟨g_c, 0, none⟩) 0 WN) (.slice (some ⟨g_l, 0, none⟩) WN WN) (.slice (some ⟨g_t, 0, none⟩) TN TN) (.int .i64 0) (.int .i64 0) (.int .i64 0))
    have Xc := Lib.hid (F30_c.out.far6 (D := g_D) (fun k hk => by cases hk; exact N29_D.out.symm) (.slice (some ⟨g_c, 0, none⟩) 0 WN) (.slice (some ⟨g_l, 0, none⟩) WN WN) (.slice (some ⟨g_t, 0, none⟩) TN TN) (.int .i64 0) (.int .i64 0) (.int .i64 0))
    have Xl := Lib.hid (F30_l.out.far6 (D := g_D) (fun k hk => by cases hk; exact N28_l.out) (.slice (some ⟨g_c, 0, none⟩) 0 WN) (.slice (some ⟨g_l, 0, none⟩) WN WN) (.slice (some ⟨g_t, 0, none⟩) TN TN) (.int .i64 0) (.int .i64 0) (.int .i64 0))
    have Xt := Lib.hid (F30.out.far6 (D := g_D) (fun k hk => by cases hk; exact N30_D.out.symm) (.slice (some ⟨g_c, 0, none⟩) 0 WN) (.slice (some ⟨g_l, 0, none⟩) WN WN) (.slice (some ⟨g_t, 0, none⟩) TN TN) (.int .i64 0) (.int .i64 0) (.int .i64 0))
    have XN0 := Lib.hid (show g_c ≠ g_l from N29_l.out.symm)
    have XN1 := Lib.hid (show g_c ≠ g_t from N30_c.out)
    have XN2 := Lib.hid (show g_l ≠ g_t from N30_l.out)
    have XMc := Lib.hid (show g_c ≠ g_D from N29_D.out.symm)
    have XMl := Lib.hid (show g_l ≠ g_D from N28_l.out)
    have XMt := Lib.hid (show g_t ≠ g_D from N30_D.out.symm)
    have XGc := Lib.hid G29.out
    have XGl := Lib.hid G17.out
    have XGt := Lib.hid G30.out
    have XGD := Lib.hid G28.out
    refine hK.out _ _ trivial (fun hHeld => ?_)
    clear hK K hHeld
    (try simp only [Act.put, List.setIfInBounds_toArray, List.set_cons_zero, List.set_cons_succ])
    refine wpAnyH_done (by kernel_rfl) ?_ _
    clear B30 F30 F30_D F30_c F30_l G17 G28 G29 G30 N28_l N29_D N29_l N30_D N30_c N30_l S30 T30 T30_D T30_c T30_l
    generalize (((((v30.setCell ⟨g_D, 0, none⟩ (.slice (some ⟨g_c, 0, none⟩) 0 WN)).setCell ⟨g_D, 1, none⟩ (.slice (some ⟨g_l, 0, none⟩) WN WN)).setCell ⟨g_D, 2, none⟩ (.slice (some ⟨g_t, 0, none⟩) TN TN)).setCell ⟨g_D, 3, none⟩ (.int .i64 0)).setCell ⟨g_D, 4, none⟩ (.int .i64 0)).setCell ⟨g_D, 5, none⟩ (.int .i64 0) = vx at *
    go_wp2_with fail
    go_meet
    exact ⟨g_D, g_c, g_l, g_t, rfl, XB, Xc, Xl, Xt, XD, Lib.hid ⟨XN0.out, XN1.out, XN2.out, XMc.out, XMl.out, XMt.out, XGD.out, XGc.out, XGl.out, XGt.out⟩⟩
   refine AllReadyH.cons (o := ⟨some 30, _, _, _, _, _⟩) rfl (fun K hK => ?_) AllReadyH.nil
   refine Lk.wp_made (K := KT) v28 _ _ rfl rfl _ _ TN TN _ _ rfl rfl rfl rfl (.inl rfl) (0, 0) rfl ⟨by decide, by decide⟩ (by omega) ?_
   intro v31 ho hb hl
   have F31 := Lib.hid (ho.mono S28.out)
   have B31 := Lib.hid (B28.out.trans (hb.mono S28.out))
   have S31 := Lib.hid (Nat.le_trans S28.out (Nat.le_of_lt hl))
   have T31 := Lib.hid hl
   have G31 := Lib.hid S28.out
   have F31_l := Lib.hid (F28_l.out.below hb)
   have T31_l := Lib.hid (Nat.lt_trans T28_l.out hl)
   have N31_l := Lib.hid (Nat.ne_of_lt T28_l.out)
   have F31_D := Lib.hid (F28.out.below hb)
   have T31_D := Lib.hid (Nat.lt_trans T28.out hl)
   have N31_D := Lib.hid (Nat.ne_of_lt T28.out)
   clear hb hl ho B28 S28 F28_l T28_l F28 T28
   generalize v28.heap.size = g_t at *
   refine hK.out _ _ trivial (fun hHeld => ?_)
   clear hK K hHeld
   (try simp only [Act.put, List.setIfInBounds_toArray, List.set_cons_zero, List.set_cons_succ])
   refine wpAnyH_ready (rs := [1]) (by kernel_rfl) (by simp) ?_
   refine AllReadyH.cons (o := ⟨some 26, _, _, _, _, _⟩) rfl (fun K hK => ?_) AllReadyH.nil
   refine Lk.wp_made (K := KE) v31 _ _ rfl rfl _ _ 0 WN _ _ rfl rfl rfl rfl (.inr rfl) ce0 rfl ⟨by decide, by decide, by decide⟩ (by omega) ?_
   intro v32 ho hb hl
   have F32 := Lib.hid (ho.mono S31.out)
   have B32 := Lib.hid (B31.out.trans (hb.mono S31.out))
   have S32 := Lib.hid (Nat.le_trans S31.out (Nat.le_of_lt hl))
   have T32 := Lib.hid hl
   have G32 := Lib.hid S31.out
   have F32_l := Lib.hid (F31_l.out.below hb)
   have T32_l := Lib.hid (Nat.lt_trans T31_l.out hl)
   have N32_l := Lib.hid (Nat.ne_of_lt T31_l.out)
   have F32_t := Lib.hid (F31.out.below hb)
   have T32_t := Lib.hid (Nat.lt_trans T31.out hl)
   have N32_t := Lib.hid (Nat.ne_of_lt T31.out)
   have F32_D := Lib.hid (F31_D.out.below hb)
   have T32_D := Lib.hid (Nat.lt_trans T31_D.out hl)
   have N32_D := Lib.hid (Nat.ne_of_lt T31_D.out)
   clear hb hl ho B31 S31 F31_l T31_l F31 T31 F31_D T31_D
   generalize v31.heap.size = g_c at *
   refine hK.out _ _ trivial (fun hHeld => ?_)
   clear hK K hHeld
   (try simp only [Act.put, List.setIfInBounds_toArray, List.set_cons_zero, List.set_cons_succ])
   have hHeld : True := trivial
   refine wpAnyH_take (i := 6) (oi := ⟨some 31, _, _, _, _, _⟩) (v := ?_) rfl (by kernel_rfl) (by kernel_rfl) (by kernel_rfl) (fun _ _ _ h => h) (Or.inl ⟨by kernel_rfl, ?_⟩) (by assumption) ?_
   rotate_left 1
   ·((intro w hSw; (try dsimp only at hSw); go_simp) <;> (try with_reducible rfl))
   (try simp only [Act.put, List.setIfInBounds_toArray, List.set_cons_zero, List.set_cons_succ])
   clear hHeld
   refine wpAnyH_ready (rs := [8]) (by kernel_rfl) (by simp) ?_
   refine AllReadyH.cons (o := ⟨none, _, _, _, _, _⟩) rfl (fun K hK => ?_) AllReadyH.nil
   obtain ⟨s0, s1, s2, s3, s4, s5, y0, y1, y2, y3, y4, y5, sl⟩ := F32_D.out
   go_simp
   clear s0 s1 s2 s3 s4 s5 y0 y1 y2 y3 y4 y5 sl
   have XD := Lib.hid (F32_D.out.set (.slice (some ⟨g_c, 0, none⟩) 0 WN) (.slice (some ⟨g_l, 0, none⟩) WN WN) (.slice (some ⟨g_t, 0, none⟩) TN TN) (.int .i64 0) (.int .i64 0) (.int .i64 0))
   have XB := Lib.hid (below_set6 B32.out G28.out (.slice (some ⟨g_c, 0, none⟩) 0 WN) (.slice (some ⟨g_l, 0, none⟩) WN WN) (.slice (some ⟨g_t, 0, none⟩) TN TN) (.int .i64 0) (.int .i64 0) (.int .i64 0))
   have Xc := Lib.hid (F32.out.far6 (D := g_D) (fun k hk => by cases hk; exact N32_D.out.symm) (.slice (some ⟨g_c, 0, none⟩) 0 WN) (.slice (some ⟨g_l, 0, none⟩) WN WN) (.slice (some ⟨g_t, 0, none⟩) TN TN) (.int .i64 0) (.int .i64 0) (.int .i64 0))
   have Xl := Lib.hid (F32_l.out.far6 (D := g_D) (fun k hk => by cases hk; exact N28_l.out) (.slice (some ⟨g_c, 0, none⟩) 0 WN) (.slice (some ⟨g_l, 0, none⟩) WN WN) (.slice (some ⟨g_t, 0, none⟩) TN TN) (.int .i64 0) (.int .i64 0) (.int .i64 0))
   have Xt := Lib.hid (F32_t.out.far6 (D := g_D) (fun k hk => by cases hk; exact N31_D.out.symm) (.slice (some ⟨g_c, 0, none⟩) 0 WN) (.slice (some ⟨g_l, 0, none⟩) WN WN) (.slice (some ⟨g_t, 0, none⟩) TN TN) (.int .i64 0) (.int .i64 0) (.int .i64 0))
   have XN0 := Lib.hid (show g_c ≠ g_l from N32_l.out.symm)
   have XN1 := Lib.hid (show g_c ≠ g_t from N32_t.out.symm)
   have XN2 := Lib.hid (show g_l ≠ g_t from N31_l.out)
   have XMc := Lib.hid (show g_c ≠ g_D from N32_D.out.symm)
   have XMl := Lib.hid (show g_l ≠ g_D from N28_l.out)
   have XMt := Lib.hid (show g_t ≠ g_D from N31_D.out.symm)
   have XGc := Lib.hid G32.out
   have XGl := Lib.hid G17.out
   have XGt := Lib.hid G31.out
   have XGD := Lib.hid G28.out
   refine hK.out _ _ trivial (fun hHeld => ?_)
   clear hK K hHeld
   (try simp only [Act.put, List.setIfInBounds_toArray, List.set_cons_zero, List.set_cons_succ])
   refine wpAnyH_done (by kernel_rfl) ?_ _
   clear B32 F32 F32_D F32_l F32_t G17 G28 G31 G32 N28_l N31_D N31_l N32_D N32_l N32_t S32 T32 T32_D T32_l T32_t
   generalize (((((v32.setCell ⟨g_D, 0, none⟩ (.slice (some ⟨g_c, 0, none⟩) 0 WN)).setCell ⟨g_D, 1, none⟩ (.slice (some ⟨g_l, 0, none⟩) WN WN)).setCell ⟨g_D, 2, none⟩ (.slice (some ⟨g_t, 0, none⟩) TN TN)).setCell ⟨g_D, 3, none⟩ (.int .i64 0)).setCell ⟨g_D, 4, none⟩ (.int .i64 0)).setCell ⟨g_D, 5, none⟩ (.int .i64 0) = vx at *
   go_wp2_with fail
   go_meet
   exact ⟨g_D, g_c, g_l, g_t, rfl, XB, Xc, Xl, Xt, XD, Lib.hid ⟨XN0.out, XN1.out, XN2.out, XMc.out, XMl.out, XMt.out, XGD.out, XGc.out, XGl.out, XGt.out⟩⟩
  refine AllReadyH.cons (o := ⟨some 30, _, _, _, _, _⟩) rfl (fun K hK => ?_) ?_
  ·refine Lk.wp_made (K := KT) v0 _ _ rfl rfl _ _ TN TN _ _ rfl rfl rfl rfl (.inl rfl) (0, 0) rfl ⟨by decide, by decide⟩ (by omega) ?_
   intro v33 ho hb hl
   have F33 := Lib.hid (ho.mono S0.out)
   have B33 := Lib.hid (B0.out.trans (hb.mono S0.out))
   have S33 := Lib.hid (Nat.le_trans S0.out (Nat.le_of_lt hl))
   have T33 := Lib.hid hl
   have G33 := Lib.hid S0.out
   clear hb hl ho B0 S0
   generalize v0.heap.size = g_t at *
   refine hK.out _ _ trivial (fun hHeld => ?_)
   clear hK K hHeld
   (try simp only [Act.put, List.setIfInBounds_toArray, List.set_cons_zero, List.set_cons_succ])
   refine wpAnyH_ready (rs := [1, 3, 7]) (by kernel_rfl) (by simp) ?_
   refine AllReadyH.cons (o := ⟨some 26, _, _, _, _, _⟩) rfl (fun K hK => ?_) ?_
   ·refine Lk.wp_made (K := KE) v33 _ _ rfl rfl _ _ 0 WN _ _ rfl rfl rfl rfl (.inr rfl) ce0 rfl ⟨by decide, by decide, by decide⟩ (by omega) ?_
    intro v34 ho hb hl
    have F34 := Lib.hid (ho.mono S33.out)
    have B34 := Lib.hid (B33.out.trans (hb.mono S33.out))
    have S34 := Lib.hid (Nat.le_trans S33.out (Nat.le_of_lt hl))
    have T34 := Lib.hid hl
    have G34 := Lib.hid S33.out
    have F34_t := Lib.hid (F33.out.below hb)
    have T34_t := Lib.hid (Nat.lt_trans T33.out hl)
    have N34_t := Lib.hid (Nat.ne_of_lt T33.out)
    clear hb hl ho B33 S33 F33 T33
    generalize v33.heap.size = g_c at *
    refine hK.out _ _ trivial (fun hHeld => ?_)
    clear hK K hHeld
    (try simp only [Act.put, List.setIfInBounds_toArray, List.set_cons_zero, List.set_cons_succ])
    refine wpAnyH_ready (rs := [3, 7]) (by kernel_rfl) (by simp) ?_
    refine AllReadyH.cons (o := ⟨some 28, _, _, _, _, _⟩) rfl (fun K hK => ?_) ?_
    ·refine Lk.wp_made (K := KL) v34 _ _ rfl rfl _ _ WN WN _ _ rfl rfl rfl rfl (.inl rfl) lo0 rfl ⟨by decide, by decide⟩ (by omega) ?_
     intro v35 ho hb hl
     have F35 := Lib.hid (ho.mono S34.out)
     have B35 := Lib.hid (B34.out.trans (hb.mono S34.out))
     have S35 := Lib.hid (Nat.le_trans S34.out (Nat.le_of_lt hl))
     have T35 := Lib.hid hl
     have G35 := Lib.hid S34.out
     have F35_c := Lib.hid (F34.out.below hb)
     have T35_c := Lib.hid (Nat.lt_trans T34.out hl)
     have N35_c := Lib.hid (Nat.ne_of_lt T34.out)
     have F35_t := Lib.hid (F34_t.out.below hb)
     have T35_t := Lib.hid (Nat.lt_trans T34_t.out hl)
     have N35_t := Lib.hid (Nat.ne_of_lt T34_t.out)
     clear hb hl ho B34 S34 F34 T34 F34_t T34_t
     generalize v34.heap.size = g_l at *
     refine hK.out _ _ trivial (fun hHeld => ?_)
     clear hK K hHeld
     (try simp only [Act.put, List.setIfInBounds_toArray, List.set_cons_zero, List.set_cons_succ])
     have hHeld : True := trivial
     refine wpAnyH_take (i := 6) (oi := ⟨some 31, _, _, _, _, _⟩) (v := ?_) rfl (by kernel_rfl) (by kernel_rfl) (by kernel_rfl) (fun _ _ _ h => h) (Or.inl ⟨by kernel_rfl, ?_⟩) (by assumption) ?_
     rotate_left 1
     ·((intro w hSw; (try dsimp only at hSw); go_simp) <;> (try with_reducible rfl))
     (try simp only [Act.put, List.setIfInBounds_toArray, List.set_cons_zero, List.set_cons_succ])
     clear hHeld
     refine wpAnyH_ready (rs := [7]) (by kernel_rfl) (by simp) ?_
     refine AllReadyH.cons (o := ⟨some 8, _, _, _, _, _⟩) rfl (fun K hK => ?_) AllReadyH.nil
     go_simp
     have hb := Below.al (Below.refl _ v35) (.cells #[.slice none 0 0, .slice none 0 0, .slice none 0 0, .int .i64 0, .int .i64 0, .int .i64 0] 33)
     have hl : v35.heap.size < (v35.alloc (.cells #[.slice none 0 0, .slice none 0 0, .slice none 0 0, .int .i64 0, .int .i64 0, .int .i64 0] 33)).heap.size := by simp
     have F36 := Lib.hid (Cells6.new v35 33 (.slice none 0 0) (.slice none 0 0) (.slice none 0 0) (.int .i64 0) (.int .i64 0) (.int .i64 0))
     have B36 := Lib.hid (B35.out.trans (hb.mono S35.out))
     have S36 := Lib.hid (Nat.le_trans S35.out (Nat.le_of_lt hl))
     have T36 := Lib.hid hl
     have G36 := Lib.hid S35.out
     have F36_c := Lib.hid (F35_c.out.below hb)
     have T36_c := Lib.hid (Nat.lt_trans T35_c.out hl)
     have N36_c := Lib.hid (Nat.ne_of_lt T35_c.out)
     have F36_l := Lib.hid (F35.out.below hb)
     have T36_l := Lib.hid (Nat.lt_trans T35.out hl)
     have N36_l := Lib.hid (Nat.ne_of_lt T35.out)
     have F36_t := Lib.hid (F35_t.out.below hb)
     have T36_t := Lib.hid (Nat.lt_trans T35_t.out hl)
     have N36_t := Lib.hid (Nat.ne_of_lt T35_t.out)
     clear hb hl B35 S35 F35_c T35_c F35 T35 F35_t T35_t
     generalize v35.alloc (.cells #[.slice none 0 0, .slice none 0 0, .slice none 0 0, .int .i64 0, .int .i64 0, .int .i64 0] 33) = v36 at *
     generalize v35.heap.size = g_D at *
     refine hK.out _ _ trivial (fun hHeld => ?_)
     clear hK K hHeld
     (try simp only [Act.put, List.setIfInBounds_toArray, List.set_cons_zero, List.set_cons_succ])
     refine wpAnyH_ready (rs := [8]) (by kernel_rfl) (by simp) ?_
     refine AllReadyH.cons (o := ⟨none, _, _, _, _, _⟩) rfl (fun K hK => ?_) AllReadyH.nil
     obtain ⟨s0, s1, s2, s3, s4, s5, y0, y1, y2, y3, y4, y5, sl⟩ := F36.out
     go_simp
     clear s0 s1 s2 s3 s4 s5 y0 y1 y2 y3 y4 y5 sl
     have XD := Lib.hid (F36.out.set (.slice (some ⟨g_c, 0, none⟩) 0 WN) (.slice (some ⟨g_l, 0, none⟩) WN WN) (.slice (some ⟨g_t, 0, none⟩) TN TN) (.int .i64 0) (.int .i64 0) (.int .i64 0))
     have XB := Lib.hid (below_set6 B36.out G36.out (.slice (some ⟨g_c, 0, none⟩) 0 WN) (.slice (some ⟨g_l, 0, none⟩) WN WN) (.slice (some ⟨g_t, 0, none⟩) TN TN) (.int .i64 0) (.int .i64 0) (.int .i64 0))
     have Xc := Lib.hid (F36_c.out.far6 (D := g_D) (fun k hk => by cases hk; exact N36_c.out) (.slice (some ⟨g_c, 0, none⟩) 0 WN) (.slice (some ⟨g_l, 0, none⟩) WN WN) (.slice (some ⟨g_t, 0, none⟩) TN TN) (.int .i64 0) (.int .i64 0) (.int .i64 0))
     have Xl := Lib.hid (F36_l.out.far6 (D := g_D) (fun k hk => by cases hk; exact N36_l.out) (.slice (some ⟨g_c, 0, none⟩) 0 WN) (.slice (some ⟨g_l, 0, none⟩) WN WN) (.slice (some ⟨g_t, 0, none⟩) TN TN) (.int .i64 0) (.int .i64 0) (.int .i64 0))
     have Xt := Lib.hid (F36_t.out.far6 (D := g_D) (fun k hk => by cases hk; exact N36_t.out) (.slice (some ⟨g_c, 0, none⟩) 0 WN) (.slice (some ⟨g_l, 0, none⟩) WN WN) (.slice (some ⟨g_t, 0, none⟩) TN TN) (.int .i64 0) (.int .i64 0) (.int .i64 0))
     have XN0 := Lib.hid (show g_c ≠ g_l from N35_c.out)
     have XN1 := Lib.hid (show g_c ≠ g_t from N34_t.out.symm)
     have XN2 := Lib.hid (show g_l ≠ g_t from N35_t.out.symm)
     have XMc := Lib.hid (show g_c ≠ g_D from N36_c.out)
     have XMl := Lib.hid (show g_l ≠ g_D from N36_l.out)
     have XMt := Lib.hid (show g_t ≠ g_D from N36_t.out)
     have XGc := Lib.hid G34.out
     have XGl := Lib.hid G35.out
     have XGt := Lib.hid G33.out
     have XGD := Lib.hid G36.out
     refine hK.out _ _ trivial (fun hHeld => ?_)
     clear hK K hHeld
     (try simp only [Act.put, List.setIfInBounds_toArray, List.set_cons_zero, List.set_cons_succ])
     refine wpAnyH_done (by kernel_rfl) ?_ _
     clear B36 F36 F36_c F36_l F36_t G33 G34 G35 G36 N34_t N35_c N35_t N36_c N36_l N36_t S36 T36 T36_c T36_l T36_t
     generalize (((((v36.setCell ⟨g_D, 0, none⟩ (.slice (some ⟨g_c, 0, none⟩) 0 WN)).setCell ⟨g_D, 1, none⟩ (.slice (some ⟨g_l, 0, none⟩) WN WN)).setCell ⟨g_D, 2, none⟩ (.slice (some ⟨g_t, 0, none⟩) TN TN)).setCell ⟨g_D, 3, none⟩ (.int .i64 0)).setCell ⟨g_D, 4, none⟩ (.int .i64 0)).setCell ⟨g_D, 5, none⟩ (.int .i64 0) = vx at *
     go_wp2_with fail
     go_meet
     exact ⟨g_D, g_c, g_l, g_t, rfl, XB, Xc, Xl, Xt, XD, Lib.hid ⟨XN0.out, XN1.out, XN2.out, XMc.out, XMl.out, XMt.out, XGD.out, XGc.out, XGl.out, XGt.out⟩⟩
    refine AllReadyH.cons (o := ⟨some 8, _, _, _, _, _⟩) rfl (fun K hK => ?_) AllReadyH.nil
    go_simp
    have hb := Below.al (Below.refl _ v34) (.cells #[.slice none 0 0, .slice none 0 0, .slice none 0 0, .int .i64 0, .int .i64 0, .int .i64 0] 33)
    have hl : v34.heap.size < (v34.alloc (.cells #[.slice none 0 0, .slice none 0 0, .slice none 0 0, .int .i64 0, .int .i64 0, .int .i64 0] 33)).heap.size := by simp
    have F37 := Lib.hid (Cells6.new v34 33 (.slice none 0 0) (.slice none 0 0) (.slice none 0 0) (.int .i64 0) (.int .i64 0) (.int .i64 0))
    have B37 := Lib.hid (B34.out.trans (hb.mono S34.out))
    have S37 := Lib.hid (Nat.le_trans S34.out (Nat.le_of_lt hl))
    have T37 := Lib.hid hl
    have G37 := Lib.hid S34.out
    have F37_c := Lib.hid (F34.out.below hb)
    have T37_c := Lib.hid (Nat.lt_trans T34.out hl)
    have N37_c := Lib.hid (Nat.ne_of_lt T34.out)
    have F37_t := Lib.hid (F34_t.out.below hb)
    have T37_t := Lib.hid (Nat.lt_trans T34_t.out hl)
    have N37_t := Lib.hid (Nat.ne_of_lt T34_t.out)
    clear hb hl B34 S34 F34 T34 F34_t T34_t
    generalize v34.alloc (.cells #[.slice none 0 0, .slice none 0 0, .slice none 0 0, .int .i64 0, .int .i64 0, .int .i64 0] 33) = v37 at *
    generalize v34.heap.size = g_D at *
    refine hK.out _ _ trivial (fun hHeld => ?_)
    clear hK K hHeld
    (try simp only [Act.put, List.setIfInBounds_toArray, List.set_cons_zero, List.set_cons_succ])
    refine wpAnyH_ready (rs := [3]) (by kernel_rfl) (by simp) ?_
    refine AllReadyH.cons (o := ⟨some 28, _, _, _, _, _⟩) rfl (fun K hK => ?_) AllReadyH.nil
    refine Lk.wp_made (K := KL) v37 _ _ rfl rfl _ _ WN WN _ _ rfl rfl rfl rfl (.inl rfl) lo0 rfl ⟨by decide, by decide⟩ (by omega) ?_
    intro v38 ho hb hl
    have F38 := Lib.hid (ho.mono S37.out)
    have B38 := Lib.hid (B37.out.trans (hb.mono S37.out))
    have S38 := Lib.hid (Nat.le_trans S37.out (Nat.le_of_lt hl))
    have T38 := Lib.hid hl
    have G38 := Lib.hid S37.out
    have F38_c := Lib.hid (F37_c.out.below hb)
    have T38_c := Lib.hid (Nat.lt_trans T37_c.out hl)
    have N38_c := Lib.hid (Nat.ne_of_lt T37_c.out)
    have F38_t := Lib.hid (F37_t.out.below hb)
    have T38_t := Lib.hid (Nat.lt_trans T37_t.out hl)
    have N38_t := Lib.hid (Nat.ne_of_lt T37_t.out)
    have F38_D := Lib.hid (F37.out.below hb)
    have T38_D := Lib.hid (Nat.lt_trans T37.out hl)
    have N38_D := Lib.hid (Nat.ne_of_lt T37.out)
    clear hb hl ho B37 S37 F37_c T37_c F37_t T37_t F37 T37
    generalize v37.heap.size = g_l at *
    refine hK.out _ _ trivial (fun hHeld => ?_)
    clear hK K hHeld
    (try simp only [Act.put, List.setIfInBounds_toArray, List.set_cons_zero, List.set_cons_succ])
    have hHeld : True := trivial
    refine wpAnyH_take (i := 6) (oi := ⟨some 31, _, _, _, _, _⟩) (v := ?_) rfl (by kernel_rfl) (by kernel_rfl) (by kernel_rfl) (fun _ _ _ h => h) (Or.inl ⟨by kernel_rfl, ?_⟩) (by assumption) ?_
    rotate_left 1
    ·((intro w hSw; (try dsimp only at hSw); go_simp) <;> (try with_reducible rfl))
    (try simp only [Act.put, List.setIfInBounds_toArray, List.set_cons_zero, List.set_cons_succ])
    clear hHeld
    refine wpAnyH_ready (rs := [8]) (by kernel_rfl) (by simp) ?_
    refine AllReadyH.cons (o := ⟨none, _, _, _, _, _⟩) rfl (fun K hK => ?_) AllReadyH.nil
    obtain ⟨s0, s1, s2, s3, s4, s5, y0, y1, y2, y3, y4, y5, sl⟩ := F38_D.out
    go_simp
    clear s0 s1 s2 s3 s4 s5 y0 y1 y2 y3 y4 y5 sl
    have XD := Lib.hid (F38_D.out.set (.slice (some ⟨g_c, 0, none⟩) 0 WN) (.slice (some ⟨g_l, 0, none⟩) WN WN) (.slice (some ⟨g_t, 0, none⟩) TN TN) (.int .i64 0) (.int .i64 0) (.int .i64 0))
    have XB := Lib.hid (below_set6 B38.out G37.out (.slice (some ⟨g_c, 0, none⟩) 0 WN) (.slice (some ⟨g_l, 0, none⟩) WN WN) (.slice (some ⟨g_t, 0, none⟩) TN TN) (.int .i64 0) (.int .i64 0) (.int .i64 0))
    have Xc := Lib.hid (F38_c.out.far6 (D := g_D) (fun k hk => by cases hk; exact N37_c.out) (.slice (some ⟨g_c, 0, none⟩) 0 WN) (.slice (some ⟨g_l, 0, none⟩) WN WN) (.slice (some ⟨g_t, 0, none⟩) TN TN) (.int .i64 0) (.int .i64 0) (.int .i64 0))
    have Xl := Lib.hid (F38.out.far6 (D := g_D) (fun k hk => by cases hk; exact N38_D.out.symm) (.slice (some ⟨g_c, 0, none⟩) 0 WN) (.slice (some ⟨g_l, 0, none⟩) WN WN) (.slice (some ⟨g_t, 0, none⟩) TN TN) (.int .i64 0) (.int .i64 0) (.int .i64 0))
    have Xt := Lib.hid (F38_t.out.far6 (D := g_D) (fun k hk => by cases hk; exact N37_t.out) (.slice (some ⟨g_c, 0, none⟩) 0 WN) (.slice (some ⟨g_l, 0, none⟩) WN WN) (.slice (some ⟨g_t, 0, none⟩) TN TN) (.int .i64 0) (.int .i64 0) (.int .i64 0))
    have XN0 := Lib.hid (show g_c ≠ g_l from N38_c.out)
    have XN1 := Lib.hid (show g_c ≠ g_t from N34_t.out.symm)
    have XN2 := Lib.hid (show g_l ≠ g_t from N38_t.out.symm)
    have XMc := Lib.hid (show g_c ≠ g_D from N37_c.out)
    have XMl := Lib.hid (show g_l ≠ g_D from N38_D.out.symm)
    have XMt := Lib.hid (show g_t ≠ g_D from N37_t.out)
    have XGc := Lib.hid G34.out
    have XGl := Lib.hid G38.out
    have XGt := Lib.hid G33.out
    have XGD := Lib.hid G37.out
    refine hK.out _ _ trivial (fun hHeld => ?_)
    clear hK K hHeld
    (try simp only [Act.put, List.setIfInBounds_toArray, List.set_cons_zero, List.set_cons_succ])
    refine wpAnyH_done (by kernel_rfl) ?_ _
    clear B38 F38 F38_D F38_c F38_t G33 G34 G37 G38 N34_t N37_c N37_t N38_D N38_c N38_t S38 T38 T38_D T38_c T38_t
    generalize (((((v38.setCell ⟨g_D, 0, none⟩ (.slice (some ⟨g_c, 0, none⟩) 0 WN)).setCell ⟨g_D, 1, none⟩ (.slice (some ⟨g_l, 0, none⟩) WN WN)).setCell ⟨g_D, 2, none⟩ (.slice (some ⟨g_t, 0, none⟩) TN TN)).setCell ⟨g_D, 3, none⟩ (.int .i64 0)).setCell ⟨g_D, 4, none⟩ (.int .i64 0)).setCell ⟨g_D, 5, none⟩ (.int .i64 0) = vx at *
    go_wp2_with fail
    go_meet
    exact ⟨g_D, g_c, g_l, g_t, rfl, XB, Xc, Xl, Xt, XD, Lib.hid ⟨XN0.out, XN1.out, XN2.out, XMc.out, XMl.out, XMt.out, XGD.out, XGc.out, XGl.out, XGt.out⟩⟩
   refine AllReadyH.cons (o := ⟨some 28, _, _, _, _, _⟩) rfl (fun K hK => ?_) ?_
   ·refine Lk.wp_made (K := KL) v33 _ _ rfl rfl _ _ WN WN _ _ rfl rfl rfl rfl (.inl rfl) lo0 rfl ⟨by decide, by decide⟩ (by omega) ?_
    intro v39 ho hb hl
    have F39 := Lib.hid (ho.mono S33.out)
    have B39 := Lib.hid (B33.out.trans (hb.mono S33.out))
    have S39 := Lib.hid (Nat.le_trans S33.out (Nat.le_of_lt hl))
    have T39 := Lib.hid hl
    have G39 := Lib.hid S33.out
    have F39_t := Lib.hid (F33.out.below hb)
    have T39_t := Lib.hid (Nat.lt_trans T33.out hl)
    have N39_t := Lib.hid (Nat.ne_of_lt T33.out)
    clear hb hl ho B33 S33 F33 T33
    generalize v33.heap.size = g_l at *
    refine hK.out _ _ trivial (fun hHeld => ?_)
    clear hK K hHeld
    (try simp only [Act.put, List.setIfInBounds_toArray, List.set_cons_zero, List.set_cons_succ])
    refine wpAnyH_ready (rs := [1, 7]) (by kernel_rfl) (by simp) ?_
    refine AllReadyH.cons (o := ⟨some 26, _, _, _, _, _⟩) rfl (fun K hK => ?_) ?_
    ·refine Lk.wp_made (K := KE) v39 _ _ rfl rfl _ _ 0 WN _ _ rfl rfl rfl rfl (.inr rfl) ce0 rfl ⟨by decide, by decide, by decide⟩ (by omega) ?_
     intro v40 ho hb hl
     have F40 := Lib.hid (ho.mono S39.out)
     have B40 := Lib.hid (B39.out.trans (hb.mono S39.out))
     have S40 := Lib.hid (Nat.le_trans S39.out (Nat.le_of_lt hl))
     have T40 := Lib.hid hl
     have G40 := Lib.hid S39.out
     have F40_l := Lib.hid (F39.out.below hb)
     have T40_l := Lib.hid (Nat.lt_trans T39.out hl)
     have N40_l := Lib.hid (Nat.ne_of_lt T39.out)
     have F40_t := Lib.hid (F39_t.out.below hb)
     have T40_t := Lib.hid (Nat.lt_trans T39_t.out hl)
     have N40_t := Lib.hid (Nat.ne_of_lt T39_t.out)
     clear hb hl ho B39 S39 F39 T39 F39_t T39_t
     generalize v39.heap.size = g_c at *
     refine hK.out _ _ trivial (fun hHeld => ?_)
     clear hK K hHeld
     (try simp only [Act.put, List.setIfInBounds_toArray, List.set_cons_zero, List.set_cons_succ])
     have hHeld : True := trivial
     refine wpAnyH_take (i := 6) (oi := ⟨some 31, _, _, _, _, _⟩) (v := ?_) rfl (by kernel_rfl) (by kernel_rfl) (by kernel_rfl) (fun _ _ _ h => h) (Or.inl ⟨by kernel_rfl, ?_⟩) (by assumption) ?_
     rotate_left 1
     ·((intro w hSw; (try dsimp only at hSw); go_simp) <;> (try with_reducible rfl))
     (try simp only [Act.put, List.setIfInBounds_toArray, List.set_cons_zero, List.set_cons_succ])
     clear hHeld
     refine wpAnyH_ready (rs := [7]) (by kernel_rfl) (by simp) ?_
     refine AllReadyH.cons (o := ⟨some 8, _, _, _, _, _⟩) rfl (fun K hK => ?_) AllReadyH.nil
     go_simp
     have hb := Below.al (Below.refl _ v40) (.cells #[.slice none 0 0, .slice none 0 0, .slice none 0 0, .int .i64 0, .int .i64 0, .int .i64 0] 33)
     have hl : v40.heap.size < (v40.alloc (.cells #[.slice none 0 0, .slice none 0 0, .slice none 0 0, .int .i64 0, .int .i64 0, .int .i64 0] 33)).heap.size := by simp
     have F41 := Lib.hid (Cells6.new v40 33 (.slice none 0 0) (.slice none 0 0) (.slice none 0 0) (.int .i64 0) (.int .i64 0) (.int .i64 0))
     have B41 := Lib.hid (B40.out.trans (hb.mono S40.out))
     have S41 := Lib.hid (Nat.le_trans S40.out (Nat.le_of_lt hl))
     have T41 := Lib.hid hl
     have G41 := Lib.hid S40.out
     have F41_c := Lib.hid (F40.out.below hb)
     have T41_c := Lib.hid (Nat.lt_trans T40.out hl)
     have N41_c := Lib.hid (Nat.ne_of_lt T40.out)
     have F41_l := Lib.hid (F40_l.out.below hb)
     have T41_l := Lib.hid (Nat.lt_trans T40_l.out hl)
     have N41_l := Lib.hid (Nat.ne_of_lt T40_l.out)
     have F41_t := Lib.hid (F40_t.out.below hb)
     have T41_t := Lib.hid (Nat.lt_trans T40_t.out hl)
     have N41_t := Lib.hid (Nat.ne_of_lt T40_t.out)
     clear hb hl B40 S40 F40 T40 F40_l T40_l F40_t T40_t
     generalize v40.alloc (.cells #[.slice none 0 0, .slice none 0 0, .slice none 0 0, .int .i64 0, .int .i64 0, .int .i64 0] 33) = v41 at *
     generalize v40.heap.size = g_D at *
     refine hK.out _ _ trivial (fun hHeld => ?_)
     clear hK K hHeld
     (try simp only [Act.put, List.setIfInBounds_toArray, List.set_cons_zero, List.set_cons_succ])
     refine wpAnyH_ready (rs := [8]) (by kernel_rfl) (by simp) ?_
     refine AllReadyH.cons (o := ⟨none, _, _, _, _, _⟩) rfl (fun K hK => ?_) AllReadyH.nil
     obtain ⟨s0, s1, s2, s3, s4, s5, y0, y1, y2, y3, y4, y5, sl⟩ := F41.out
     go_simp
     clear s0 s1 s2 s3 s4 s5 y0 y1 y2 y3 y4 y5 sl
     have XD := Lib.hid (F41.out.set (.slice (some ⟨g_c, 0, none⟩) 0 WN) (.slice (some ⟨g_l, 0, none⟩) WN WN) (.slice (some ⟨g_t, 0, none⟩) TN TN) (.int .i64 0) (.int .i64 0) (.int .i64 0))
     have XB := Lib.hid (below_set6 B41.out G41.out (.slice (some ⟨g_c, 0, none⟩) 0 WN) (.slice (some ⟨g_l, 0, none⟩) WN WN) (.slice (some ⟨g_t, 0, none⟩) TN TN) (.int .i64 0) (.int .i64 0) (.int .i64 0))
     have Xc := Lib.hid (F41_c.out.far6 (D := g_D) (fun k hk => by cases hk; exact N41_c.out) (.slice (some ⟨g_c, 0, none⟩) 0 WN) (.slice (some ⟨g_l, 0, none⟩) WN WN) (.slice (some ⟨g_t, 0, none⟩) TN TN) (.int .i64 0) (.int .i64 0) (.int .i64 0))
     have Xl := Lib.hid (F41_l.out.far6 (D := g_D) (fun k hk => by cases hk; exact N41_l.out) (.slice (some ⟨g_c, 0, none⟩) 0 WN) (.slice (some ⟨g_l, 0, none⟩) WN WN) (.slice (some ⟨g_t, 0, none⟩) TN TN) (.int .i64 0) (.int .i64 0) (.int .i64 0))
     have Xt := Lib.hid (F41_t.out.far6 (D := g_D) (fun k hk => by cases hk; exact N41_t.out) (.slice (some ⟨g_c, 0, none⟩) 0 WN) (.slice (some ⟨g_l, 0, none⟩) WN WN) (.slice (some ⟨g_t, 0, none⟩) TN TN) (.int .i64 0) (.int .i64 0) (.int .i64 0))
     have XN0 := Lib.hid (show g_c ≠ g_l from N40_l.out.symm)
     have XN1 := Lib.hid (show g_c ≠ g_t from N40_t.out.symm)
     have XN2 := Lib.hid (show g_l ≠ g_t from N39_t.out.symm)
     have XMc := Lib.hid (show g_c ≠ g_D from N41_c.out)
     have XMl := Lib.hid (show g_l ≠ g_D from N41_l.out)
     have XMt := Lib.hid (show g_t ≠ g_D from N41_t.out)
     have XGc := Lib.hid G40.out
     have XGl := Lib.hid G39.out
     have XGt := Lib.hid G33.out
     have XGD := Lib.hid G41.out
     refine hK.out _ _ trivial (fun hHeld => ?_)
     clear hK K hHeld
     (try simp only [Act.put, List.setIfInBounds_toArray, List.set_cons_zero, List.set_cons_succ])
     refine wpAnyH_done (by kernel_rfl) ?_ _
     clear B41 F41 F41_c F41_l F41_t G33 G39 G40 G41 N39_t N40_l N40_t N41_c N41_l N41_t S41 T41 T41_c T41_l T41_t
     generalize (((((v41.setCell ⟨g_D, 0, none⟩ (.slice (some ⟨g_c, 0, none⟩) 0 WN)).setCell ⟨g_D, 1, none⟩ (.slice (some ⟨g_l, 0, none⟩) WN WN)).setCell ⟨g_D, 2, none⟩ (.slice (some ⟨g_t, 0, none⟩) TN TN)).setCell ⟨g_D, 3, none⟩ (.int .i64 0)).setCell ⟨g_D, 4, none⟩ (.int .i64 0)).setCell ⟨g_D, 5, none⟩ (.int .i64 0) = vx at *
     go_wp2_with fail
     go_meet
     exact ⟨g_D, g_c, g_l, g_t, rfl, XB, Xc, Xl, Xt, XD, Lib.hid ⟨XN0.out, XN1.out, XN2.out, XMc.out, XMl.out, XMt.out, XGD.out, XGc.out, XGl.out, XGt.out⟩⟩
    refine AllReadyH.cons (o := ⟨some 8, _, _, _, _, _⟩) rfl (fun K hK => ?_) AllReadyH.nil
    go_simp
    have hb := Below.al (Below.refl _ v39) (.cells #[.slice none 0 0, .slice none 0 0, .slice none 0 0, .int .i64 0, .int .i64 0, .int .i64 0] 33)
    have hl : v39.heap.size < (v39.alloc (.cells #[.slice none 0 0, .slice none 0 0, .slice none 0 0, .int .i64 0, .int .i64 0, .int .i64 0] 33)).heap.size := by simp
    have F42 := Lib.hid (Cells6.new v39 33 (.slice none 0 0) (.slice none 0 0) (.slice none 0 0) (.int .i64 0) (.int .i64 0) (.int .i64 0))
    have B42 := Lib.hid (B39.out.trans (hb.mono S39.out))
    have S42 := Lib.hid (Nat.le_trans S39.out (Nat.le_of_lt hl))
    have T42 := Lib.hid hl
    have G42 := Lib.hid S39.out
    have F42_l := Lib.hid (F39.out.below hb)
    have T42_l := Lib.hid (Nat.lt_trans T39.out hl)
    have N42_l := Lib.hid (Nat.ne_of_lt T39.out)
    have F42_t := Lib.hid (F39_t.out.below hb)
    have T42_t := Lib.hid (Nat.lt_trans T39_t.out hl)
    have N42_t := Lib.hid (Nat.ne_of_lt T39_t.out)
    clear hb hl B39 S39 F39 T39 F39_t T39_t
    generalize v39.alloc (.cells #[.slice none 0 0, .slice none 0 0, .slice none 0 0, .int .i64 0, .int .i64 0, .int .i64 0] 33) = v42 at *
    generalize v39.heap.size = g_D at *
    refine hK.out _ _ trivial (fun hHeld => ?_)
    clear hK K hHeld
    (try simp only [Act.put, List.setIfInBounds_toArray, List.set_cons_zero, List.set_cons_succ])
    refine wpAnyH_ready (rs := [1]) (by kernel_rfl) (by simp) ?_
    refine AllReadyH.cons (o := ⟨some 26, _, _, _, _, _⟩) rfl (fun K hK => ?_) AllReadyH.nil
    refine Lk.wp_made (K := KE) v42 _ _ rfl rfl _ _ 0 WN _ _ rfl rfl rfl rfl (.inr rfl) ce0 rfl ⟨by decide, by decide, by decide⟩ (by omega) ?_
    intro v43 ho hb hl
    have F43 := Lib.hid (ho.mono S42.out)
    have B43 := Lib.hid (B42.out.trans (hb.mono S42.out))
    have S43 := Lib.hid (Nat.le_trans S42.out (Nat.le_of_lt hl))
    have T43 := Lib.hid hl
    have G43 := Lib.hid S42.out
    have F43_l := Lib.hid (F42_l.out.below hb)
    have T43_l := Lib.hid (Nat.lt_trans T42_l.out hl)
    have N43_l := Lib.hid (Nat.ne_of_lt T42_l.out)
    have F43_t := Lib.hid (F42_t.out.below hb)
    have T43_t := Lib.hid (Nat.lt_trans T42_t.out hl)
    have N43_t := Lib.hid (Nat.ne_of_lt T42_t.out)
    have F43_D := Lib.hid (F42.out.below hb)
    have T43_D := Lib.hid (Nat.lt_trans T42.out hl)
    have N43_D := Lib.hid (Nat.ne_of_lt T42.out)
    clear hb hl ho B42 S42 F42_l T42_l F42_t T42_t F42 T42
    generalize v42.heap.size = g_c at *
    refine hK.out _ _ trivial (fun hHeld => ?_)
    clear hK K hHeld
    (try simp only [Act.put, List.setIfInBounds_toArray, List.set_cons_zero, List.set_cons_succ])
    have hHeld : True := trivial
    refine wpAnyH_take (i := 6) (oi := ⟨some 31, _, _, _, _, _⟩) (v := ?_) rfl (by kernel_rfl) (by kernel_rfl) (by kernel_rfl) (fun _ _ _ h => h) (Or.inl ⟨by kernel_rfl, ?_⟩) (by assumption) ?_
    rotate_left 1
    ·((intro w hSw; (try dsimp only at hSw); go_simp) <;> (try with_reducible rfl))
    (try simp only [Act.put, List.setIfInBounds_toArray, List.set_cons_zero, List.set_cons_succ])
    clear hHeld
    refine wpAnyH_ready (rs := [8]) (by kernel_rfl) (by simp) ?_
    refine AllReadyH.cons (o := ⟨none, _, _, _, _, _⟩) rfl (fun K hK => ?_) AllReadyH.nil
    obtain ⟨s0, s1, s2, s3, s4, s5, y0, y1, y2, y3, y4, y5, sl⟩ := F43_D.out
    go_simp
    clear s0 s1 s2 s3 s4 s5 y0 y1 y2 y3 y4 y5 sl
    have XD := Lib.hid (F43_D.out.set (.slice (some ⟨g_c, 0, none⟩) 0 WN) (.slice (some ⟨g_l, 0, none⟩) WN WN) (.slice (some ⟨g_t, 0, none⟩) TN TN) (.int .i64 0) (.int .i64 0) (.int .i64 0))
    have XB := Lib.hid (below_set6 B43.out G42.out (.slice (some ⟨g_c, 0, none⟩) 0 WN) (.slice (some ⟨g_l, 0, none⟩) WN WN) (.slice (some ⟨g_t, 0, none⟩) TN TN) (.int .i64 0) (.int .i64 0) (.int .i64 0))
    have Xc := Lib.hid (F43.out.far6 (D := g_D) (fun k hk => by cases hk; exact N43_D.out.symm) (.slice (some ⟨g_c, 0, none⟩) 0 WN) (.slice (some ⟨g_l, 0, none⟩) WN WN) (.slice (some ⟨g_t, 0, none⟩) TN TN) (.int .i64 0) (.int .i64 0) (.int .i64 0))
    have Xl := Lib.hid (F43_l.out.far6 (D := g_D) (fun k hk => by cases hk; exact N42_l.out) (.slice (some ⟨g_c, 0, none⟩) 0 WN) (.slice (some ⟨g_l, 0, none⟩) WN WN) (.slice (some ⟨g_t, 0, none⟩) TN TN) (.int .i64 0) (.int .i64 0) (.int .i64 0))
    have Xt := Lib.hid (F43_t.out.far6 (D := g_D) (fun k hk => by cases hk; exact N42_t.out) (.slice (some ⟨g_c, 0, none⟩) 0 WN) (.slice (some ⟨g_l, 0, none⟩) WN WN) (.slice (some ⟨g_t, 0, none⟩) TN TN) (.int .i64 0) (.int .i64 0) (.int .i64 0))
    have XN0 := Lib.hid (show g_c ≠ g_l from N43_l.out.symm)
    have XN1 := Lib.hid (show g_c ≠ g_t from N43_t.out.symm)
    have XN2 := Lib.hid (show g_l ≠ g_t from N39_t.out.symm)
    have XMc := Lib.hid (show g_c ≠ g_D from N43_D.out.symm)
    have XMl := Lib.hid (show g_l ≠ g_D from N42_l.out)
    have XMt := Lib.hid (show g_t ≠ g_D from N42_t.out)
    have XGc := Lib.hid G43.out
    have XGl := Lib.hid G39.out
    have XGt := Lib.hid G33.out
    have XGD := Lib.hid G42.out
    refine hK.out _ _ trivial (fun hHeld => ?_)
    clear hK K hHeld
    (try simp only [Act.put, List.setIfInBounds_toArray, List.set_cons_zero, List.set_cons_succ])
    refine wpAnyH_done (by kernel_rfl) ?_ _
    clear B43 F43 F43_D F43_l F43_t G33 G39 G42 G43 N39_t N42_l N42_t N43_D N43_l N43_t S43 T43 T43_D T43_l T43_t
    generalize (((((v43.setCell ⟨g_D, 0, none⟩ (.slice (some ⟨g_c, 0, none⟩) 0 WN)).setCell ⟨g_D, 1, none⟩ (.slice (some ⟨g_l, 0, none⟩) WN WN)).setCell ⟨g_D, 2, none⟩ (.slice (some ⟨g_t, 0, none⟩) TN TN)).setCell ⟨g_D, 3, none⟩ (.int .i64 0)).setCell ⟨g_D, 4, none⟩ (.int .i64 0)).setCell ⟨g_D, 5, none⟩ (.int .i64 0) = vx at *
    go_wp2_with fail
    go_meet
    exact ⟨g_D, g_c, g_l, g_t, rfl, XB, Xc, Xl, Xt, XD, Lib.hid ⟨XN0.out, XN1.out, XN2.out, XMc.out, XMl.out, XMt.out, XGD.out, XGc.out, XGl.out, XGt.out⟩⟩
   refine AllReadyH.cons (o := ⟨some 8, _, _, _, _, _⟩) rfl (fun K hK => ?_) AllReadyH.nil
   go_simp
   have hb := Below.al (Below.refl _ v33) (.cells #[.slice none 0 0, .slice none 0 0, .slice none 0 0, .int .i64 0, .int .i64 0, .int .i64 0] 33)
   have hl : v33.heap.size < (v33.alloc (.cells #[.slice none 0 0, .slice none 0 0, .slice none 0 0, .int .i64 0, .int .i64 0, .int .i64 0] 33)).heap.size := by simp
   have F44 := Lib.hid (Cells6.new v33 33 (.slice none 0 0) (.slice none 0 0) (.slice none 0 0) (.int .i64 0) (.int .i64 0) (.int .i64 0))
   have B44 := Lib.hid (B33.out.trans (hb.mono S33.out))
   have S44 := Lib.hid (Nat.le_trans S33.out (Nat.le_of_lt hl))
   have T44 := Lib.hid hl
   have G44 := Lib.hid S33.out
   have F44_t := Lib.hid (F33.out.below hb)
   have T44_t := Lib.hid (Nat.lt_trans T33.out hl)
   have N44_t := Lib.hid (Nat.ne_of_lt T33.out)
   clear hb hl B33 S33 F33 T33
   generalize v33.alloc (.cells #[.slice none 0 0, .slice none 0 0, .slice none 0 0, .int .i64 0, .int .i64 0, .int .i64 0] 33) = v44 at *
   generalize v33.heap.size = g_D at *
   refine hK.out _ _ trivial (fun hHeld => ?_)
   clear hK K hHeld
   (try simp only [Act.put, List.setIfInBounds_toArray, List.set_cons_zero, List.set_cons_succ])
   refine wpAnyH_ready (rs := [1, 3]) (by kernel_rfl) (by simp) ?_
   refine AllReadyH.cons (o := ⟨some 26, _, _, _, _, _⟩) rfl (fun K hK => ?_) ?_
   ·refine Lk.wp_made (K := KE) v44 _ _ rfl rfl _ _ 0 WN _ _ rfl rfl rfl rfl (.inr rfl) ce0 rfl ⟨by decide, by decide, by decide⟩ (by omega) ?_
    intro v45 ho hb hl
    have F45 := Lib.hid (ho.mono S44.out)
    have B45 := Lib.hid (B44.out.trans (hb.mono S44.out))
    have S45 := Lib.hid (Nat.le_trans S44.out (Nat.le_of_lt hl))
    have T45 := Lib.hid hl
    have G45 := Lib.hid S44.out
    have F45_t := Lib.hid (F44_t.out.below hb)
    have T45_t := Lib.hid (Nat.lt_trans T44_t.out hl)
    have N45_t := Lib.hid (Nat.ne_of_lt T44_t.out)
    have F45_D := Lib.hid (F44.out.below hb)
    have T45_D := Lib.hid (Nat.lt_trans T44.out hl)
    have N45_D := Lib.hid (Nat.ne_of_lt T44.out)
    clear hb hl ho B44 S44 F44_t T44_t F44 T44
    generalize v44.heap.size = g_c at *
    refine hK.out _ _ trivial (fun hHeld => ?_)
    clear hK K hHeld
    (try simp only [Act.put, List.setIfInBounds_toArray, List.set_cons_zero, List.set_cons_succ])
    refine wpAnyH_ready (rs := [3]) (by kernel_rfl) (by simp) ?_
    refine AllReadyH.cons (o := ⟨some 28, _, _, _, _, _⟩) rfl (fun K hK => ?_) AllReadyH.nil
    refine Lk.wp_made (K := KL) v45 _ _ rfl rfl _ _ WN WN _ _ rfl rfl rfl rfl (.inl rfl) lo0 rfl ⟨by decide, by decide⟩ (by omega) ?_
    intro v46 ho hb hl
    have F46 := Lib.hid (ho.mono S45.out)
    have B46 := Lib.hid (B45.out.trans (hb.mono S45.out))
    have S46 := Lib.hid (Nat.le_trans S45.out (Nat.le_of_lt hl))
    have T46 := Lib.hid hl
    have G46 := Lib.hid S45.out
    have F46_c := Lib.hid (F45.out.below hb)
    have T46_c := Lib.hid (Nat.lt_trans T45.out hl)
    have N46_c := Lib.hid (Nat.ne_of_lt T45.out)
    have F46_t := Lib.hid (F45_t.out.below hb)
    have T46_t := Lib.hid (Nat.lt_trans T45_t.out hl)
    have N46_t := Lib.hid (Nat.ne_of_lt T45_t.out)
    have F46_D := Lib.hid (F45_D.out.below hb)
    have T46_D := Lib.hid (Nat.lt_trans T45_D.out hl)
    have N46_D := Lib.hid (Nat.ne_of_lt T45_D.out)
    clear hb hl ho B45 S45 F45 T45 F45_t T45_t F45_D T45_D
    generalize v45.heap.size = g_l at *
    refine hK.out _ _ trivial (fun hHeld => ?_)
    clear hK K hHeld
    (try simp only [Act.put, List.setIfInBounds_toArray, List.set_cons_zero, List.set_cons_succ])
    have hHeld : True := trivial
    refine wpAnyH_take (i := 6) (oi := ⟨some 31, _, _, _, _, _⟩) (v := ?_) rfl (by kernel_rfl) (by kernel_rfl) (by kernel_rfl) (fun _ _ _ h => h) (Or.inl ⟨by kernel_rfl, ?_⟩) (by assumption) ?_
    rotate_left 1
    ·((intro w hSw; (try dsimp only at hSw); go_simp) <;> (try with_reducible rfl))
    (try simp only [Act.put, List.setIfInBounds_toArray, List.set_cons_zero, List.set_cons_succ])
    clear hHeld
    refine wpAnyH_ready (rs := [8]) (by kernel_rfl) (by simp) ?_
    refine AllReadyH.cons (o := ⟨none, _, _, _, _, _⟩) rfl (fun K hK => ?_) AllReadyH.nil
    obtain ⟨s0, s1, s2, s3, s4, s5, y0, y1, y2, y3, y4, y5, sl⟩ := F46_D.out
    go_simp
    clear s0 s1 s2 s3 s4 s5 y0 y1 y2 y3 y4 y5 sl
    have XD := Lib.hid (F46_D.out.set (.slice (some ⟨g_c, 0, none⟩) 0 WN) (.slice (some ⟨g_l, 0, none⟩) WN WN) (.slice (some ⟨g_t, 0, none⟩) TN TN) (.int .i64 0) (.int .i64 0) (.int .i64 0))
    have XB := Lib.hid (below_set6 B46.out G44.out (.slice (some ⟨g_c, 0, none⟩) 0 WN) (.slice (some ⟨g_l, 0, none⟩) WN WN) (.slice (some ⟨g_t, 0, none⟩) TN TN) (.int .i64 0) (.int .i64 0) (.int .i64 0))
    have Xc := Lib.hid (F46_c.out.far6 (D := g_D) (fun k hk => by cases hk; exact N45_D.out.symm) (.slice (some ⟨g_c, 0, none⟩) 0 WN) (.slice (some ⟨g_l, 0, none⟩) WN WN) (.slice (some ⟨g_t, 0, none⟩) TN TN) (.int .i64 0) (.int .i64 0) (.int .i64 0))
    have Xl := Lib.hid (F46.out.far6 (D := g_D) (fun k hk => by cases hk; exact N46_D.out.symm) (.slice (some ⟨g_c, 0, none⟩) 0 WN) (.slice (some ⟨g_l, 0, none⟩) WN WN) (.slice (some ⟨g_t, 0, none⟩) TN TN) (.int .i64 0) (.int .i64 0) (.int .i64 0))
    have Xt := Lib.hid (F46_t.out.far6 (D := g_D) (fun k hk => by cases hk; exact N44_t.out) (.slice (some ⟨g_c, 0, none⟩) 0 WN) (.slice (some ⟨g_l, 0, none⟩) WN WN) (.slice (some ⟨g_t, 0, none⟩) TN TN) (.int .i64 0) (.int .i64 0) (.int .i64 0))
    have XN0 := Lib.hid (show g_c ≠ g_l from N46_c.out)
    have XN1 := Lib.hid (show g_c ≠ g_t from N45_t.out.symm)
    have XN2 := Lib.hid (show g_l ≠ g_t from N46_t.out.symm)
    have XMc := Lib.hid (show g_c ≠ g_D from N45_D.out.symm)
    have XMl := Lib.hid (show g_l ≠ g_D from N46_D.out.symm)
    have XMt := Lib.hid (show g_t ≠ g_D from N44_t.out)
    have XGc := Lib.hid G45.out
    have XGl := Lib.hid G46.out
    have XGt := Lib.hid G33.out
    have XGD := Lib.hid G44.out
    refine hK.out _ _ trivial (fun hHeld => ?_)
    clear hK K hHeld
    (try simp only [Act.put, List.setIfInBounds_toArray, List.set_cons_zero, List.set_cons_succ])
    refine wpAnyH_done (by kernel_rfl) ?_ _
    clear B46 F46 F46_D F46_c F46_t G33 G44 G45 G46 N44_t N45_D N45_t N46_D N46_c N46_t S46 T46 T46_D T46_c T46_t
    generalize (((((v46.setCell ⟨g_D, 0, none⟩ (.slice (some ⟨g_c, 0, none⟩) 0 WN)).setCell ⟨g_D, 1, none⟩ (.slice (some ⟨g_l, 0, none⟩) WN WN)).setCell ⟨g_D, 2, none⟩ (.slice (some ⟨g_t, 0, none⟩) TN TN)).setCell ⟨g_D, 3, none⟩ (.int .i64 0)).setCell ⟨g_D, 4, none⟩ (.int .i64 0)).setCell ⟨g_D, 5, none⟩ (.int .i64 0) = vx at *
    go_wp2_with fail
    go_meet
    exact ⟨g_D, g_c, g_l, g_t, rfl, XB, Xc, Xl, Xt, XD, Lib.hid ⟨XN0.out, XN1.out, XN2.out, XMc.out, XMl.out, XMt.out, XGD.out, XGc.out, XGl.out, XGt.out⟩⟩
   refine AllReadyH.cons (o := ⟨some 28, _, _, _, _, _⟩) rfl (fun K hK => ?_) AllReadyH.nil
   refine Lk.wp_made (K := KL) v44 _ _ rfl rfl _ _ WN WN _ _ rfl rfl rfl rfl (.inl rfl) lo0 rfl ⟨by decide, by decide⟩ (by omega) ?_
   intro v47 ho hb hl
   have F47 := Lib.hid (ho.mono S44.out)
   have B47 := Lib.hid (B44.out.trans (hb.mono S44.out))
   have S47 := Lib.hid (Nat.le_trans S44.out (Nat.le_of_lt hl))
   have T47 := Lib.hid hl
   have G47 := Lib.hid S44.out
   have F47_t := Lib.hid (F44_t.out.below hb)
   have T47_t := Lib.hid (Nat.lt_trans T44_t.out hl)
   have N47_t := Lib.hid (Nat.ne_of_lt T44_t.out)
   have F47_D := Lib.hid (F44.out.below hb)
   have T47_D := Lib.hid (Nat.lt_trans T44.out hl)
   have N47_D := Lib.hid (Nat.ne_of_lt T44.out)
   clear hb hl ho B44 S44 F44_t T44_t F44 T44
   generalize v44.heap.size = g_l at *
   refine hK.out _ _ trivial (fun hHeld => ?_)
   clear hK K hHeld
   (try simp only [Act.put, List.setIfInBounds_toArray, List.set_cons_zero, List.set_cons_succ])
   refine wpAnyH_ready (rs := [1]) (by kernel_rfl) (by simp) ?_
   refine AllReadyH.cons (o := ⟨some 26, _, _, _, _, _⟩) rfl (fun K hK => ?_) AllReadyH.nil
   refine Lk.wp_made (K := KE) v47 _ _ rfl rfl _ _ 0 WN _ _ rfl rfl rfl rfl (.inr rfl) ce0 rfl ⟨by decide, by decide, by decide⟩ (by omega) ?_
   intro v48 ho hb hl
   have F48 := Lib.hid (ho.mono S47.out)
   have B48 := Lib.hid (B47.out.trans (hb.mono S47.out))
   have S48 := Lib.hid (Nat.le_trans S47.out (Nat.le_of_lt hl))
   have T48 := Lib.hid hl
   have G48 := Lib.hid S47.out
   have F48_l := Lib.hid (F47.out.below hb)
   have T48_l := Lib.hid (Nat.lt_trans T47.out hl)
   have N48_l := Lib.hid (Nat.ne_of_lt T47.out)
   have F48_t := Lib.hid (F47_t.out.below hb)
   have T48_t := Lib.hid (Nat.lt_trans T47_t.out hl)
   have N48_t := Lib.hid (Nat.ne_of_lt T47_t.out)
   have F48_D := Lib.hid (F47_D.out.below hb)
   have T48_D := Lib.hid (Nat.lt_trans T47_D.out hl)
   have N48_D := Lib.hid (Nat.ne_of_lt T47_D.out)
   clear hb hl ho B47 S47 F47 T47 F47_t T47_t F47_D T47_D
   generalize v47.heap.size = g_c at *
   refine hK.out _ _ trivial (fun hHeld => ?_)
   clear hK K hHeld
   (try simp only [Act.put, List.setIfInBounds_toArray, List.set_cons_zero, List.set_cons_succ])
   have hHeld : True := trivial
   refine wpAnyH_take (i := 6) (oi := ⟨some 31, _, _, _, _, _⟩) (v := ?_) rfl (by kernel_rfl) (by kernel_rfl) (by kernel_rfl) (fun _ _ _ h => h) (Or.inl ⟨by kernel_rfl, ?_⟩) (by assumption) ?_
   rotate_left 1
   ·((intro w hSw; (try dsimp only at hSw); go_simp) <;> (try with_reducible rfl))
   (try simp only [Act.put, List.setIfInBounds_toArray, List.set_cons_zero, List.set_cons_succ])
   clear hHeld
   refine wpAnyH_ready (rs := [8]) (by kernel_rfl) (by simp) ?_
   refine AllReadyH.cons (o := ⟨none, _, _, _, _, _⟩) rfl (fun K hK => ?_) AllReadyH.nil
   obtain ⟨s0, s1, s2, s3, s4, s5, y0, y1, y2, y3, y4, y5, sl⟩ := F48_D.out
   go_simp
   clear s0 s1 s2 s3 s4 s5 y0 y1 y2 y3 y4 y5 sl
   have XD := Lib.hid (F48_D.out.set (.slice (some ⟨g_c, 0, none⟩) 0 WN) (.slice (some ⟨g_l, 0, none⟩) WN WN) (.slice (some ⟨g_t, 0, none⟩) TN TN) (.int .i64 0) (.int .i64 0) (.int .i64 0))
   have XB := Lib.hid (below_set6 B48.out G44.out (.slice (some ⟨g_c, 0, none⟩) 0 WN) (.slice (some ⟨g_l, 0, none⟩) WN WN) (.slice (some ⟨g_t, 0, none⟩) TN TN) (.int .i64 0) (.int .i64 0) (.int .i64 0))
   have Xc := Lib.hid (F48.out.far6 (D := g_D) (fun k hk => by cases hk; exact N48_D.out.symm) (.slice (some ⟨g_c, 0, none⟩) 0 WN) (.slice (some ⟨g_l, 0, none⟩) WN WN) (.slice (some ⟨g_t, 0, none⟩) TN TN) (.int .i64 0) (.int .i64 0) (.int .i64 0))
   have Xl := Lib.hid (F48_l.out.far6 (D := g_D) (fun k hk => by cases hk; exact N47_D.out.symm) (.slice (some ⟨g_c, 0, none⟩) 0 WN) (.slice (some ⟨g_l, 0, none⟩) WN WN) (.slice (some ⟨g_t, 0, none⟩) TN TN) (.int .i64 0) (.int .i64 0) (.int .i64 0))
   have Xt := Lib.hid (F48_t.out.far6 (D := g_D) (fun k hk => by cases hk; exact N44_t.out) (.slice (some ⟨g_c, 0, none⟩) 0 WN) (.slice (some ⟨g_l, 0, none⟩) WN WN) (.slice (some ⟨g_t, 0, none⟩) TN TN) (.int .i64 0) (.int .i64 0) (.int .i64 0))
   have XN0 := Lib.hid (show g_c ≠ g_l from N48_l.out.symm)
   have XN1 := Lib.hid (show g_c ≠ g_t from N48_t.out.symm)
   have XN2 := Lib.hid (show g_l ≠ g_t from N47_t.out.symm)
   have XMc := Lib.hid (show g_c ≠ g_D from N48_D.out.symm)
   have XMl := Lib.hid (show g_l ≠ g_D from N47_D.out.symm)
   have XMt := Lib.hid (show g_t ≠ g_D from N44_t.out)
   have XGc := Lib.hid G48.out
   have XGl := Lib.hid G47.out
   have XGt := Lib.hid G33.out
   have XGD := Lib.hid G44.out
   refine hK.out _ _ trivial (fun hHeld => ?_)
   clear hK K hHeld
   (try simp only [Act.put, List.setIfInBounds_toArray, List.set_cons_zero, List.set_cons_succ])
   refine wpAnyH_done (by kernel_rfl) ?_ _
   clear B48 F48 F48_D F48_l F48_t G33 G44 G47 G48 N44_t N47_D N47_t N48_D N48_l N48_t S48 T48 T48_D T48_l T48_t
   generalize (((((v48.setCell ⟨g_D, 0, none⟩ (.slice (some ⟨g_c, 0, none⟩) 0 WN)).setCell ⟨g_D, 1, none⟩ (.slice (some ⟨g_l, 0, none⟩) WN WN)).setCell ⟨g_D, 2, none⟩ (.slice (some ⟨g_t, 0, none⟩) TN TN)).setCell ⟨g_D, 3, none⟩ (.int .i64 0)).setCell ⟨g_D, 4, none⟩ (.int .i64 0)).setCell ⟨g_D, 5, none⟩ (.int .i64 0) = vx at *
   go_wp2_with fail
   go_meet
   exact ⟨g_D, g_c, g_l, g_t, rfl, XB, Xc, Xl, Xt, XD, Lib.hid ⟨XN0.out, XN1.out, XN2.out, XMc.out, XMl.out, XMt.out, XGD.out, XGc.out, XGl.out, XGt.out⟩⟩
  refine AllReadyH.cons (o := ⟨some 8, _, _, _, _, _⟩) rfl (fun K hK => ?_) AllReadyH.nil
  go_simp
  have hb := Below.al (Below.refl _ v0) (.cells #[.slice none 0 0, .slice none 0 0, .slice none 0 0, .int .i64 0, .int .i64 0, .int .i64 0] 33)
  have hl : v0.heap.size < (v0.alloc (.cells #[.slice none 0 0, .slice none 0 0, .slice none 0 0, .int .i64 0, .int .i64 0, .int .i64 0] 33)).heap.size := by simp
  have F49 := Lib.hid (Cells6.new v0 33 (.slice none 0 0) (.slice none 0 0) (.slice none 0 0) (.int .i64 0) (.int .i64 0) (.int .i64 0))
  have B49 := Lib.hid (B0.out.trans (hb.mono S0.out))
  have S49 := Lib.hid (Nat.le_trans S0.out (Nat.le_of_lt hl))
  have T49 := Lib.hid hl
  have G49 := Lib.hid S0.out
  clear hb hl B0 S0
  generalize v0.alloc (.cells #[.slice none 0 0, .slice none 0 0, .slice none 0 0, .int .i64 0, .int .i64 0, .int .i64 0] 33) = v49 at *
  generalize v0.heap.size = g_D at *
  refine hK.out _ _ trivial (fun hHeld => ?_)
  clear hK K hHeld
  (try simp only [Act.put, List.setIfInBounds_toArray, List.set_cons_zero, List.set_cons_succ])
  refine wpAnyH_ready (rs := [1, 3, 5]) (by kernel_rfl) (by simp) ?_
  refine AllReadyH.cons (o := ⟨some 26, _, _, _, _, _⟩) rfl (fun K hK => ?_) ?_
  ·refine Lk.wp_made (K := KE) v49 _ _ rfl rfl _ _ 0 WN _ _ rfl rfl rfl rfl (.inr rfl) ce0 rfl ⟨by decide, by decide, by decide⟩ (by omega) ?_
   intro v50 ho hb hl
   have F50 := Lib.hid (ho.mono S49.out)
   have B50 := Lib.hid (B49.out.trans (hb.mono S49.out))
   have S50 := Lib.hid (Nat.le_trans S49.out (Nat.le_of_lt hl))
   have T50 := Lib.hid hl
   have G50 := Lib.hid S49.out
   have F50_D := Lib.hid (F49.out.below hb)
   have T50_D := Lib.hid (Nat.lt_trans T49.out hl)
   have N50_D := Lib.hid (Nat.ne_of_lt T49.out)
   clear hb hl ho B49 S49 F49 T49
   generalize v49.heap.size = g_c at *
   refine hK.out _ _ trivial (fun hHeld => ?_)
   clear hK K hHeld
   (try simp only [Act.put, List.setIfInBounds_toArray, List.set_cons_zero, List.set_cons_succ])
   refine wpAnyH_ready (rs := [3, 5]) (by kernel_rfl) (by simp) ?_
   refine AllReadyH.cons (o := ⟨some 28, _, _, _, _, _⟩) rfl (fun K hK => ?_) ?_
   ·refine Lk.wp_made (K := KL) v50 _ _ rfl rfl _ _ WN WN _ _ rfl rfl rfl rfl (.inl rfl) lo0 rfl ⟨by decide, by decide⟩ (by omega) ?_
    intro v51 ho hb hl
    have F51 := Lib.hid (ho.mono S50.out)
    have B51 := Lib.hid (B50.out.trans (hb.mono S50.out))
    have S51 := Lib.hid (Nat.le_trans S50.out (Nat.le_of_lt hl))
    have T51 := Lib.hid hl
    have G51 := Lib.hid S50.out
    have F51_c := Lib.hid (F50.out.below hb)
    have T51_c := Lib.hid (Nat.lt_trans T50.out hl)
    have N51_c := Lib.hid (Nat.ne_of_lt T50.out)
    have F51_D := Lib.hid (F50_D.out.below hb)
    have T51_D := Lib.hid (Nat.lt_trans T50_D.out hl)
    have N51_D := Lib.hid (Nat.ne_of_lt T50_D.out)
    clear hb hl ho B50 S50 F50 T50 F50_D T50_D
    generalize v50.heap.size = g_l at *
    refine hK.out _ _ trivial (fun hHeld => ?_)
    clear hK K hHeld
    (try simp only [Act.put, List.setIfInBounds_toArray, List.set_cons_zero, List.set_cons_succ])
    refine wpAnyH_ready (rs := [5]) (by kernel_rfl) (by simp) ?_
    refine AllReadyH.cons (o := ⟨some 30, _, _, _, _, _⟩) rfl (fun K hK => ?_) AllReadyH.nil
    refine Lk.wp_made (K := KT) v51 _ _ rfl rfl _ _ TN TN _ _ rfl rfl rfl rfl (.inl rfl) (0, 0) rfl ⟨by decide, by decide⟩ (by omega) ?_
    intro v52 ho hb hl
    have F52 := Lib.hid (ho.mono S51.out)
    have B52 := Lib.hid (B51.out.trans (hb.mono S51.out))
    have S52 := Lib.hid (Nat.le_trans S51.out (Nat.le_of_lt hl))
    have T52 := Lib.hid hl
    have G52 := Lib.hid S51.out
    have F52_c := Lib.hid (F51_c.out.below hb)
    have T52_c := Lib.hid (Nat.lt_trans T51_c.out hl)
    have N52_c := Lib.hid (Nat.ne_of_lt T51_c.out)
    have F52_l := Lib.hid (F51.out.below hb)
    have T52_l := Lib.hid (Nat.lt_trans T51.out hl)
    have N52_l := Lib.hid (Nat.ne_of_lt T51.out)
    have F52_D := Lib.hid (F51_D.out.below hb)
    have T52_D := Lib.hid (Nat.lt_trans T51_D.out hl)
    have N52_D := Lib.hid (Nat.ne_of_lt T51_D.out)
    clear hb hl ho B51 S51 F51_c T51_c F51 T51 F51_D T51_D
    generalize v51.heap.size = g_t at *
    refine hK.out _ _ trivial (fun hHeld => ?_)
    clear hK K hHeld
    (try simp only [Act.put, List.setIfInBounds_toArray, List.set_cons_zero, List.set_cons_succ])
    have hHeld : True := trivial
    refine wpAnyH_take (i := 6) (oi := ⟨some 31, _, _, _, _, _⟩) (v := ?_) rfl (by kernel_rfl) (by kernel_rfl) (by kernel_rfl) (fun _ _ _ h => h) (Or.inl ⟨by kernel_rfl, ?_⟩) (by assumption) ?_
    rotate_left 1
    ·((intro w hSw; (try dsimp only at hSw); go_simp) <;> (try with_reducible rfl))
    (try simp only [Act.put, List.setIfInBounds_toArray, List.set_cons_zero, List.set_cons_succ])
    clear hHeld
    refine wpAnyH_ready (rs := [8]) (by kernel_rfl) (by simp) ?_
    refine AllReadyH.cons (o := ⟨none, _, _, _, _, _⟩) rfl (fun K hK => ?_) AllReadyH.nil
    obtain ⟨s0, s1, s2, s3, s4, s5, y0, y1, y2, y3, y4, y5, sl⟩ := F52_D.out
    go_simp
    clear s0 s1 s2 s3 s4 s5 y0 y1 y2 y3 y4 y5 sl
    have XD := Lib.hid (F52_D.out.set (.slice (some ⟨g_c, 0, none⟩) 0 WN) (.slice (some ⟨g_l, 0, none⟩) WN WN) (.slice (some ⟨g_t, 0, none⟩) TN TN) (.int .i64 0) (.int .i64 0) (.int .i64 0))
    have XB := Lib.hid (below_set6 B52.out G49.out (.slice (some ⟨g_c, 0, none⟩) 0 WN) (.slice (some ⟨g_l, 0, none⟩) WN WN) (.slice (some ⟨g_t, 0, none⟩) TN TN) (.int .i64 0) (.int .i64 0) (.int .i64 0))
    have Xc := Lib.hid (F52_c.out.far6 (D := g_D) (fun k hk => by cases hk; exact N50_D.out.symm) (.slice (some ⟨g_c, 0, none⟩) 0 WN) (.slice (some ⟨g_l, 0, none⟩) WN WN) (.slice (some ⟨g_t, 0, none⟩) TN TN) (.int .i64 0) (.int .i64 0) (.int .i64 0))
    have Xl := Lib.hid (F52_l.out.far6 (D := g_D) (fun k hk => by cases hk; exact N51_D.out.symm) (.slice (some ⟨g_c, 0, none⟩) 0 WN) (.slice (some ⟨g_l, 0, none⟩) WN WN) (.slice (some ⟨g_t, 0, none⟩) TN TN) (.int .i64 0) (.int .i64 0) (.int .i64 0))
    have Xt := Lib.hid (F52.out.far6 (D := g_D) (fun k hk => by cases hk; exact N52_D.out.symm) (.slice (some ⟨g_c, 0, none⟩) 0 WN) (.slice (some ⟨g_l, 0, none⟩) WN WN) (.slice (some ⟨g_t, 0, none⟩) TN TN) (.int .i64 0) (.int .i64 0) (.int .i64 0))
    have XN0 := Lib.hid (show g_c ≠ g_l from N51_c.out)
    have XN1 := Lib.hid (show g_c ≠ g_t from N52_c.out)
    have XN2 := Lib.hid (show g_l ≠ g_t from N52_l.out)
    have XMc := Lib.hid (show g_c ≠ g_D from N50_D.out.symm)
    have XMl := Lib.hid (show g_l ≠ g_D from N51_D.out.symm)
    have XMt := Lib.hid (show g_t ≠ g_D from N52_D.out.symm)
    have XGc := Lib.hid G50.out
    have XGl := Lib.hid G51.out
    have XGt := Lib.hid G52.out
    have XGD := Lib.hid G49.out
    refine hK.out _ _ trivial (fun hHeld => ?_)
    clear hK K hHeld
    (try simp only [Act.put, List.setIfInBounds_toArray, List.set_cons_zero, List.set_cons_succ])
    refine wpAnyH_done (by kernel_rfl) ?_ _
    clear B52 F52 F52_D F52_c F52_l G49 G50 G51 G52 N50_D N51_D N51_c N52_D N52_c N52_l S52 T52 T52_D T52_c T52_l
    generalize (((((v52.setCell ⟨g_D, 0, none⟩ (.slice (some ⟨g_c, 0, none⟩) 0 WN)).setCell ⟨g_D, 1, none⟩ (.slice (some ⟨g_l, 0, none⟩) WN WN)).setCell ⟨g_D, 2, none⟩ (.slice (some ⟨g_t, 0, none⟩) TN TN)).setCell ⟨g_D, 3, none⟩ (.int .i64 0)).setCell ⟨g_D, 4, none⟩ (.int .i64 0)).setCell ⟨g_D, 5, none⟩ (.int .i64 0) = vx at *
    go_wp2_with fail
    go_meet
    exact ⟨g_D, g_c, g_l, g_t, rfl, XB, Xc, Xl, Xt, XD, Lib.hid ⟨XN0.out, XN1.out, XN2.out, XMc.out, XMl.out, XMt.out, XGD.out, XGc.out, XGl.out, XGt.out⟩⟩
   refine AllReadyH.cons (o := ⟨some 30, _, _, _, _, _⟩) rfl (fun K hK => ?_) AllReadyH.nil
   refine Lk.wp_made (K := KT) v50 _ _ rfl rfl _ _ TN TN _ _ rfl rfl rfl rfl (.inl rfl) (0, 0) rfl ⟨by decide, by decide⟩ (by omega) ?_
   intro v53 ho hb hl
   have F53 := Lib.hid (ho.mono S50.out)
   have B53 := Lib.hid (B50.out.trans (hb.mono S50.out))
   have S53 := Lib.hid (Nat.le_trans S50.out (Nat.le_of_lt hl))
   have T53 := Lib.hid hl
   have G53 := Lib.hid S50.out
   have F53_c := Lib.hid (F50.out.below hb)
   have T53_c := Lib.hid (Nat.lt_trans T50.out hl)
   have N53_c := Lib.hid (Nat.ne_of_lt T50.out)
   have F53_D := Lib.hid (F50_D.out.below hb)
   have T53_D := Lib.hid (Nat.lt_trans T50_D.out hl)
   have N53_D := Lib.hid (Nat.ne_of_lt T50_D.out)
   clear hb hl ho B50 S50 F50 T50 F50_D T50_D
   generalize v50.heap.size = g_t at *
   refine hK.out _ _ trivial (fun hHeld => ?_)
   clear hK K hHeld
   (try simp only [Act.put, List.setIfInBounds_toArray, List.set_cons_zero, List.set_cons_succ])
   refine wpAnyH_ready (rs := [3]) (by kernel_rfl) (by simp) ?_
   refine AllReadyH.cons (o := ⟨some 28, _, _, _, _, _⟩) rfl (fun K hK => ?_) AllReadyH.nil
   refine Lk.wp_made (K := KL) v53 _ _ rfl rfl _ _ WN WN _ _ rfl rfl rfl rfl (.inl rfl) lo0 rfl ⟨by decide, by decide⟩ (by omega) ?_
   intro v54 ho hb hl
   have F54 := Lib.hid (ho.mono S53.out)
   have B54 := Lib.hid (B53.out.trans (hb.mono S53.out))
   have S54 := Lib.hid (Nat.le_trans S53.out (Nat.le_of_lt hl))
   have T54 := Lib.hid hl
   have G54 := Lib.hid S53.out
   have F54_c := Lib.hid (F53_c.out.below hb)
   have T54_c := Lib.hid (Nat.lt_trans T53_c.out hl)
   have N54_c := Lib.hid (Nat.ne_of_lt T53_c.out)
   have F54_t := Lib.hid (F53.out.below hb)
   have T54_t := Lib.hid (Nat.lt_trans T53.out hl)
   have N54_t := Lib.hid (Nat.ne_of_lt T53.out)
   have F54_D := Lib.hid (F53_D.out.below hb)
   have T54_D := Lib.hid (Nat.lt_trans T53_D.out hl)
   have N54_D := Lib.hid (Nat.ne_of_lt T53_D.out)
   clear hb hl ho B53 S53 F53_c T53_c F53 T53 F53_D T53_D
   generalize v53.heap.size = g_l at *
   refine hK.out _ _ trivial (fun hHeld => ?_)
   clear hK K hHeld
   (try simp only [Act.put, List.setIfInBounds_toArray, List.set_cons_zero, List.set_cons_succ])
   have hHeld : True := trivial
   refine wpAnyH_take (i := 6) (oi := ⟨some 31, _, _, _, _, _⟩) (v := ?_) rfl (by kernel_rfl) (by kernel_rfl) (by kernel_rfl) (fun _ _ _ h => h) (Or.inl ⟨by kernel_rfl, ?_⟩) (by assumption) ?_
   rotate_left 1
   ·((intro w hSw; (try dsimp only at hSw); go_simp) <;> (try with_reducible rfl))
   (try simp only [Act.put, List.setIfInBounds_toArray, List.set_cons_zero, List.set_cons_succ])
   clear hHeld
   refine wpAnyH_ready (rs := [8]) (by kernel_rfl) (by simp) ?_
   refine AllReadyH.cons (o := ⟨none, _, _, _, _, _⟩) rfl (fun K hK => ?_) AllReadyH.nil
   obtain ⟨s0, s1, s2, s3, s4, s5, y0, y1, y2, y3, y4, y5, sl⟩ := F54_D.out
   go_simp
   clear s0 s1 s2 s3 s4 s5 y0 y1 y2 y3 y4 y5 sl
   have XD := Lib.hid (F54_D.out.set (.slice (some ⟨g_c, 0, none⟩) 0 WN) (.slice (some ⟨g_l, 0, none⟩) WN WN) (.slice (some ⟨g_t, 0, none⟩) TN TN) (.int .i64 0) (.int .i64 0) (.int .i64 0))
   have XB := Lib.hid (below_set6 B54.out G49.out (.slice (some ⟨g_c, 0, none⟩) 0 WN) (.slice (some ⟨g_l, 0, none⟩) WN WN) (.slice (some ⟨g_t, 0, none⟩) TN TN) (.int .i64 0) (.int .i64 0) (.int .i64 0))
   have Xc := Lib.hid (F54_c.out.far6 (D := g_D) (fun k hk => by cases hk; exact N50_D.out.symm) (.slice (some ⟨g_c, 0, none⟩) 0 WN) (.slice (some ⟨g_l, 0, none⟩) WN WN) (.slice (some ⟨g_t, 0, none⟩) TN TN) (.int .i64 0) (.int .i64 0) (.int .i64 0))
   have Xl := Lib.hid (F54.out.far6 (D := g_D) (fun k hk => by cases hk; exact N54_D.out.symm) (.slice (some ⟨g_c, 0, none⟩) 0 WN) (.slice (some ⟨g_l, 0, none⟩) WN WN) (.slice (some ⟨g_t, 0, none⟩) TN TN) (.int .i64 0) (.int .i64 0) (.int .i64 0))
   have Xt := Lib.hid (F54_t.out.far6 (D := g_D) (fun k hk => by cases hk; exact N53_D.out.symm) (.slice (some ⟨g_c, 0, none⟩) 0 WN) (.slice (some ⟨g_l, 0, none⟩) WN WN) (.slice (some ⟨g_t, 0, none⟩) TN TN) (.int .i64 0) (.int .i64 0) (.int .i64 0))
   have XN0 := Lib.hid (show g_c ≠ g_l from N54_c.out)
   have XN1 := Lib.hid (show g_c ≠ g_t from N53_c.out)
   have XN2 := Lib.hid (show g_l ≠ g_t from N54_t.out.symm)
   have XMc := Lib.hid (show g_c ≠ g_D from N50_D.out.symm)
   have XMl := Lib.hid (show g_l ≠ g_D from N54_D.out.symm)
   have XMt := Lib.hid (show g_t ≠ g_D from N53_D.out.symm)
   have XGc := Lib.hid G50.out
   have XGl := Lib.hid G54.out
   have XGt := Lib.hid G53.out
   have XGD := Lib.hid G49.out
   refine hK.out _ _ trivial (fun hHeld => ?_)
   clear hK K hHeld
   (try simp only [Act.put, List.setIfInBounds_toArray, List.set_cons_zero, List.set_cons_succ])
   refine wpAnyH_done (by kernel_rfl) ?_ _
   clear B54 F54 F54_D F54_c F54_t G49 G50 G53 G54 N50_D N53_D N53_c N54_D N54_c N54_t S54 T54 T54_D T54_c T54_t
   generalize (((((v54.setCell ⟨g_D, 0, none⟩ (.slice (some ⟨g_c, 0, none⟩) 0 WN)).setCell ⟨g_D, 1, none⟩ (.slice (some ⟨g_l, 0, none⟩) WN WN)).setCell ⟨g_D, 2, none⟩ (.slice (some ⟨g_t, 0, none⟩) TN TN)).setCell ⟨g_D, 3, none⟩ (.int .i64 0)).setCell ⟨g_D, 4, none⟩ (.int .i64 0)).setCell ⟨g_D, 5, none⟩ (.int .i64 0) = vx at *
   go_wp2_with fail
   go_meet
   exact ⟨g_D, g_c, g_l, g_t, rfl, XB, Xc, Xl, Xt, XD, Lib.hid ⟨XN0.out, XN1.out, XN2.out, XMc.out, XMl.out, XMt.out, XGD.out, XGc.out, XGl.out, XGt.out⟩⟩
  refine AllReadyH.cons (o := ⟨some 28, _, _, _, _, _⟩) rfl (fun K hK => ?_) ?_
  ·refine Lk.wp_made (K := KL) v49 _ _ rfl rfl _ _ WN WN _ _ rfl rfl rfl rfl (.inl rfl) lo0 rfl ⟨by decide, by decide⟩ (by omega) ?_
   intro v55 ho hb hl
   have F55 := Lib.hid (ho.mono S49.out)
   have B55 := Lib.hid (B49.out.trans (hb.mono S49.out))
   have S55 := Lib.hid (Nat.le_trans S49.out (Nat.le_of_lt hl))
   have T55 := Lib.hid hl
   have G55 := Lib.hid S49.out
   have F55_D := Lib.hid (F49.out.below hb)
   have T55_D := Lib.hid (Nat.lt_trans T49.out hl)
   have N55_D := Lib.hid (Nat.ne_of_lt T49.out)
   clear hb hl ho B49 S49 F49 T49
   generalize v49.heap.size = g_l at *
   refine hK.out _ _ trivial (fun hHeld => ?_)
   clear hK K hHeld
   (try simp only [Act.put, List.setIfInBounds_toArray, List.set_cons_zero, List.set_cons_succ])
   refine wpAnyH_ready (rs := [1, 5]) (by kernel_rfl) (by simp) ?_
   refine AllReadyH.cons (o := ⟨some 26, _, _, _, _, _⟩) rfl (fun K hK => ?_) ?_
   ·refine Lk.wp_made (K := KE) v55 _ _ rfl rfl _ _ 0 WN _ _ rfl rfl rfl rfl (.inr rfl) ce0 rfl ⟨by decide, by decide, by decide⟩ (by omega) ?_
    intro v56 ho hb hl
    have F56 := Lib.hid (ho.mono S55.out)
    have B56 := Lib.hid (B55.out.trans (hb.mono S55.out))
    have S56 := Lib.hid (Nat.le_trans S55.out (Nat.le_of_lt hl))
    have T56 := Lib.hid hl
    have G56 := Lib.hid S55.out
    have F56_l := Lib.hid (F55.out.below hb)
    have T56_l := Lib.hid (Nat.lt_trans T55.out hl)
    have N56_l := Lib.hid (Nat.ne_of_lt T55.out)
    have F56_D := Lib.hid (F55_D.out.below hb)
    have T56_D := Lib.hid (Nat.lt_trans T55_D.out hl)
    have N56_D := Lib.hid (Nat.ne_of_lt T55_D.out)
    clear hb hl ho B55 S55 F55 T55 F55_D T55_D
    generalize v55.heap.size = g_c at *
    refine hK.out _ _ trivial (fun hHeld => ?_)
    clear hK K hHeld
    (try simp only [Act.put, List.setIfInBounds_toArray, List.set_cons_zero, List.set_cons_succ])
    refine wpAnyH_ready (rs := [5]) (by kernel_rfl) (by simp) ?_
    refine AllReadyH.cons (o := ⟨some 30, _, _, _, _, _⟩) rfl (fun K hK => ?_) AllReadyH.nil
    refine Lk.wp_made (K := KT) v56 _ _ rfl rfl _ _ TN TN _ _ rfl rfl rfl rfl (.inl rfl) (0, 0) rfl ⟨by decide, by decide⟩ (by omega) ?_
    intro v57 ho hb hl
    have F57 := Lib.hid (ho.mono S56.out)
    have B57 := Lib.hid (B56.out.trans (hb.mono S56.out))
    have S57 := Lib.hid (Nat.le_trans S56.out (Nat.le_of_lt hl))
    have T57 := Lib.hid hl
    have G57 := Lib.hid S56.out
    have F57_c := Lib.hid (F56.out.below hb)
    have T57_c := Lib.hid (Nat.lt_trans T56.out hl)
    have N57_c := Lib.hid (Nat.ne_of_lt T56.out)
    have F57_l := Lib.hid (F56_l.out.below hb)
    have T57_l := Lib.hid (Nat.lt_trans T56_l.out hl)
    have N57_l := Lib.hid (Nat.ne_of_lt T56_l.out)
    have F57_D := Lib.hid (F56_D.out.below hb)
    have T57_D := Lib.hid (Nat.lt_trans T56_D.out hl)
    have N57_D := Lib.hid (Nat.ne_of_lt T56_D.out)
    clear hb hl ho B56 S56 F56 T56 F56_l T56_l F56_D T56_D
    generalize v56.heap.size = g_t at *
    refine hK.out _ _ trivial (fun hHeld => ?_)
    clear hK K hHeld
    (try simp only [Act.put, List.setIfInBounds_toArray, List.set_cons_zero, List.set_cons_succ])
    have hHeld : True := trivial
    refine wpAnyH_take (i := 6) (oi := ⟨some 31, _, _, _, _, _⟩) (v := ?_) rfl (by kernel_rfl) (by kernel_rfl) (by kernel_rfl) (fun _ _ _ h => h) (Or.inl ⟨by kernel_rfl, ?_⟩) (by assumption) ?_
    rotate_left 1
    ·((intro w hSw; (try dsimp only at hSw); go_simp) <;> (try with_reducible rfl))
    (try simp only [Act.put, List.setIfInBounds_toArray, List.set_cons_zero, List.set_cons_succ])
    clear hHeld
    refine wpAnyH_ready (rs := [8]) (by kernel_rfl) (by simp) ?_
    refine AllReadyH.cons (o := ⟨none, _, _, _, _, _⟩) rfl (fun K hK => ?_) AllReadyH.nil
    obtain ⟨s0, s1, s2, s3, s4, s5, y0, y1, y2, y3, y4, y5, sl⟩ := F57_D.out
    go_simp
    clear s0 s1 s2 s3 s4 s5 y0 y1 y2 y3 y4 y5 sl
    have XD := Lib.hid (F57_D.out.set (.slice (some ⟨g_c, 0, none⟩) 0 WN) (.slice (some ⟨g_l, 0, none⟩) WN WN) (.slice (some ⟨g_t, 0, none⟩) TN TN) (.int .i64 0) (.int .i64 0) (.int .i64 0))
    have XB := Lib.hid (below_set6 B57.out G49.out (.slice (some ⟨g_c, 0, none⟩) 0 WN) (.slice (some ⟨g_l, 0, none⟩) WN WN) (.slice (some ⟨g_t, 0, none⟩) TN TN) (.int .i64 0) (.int .i64 0) (.int .i64 0))
    have Xc := Lib.hid (F57_c.out.far6 (D := g_D) (fun k hk => by cases hk; exact N56_D.out.symm) (.slice (some ⟨g_c, 0, none⟩) 0 WN) (.slice (some ⟨g_l, 0, none⟩) WN WN) (.slice (some ⟨g_t, 0, none⟩) TN TN) (.int .i64 0) (.int .i64 0) (.int .i64 0))
    have Xl := Lib.hid (F57_l.out.far6 (D := g_D) (fun k hk => by cases hk; exact N55_D.out.symm) (.slice (some ⟨g_c, 0, none⟩) 0 WN) (.slice (some ⟨g_l, 0, none⟩) WN WN) (.slice (some ⟨g_t, 0, none⟩) TN TN) (.int .i64 0) (.int .i64 0) (.int .i64 0))
    have Xt := Lib.hid (F57.out.far6 (D := g_D) (fun k hk => by cases hk; exact N57_D.out.symm) (.slice (some ⟨g_c, 0, none⟩) 0 WN) (.slice (some ⟨g_l, 0, none⟩) WN WN) (.slice (some ⟨g_t, 0, none⟩) TN TN) (.int .i64 0) (.int .i64 0) (.int .i64 0))
    have XN0 := Lib.hid (show g_c ≠ g_l from N56_l.out.symm)
    have XN1 := Lib.hid (show g_c ≠ g_t from N57_c.out)
    have XN2 := Lib.hid (show g_l ≠ g_t from N57_l.out)
    have XMc := Lib.hid (show g_c ≠ g_D from N56_D.out.symm)
    have XMl := Lib.hid (show g_l ≠ g_D from N55_D.out.symm)
    have XMt := Lib.hid (show g_t ≠ g_D from N57_D.out.symm)
    have XGc := Lib.hid G56.out
    have XGl := Lib.hid G55.out
    have XGt := Lib.hid G57.out
    have XGD := Lib.hid G49.out
    refine hK.out _ _ trivial (fun hHeld => ?_)
    clear hK K hHeld
    (try simp only [Act.put, List.setIfInBounds_toArray, List.set_cons_zero, List.set_cons_succ])
    refine wpAnyH_done (by kernel_rfl) ?_ _
    clear B57 F57 F57_D F57_c F57_l G49 G55 G56 G57 N55_D N56_D N56_l N57_D N57_c N57_l S57 T57 T57_D T57_c T57_l
    generalize (((((v57.setCell ⟨g_D, 0, none⟩ (.slice (some ⟨g_c, 0, none⟩) 0 WN)).setCell ⟨g_D, 1, none⟩ (.slice (some ⟨g_l, 0, none⟩) WN WN)).setCell ⟨g_D, 2, none⟩ (.slice (some ⟨g_t, 0, none⟩) TN TN)).setCell ⟨g_D, 3, none⟩ (.int .i64 0)).setCell ⟨g_D, 4, none⟩ (.int .i64 0)).setCell ⟨g_D, 5, none⟩ (.int .i64 0) = vx at *
    go_wp2_with fail
    go_meet
    exact ⟨g_D, g_c, g_l, g_t, rfl, XB, Xc, Xl, Xt, XD, Lib.hid ⟨XN0.out, XN1.out, XN2.out, XMc.out, XMl.out, XMt.out, XGD.out, XGc.out, XGl.out, XGt.out⟩⟩
   refine AllReadyH.cons (o := ⟨some 30, _, _, _, _, _⟩) rfl (fun K hK => ?_) AllReadyH.nil
   refine Lk.wp_made (K := KT) v55 _ _ rfl rfl _ _ TN TN _ _ rfl rfl rfl rfl (.inl rfl) (0, 0) rfl ⟨by decide, by decide⟩ (by omega) ?_
   intro v58 ho hb hl
   have F58 := Lib.hid (ho.mono S55.out)
   have B58 := Lib.hid (B55.out.trans (hb.mono S55.out))
   have S58 := Lib.hid (Nat.le_trans S55.out (Nat.le_of_lt hl))
   have T58 := Lib.hid hl
   have G58 := Lib.hid S55.out
   have F58_l := Lib.hid (F55.out.below hb)
   have T58_l := Lib.hid (Nat.lt_trans T55.out hl)
   have N58_l := Lib.hid (Nat.ne_of_lt T55.out)
   have F58_D := Lib.hid (F55_D.out.below hb)
   have T58_D := Lib.hid (Nat.lt_trans T55_D.out hl)
   have N58_D := Lib.hid (Nat.ne_of_lt T55_D.out)
   clear hb hl ho B55 S55 F55 T55 F55_D T55_D
   generalize v55.heap.size = g_t at *
   refine hK.out _ _ trivial (fun hHeld => ?_)
   clear hK K hHeld
   (try simp only [Act.put, List.setIfInBounds_toArray, List.set_cons_zero, List.set_cons_succ])
   refine wpAnyH_ready (rs := [1]) (by kernel_rfl) (by simp) ?_
   refine AllReadyH.cons (o := ⟨some 26, _, _, _, _, _⟩) rfl (fun K hK => ?_) AllReadyH.nil
   refine Lk.wp_made (K := KE) v58 _ _ rfl rfl _ _ 0 WN _ _ rfl rfl rfl rfl (.inr rfl) ce0 rfl ⟨by decide, by decide, by decide⟩ (by omega) ?_
   intro v59 ho hb hl
   have F59 := Lib.hid (ho.mono S58.out)
   have B59 := Lib.hid (B58.out.trans (hb.mono S58.out))
   have S59 := Lib.hid (Nat.le_trans S58.out (Nat.le_of_lt hl))
   have T59 := Lib.hid hl
   have G59 := Lib.hid S58.out
   have F59_l := Lib.hid (F58_l.out.below hb)
   have T59_l := Lib.hid (Nat.lt_trans T58_l.out hl)
   have N59_l := Lib.hid (Nat.ne_of_lt T58_l.out)
   have F59_t := Lib.hid (F58.out.below hb)
   have T59_t := Lib.hid (Nat.lt_trans T58.out hl)
   have N59_t := Lib.hid (Nat.ne_of_lt T58.out)
   have F59_D := Lib.hid (F58_D.out.below hb)
   have T59_D := Lib.hid (Nat.lt_trans T58_D.out hl)
   have N59_D := Lib.hid (Nat.ne_of_lt T58_D.out)
   clear hb hl ho B58 S58 F58_l T58_l F58 T58 F58_D T58_D
   generalize v58.heap.size = g_c at *
   refine hK.out _ _ trivial (fun hHeld => ?_)
   clear hK K hHeld
   (try simp only [Act.put, List.setIfInBounds_toArray, List.set_cons_zero, List.set_cons_succ])
   have hHeld : True := trivial
   refine wpAnyH_take (i := 6) (oi := ⟨some 31, _, _, _, _, _⟩) (v := ?_) rfl (by kernel_rfl) (by kernel_rfl) (by kernel_rfl) (fun _ _ _ h => h) (Or.inl ⟨by kernel_rfl, ?_⟩) (by assumption) ?_
   rotate_left 1
   ·((intro w hSw; (try dsimp only at hSw); go_simp) <;> (try with_reducible rfl))
   (try simp only [Act.put, List.setIfInBounds_toArray, List.set_cons_zero, List.set_cons_succ])
   clear hHeld
   refine wpAnyH_ready (rs := [8]) (by kernel_rfl) (by simp) ?_
   refine AllReadyH.cons (o := ⟨none, _, _, _, _, _⟩) rfl (fun K hK => ?_) AllReadyH.nil
   obtain ⟨s0, s1, s2, s3, s4, s5, y0, y1, y2, y3, y4, y5, sl⟩ := F59_D.out
   go_simp
   clear s0 s1 s2 s3 s4 s5 y0 y1 y2 y3 y4 y5 sl
   have XD := Lib.hid (F59_D.out.set (.slice (some ⟨g_c, 0, none⟩) 0 WN) (.slice (some ⟨g_l, 0, none⟩) WN WN) (.slice (some ⟨g_t, 0, none⟩) TN TN) (.int .i64 0) (.int .i64 0) (.int .i64 0))
   have XB := Lib.hid (below_set6 B59.out G49.out (.slice (some ⟨g_c, 0, none⟩) 0 WN) (.slice (some ⟨g_l, 0, none⟩) WN WN) (.slice (some ⟨g_t, 0, none⟩) TN TN) (.int .i64 0) (.int .i64 0) (.int .i64 0))
   have Xc := Lib.hid (F59.out.far6 (D := g_D) (fun k hk => by cases hk; exact N59_D.out.symm) (.slice (some ⟨g_c, 0, none⟩) 0 WN) (.slice (some ⟨g_l, 0, none⟩) WN WN) (.slice (some ⟨g_t, 0, none⟩) TN TN) (.int .i64 0) (.int .i64 0) (.int .i64 0))
   have Xl := Lib.hid (F59_l.out.far6 (D := g_D) (fun k hk => by cases hk; exact N55_D.out.symm) (.slice (some ⟨g_c, 0, none⟩) 0 WN) (.slice (some ⟨g_l, 0, none⟩) WN WN) (.slice (some ⟨g_t, 0, none⟩) TN TN) (.int .i64 0) (.int .i64 0) (.int .i64 0))
   have Xt := Lib.hid (F59_t.out.far6 (D := g_D) (fun k hk => by cases hk; exact N58_D.out.symm) (.slice (some ⟨g_c, 0, none⟩) 0 WN) (.slice (some ⟨g_l, 0, none⟩) WN WN) (.slice (some ⟨g_t, 0, none⟩) TN TN) (.int .i64 0) (.int .i64 0) (.int .i64 0))
   have XN0 := Lib.hid (show g_c ≠ g_l from N59_l.out.symm)
   have XN1 := Lib.hid (show g_c ≠ g_t from N59_t.out.symm)
   have XN2 := Lib.hid (show g_l ≠ g_t from N58_l.out)
   have XMc := Lib.hid (show g_c ≠ g_D from N59_D.out.symm)
   have XMl := Lib.hid (show g_l ≠ g_D from N55_D.out.symm)
   have XMt := Lib.hid (show g_t ≠ g_D from N58_D.out.symm)
   have XGc := Lib.hid G59.out
   have XGl := Lib.hid G55.out
   have XGt := Lib.hid G58.out
   have XGD := Lib.hid G49.out
   refine hK.out _ _ trivial (fun hHeld => ?_)
   clear hK K hHeld
   (try simp only [Act.put, List.setIfInBounds_toArray, List.set_cons_zero, List.set_cons_succ])
   refine wpAnyH_done (by kernel_rfl) ?_ _
   clear B59 F59 F59_D F59_l F59_t G49 G55 G58 G59 N55_D N58_D N58_l N59_D N59_l N59_t S59 T59 T59_D T59_l T59_t
   generalize (((((v59.setCell ⟨g_D, 0, none⟩ (.slice (some ⟨g_c, 0, none⟩) 0 WN)).setCell ⟨g_D, 1, none⟩ (.slice (some ⟨g_l, 0, none⟩) WN WN)).setCell ⟨g_D, 2, none⟩ (.slice (some ⟨g_t, 0, none⟩) TN TN)).setCell ⟨g_D, 3, none⟩ (.int .i64 0)).setCell ⟨g_D, 4, none⟩ (.int .i64 0)).setCell ⟨g_D, 5, none⟩ (.int .i64 0) = vx at *
   go_wp2_with fail
   go_meet
   exact ⟨g_D, g_c, g_l, g_t, rfl, XB, Xc, Xl, Xt, XD, Lib.hid ⟨XN0.out, XN1.out, XN2.out, XMc.out, XMl.out, XMt.out, XGD.out, XGc.out, XGl.out, XGt.out⟩⟩
  refine AllReadyH.cons (o := ⟨some 30, _, _, _, _, _⟩) rfl (fun K hK => ?_) AllReadyH.nil
  refine Lk.wp_made (K := KT) v49 _ _ rfl rfl _ _ TN TN _ _ rfl rfl rfl rfl (.inl rfl) (0, 0) rfl ⟨by decide, by decide⟩ (by omega) ?_
  intro v60 ho hb hl
  have F60 := Lib.hid (ho.mono S49.out)
  have B60 := Lib.hid (B49.out.trans (hb.mono S49.out))
  have S60 := Lib.hid (Nat.le_trans S49.out (Nat.le_of_lt hl))
  have T60 := Lib.hid hl
  have G60 := Lib.hid S49.out
  have F60_D := Lib.hid (F49.out.below hb)
  have T60_D := Lib.hid (Nat.lt_trans T49.out hl)
  have N60_D := Lib.hid (Nat.ne_of_lt T49.out)
  clear hb hl ho B49 S49 F49 T49
  generalize v49.heap.size = g_t at *
  refine hK.out _ _ trivial (fun hHeld => ?_)
  clear hK K hHeld
  (try simp only [Act.put, List.setIfInBounds_toArray, List.set_cons_zero, List.set_cons_succ])
  refine wpAnyH_ready (rs := [1, 3]) (by kernel_rfl) (by simp) ?_
  refine AllReadyH.cons (o := ⟨some 26, _, _, _, _, _⟩) rfl (fun K hK => ?_) ?_
  ·refine Lk.wp_made (K := KE) v60 _ _ rfl rfl _ _ 0 WN _ _ rfl rfl rfl rfl (.inr rfl) ce0 rfl ⟨by decide, by decide, by decide⟩ (by omega) ?_
   intro v61 ho hb hl
   have F61 := Lib.hid (ho.mono S60.out)
   have B61 := Lib.hid (B60.out.trans (hb.mono S60.out))
   have S61 := Lib.hid (Nat.le_trans S60.out (Nat.le_of_lt hl))
   have T61 := Lib.hid hl
   have G61 := Lib.hid S60.out
   have F61_t := Lib.hid (F60.out.below hb)
   have T61_t := Lib.hid (Nat.lt_trans T60.out hl)
   have N61_t := Lib.hid (Nat.ne_of_lt T60.out)
   have F61_D := Lib.hid (F60_D.out.below hb)
   have T61_D := Lib.hid (Nat.lt_trans T60_D.out hl)
   have N61_D := Lib.hid (Nat.ne_of_lt T60_D.out)
   clear hb hl ho B60 S60 F60 T60 F60_D T60_D
   generalize v60.heap.size = g_c at *
   refine hK.out _ _ trivial (fun hHeld => ?_)
   clear hK K hHeld
   (try simp only [Act.put, List.setIfInBounds_toArray, List.set_cons_zero, List.set_cons_succ])
   refine wpAnyH_ready (rs := [3]) (by kernel_rfl) (by simp) ?_
   refine AllReadyH.cons (o := ⟨some 28, _, _, _, _, _⟩) rfl (fun K hK => ?_) AllReadyH.nil
   refine Lk.wp_made (K := KL) v61 _ _ rfl rfl _ _ WN WN _ _ rfl rfl rfl rfl (.inl rfl) lo0 rfl ⟨by decide, by decide⟩ (by omega) ?_
   intro v62 ho hb hl
   have F62 := Lib.hid (ho.mono S61.out)
   have B62 := Lib.hid (B61.out.trans (hb.mono S61.out))
   have S62 := Lib.hid (Nat.le_trans S61.out (Nat.le_of_lt hl))
   have T62 := Lib.hid hl
   have G62 := Lib.hid S61.out
   have F62_c := Lib.hid (F61.out.below hb)
   have T62_c := Lib.hid (Nat.lt_trans T61.out hl)
   have N62_c := Lib.hid (Nat.ne_of_lt T61.out)
   have F62_t := Lib.hid (F61_t.out.below hb)
   have T62_t := Lib.hid (Nat.lt_trans T61_t.out hl)
   have N62_t := Lib.hid (Nat.ne_of_lt T61_t.out)
   have F62_D := Lib.hid (F61_D.out.below hb)
   have T62_D := Lib.hid (Nat.lt_trans T61_D.out hl)
   have N62_D := Lib.hid (Nat.ne_of_lt T61_D.out)
   clear hb hl ho B61 S61 F61 T61 F61_t T61_t F61_D T61_D
   generalize v61.heap.size = g_l at *
   refine hK.out _ _ trivial (fun hHeld => ?_)
   clear hK K hHeld
   (try simp only [Act.put, List.setIfInBounds_toArray, List.set_cons_zero, List.set_cons_succ])
   have hHeld : True := trivial
   refine wpAnyH_take (i := 6) (oi := ⟨some 31, _, _, _, _, _⟩) (v := ?_) rfl (by kernel_rfl) (by kernel_rfl) (by kernel_rfl) (fun _ _ _ h => h) (Or.inl ⟨by kernel_rfl, ?_⟩) (by assumption) ?_
   rotate_left 1
   ·((intro w hSw; (try dsimp only at hSw); go_simp) <;> (try with_reducible rfl))
   (try simp only [Act.put, List.setIfInBounds_toArray, List.set_cons_zero, List.set_cons_succ])
   clear hHeld
   refine wpAnyH_ready (rs := [8]) (by kernel_rfl) (by simp) ?_
   refine AllReadyH.cons (o := ⟨none, _, _, _, _, _⟩) rfl (fun K hK => ?_) AllReadyH.nil
   obtain ⟨s0, s1, s2, s3, s4, s5, y0, y1, y2, y3, y4, y5, sl⟩ := F62_D.out
   go_simp
   clear s0 s1 s2 s3 s4 s5 y0 y1 y2 y3 y4 y5 sl
   have XD := Lib.hid (F62_D.out.set (.slice (some ⟨g_c, 0, none⟩) 0 WN) (.slice (some ⟨g_l, 0, none⟩) WN WN) (.slice (some ⟨g_t, 0, none⟩) TN TN) (.int .i64 0) (.int .i64 0) (.int .i64 0))
   have XB := Lib.hid (below_set6 B62.out G49.out (.slice (some ⟨g_c, 0, none⟩) 0 WN) (.slice (some ⟨g_l, 0, none⟩) WN WN) (.slice (some ⟨g_t, 0, none⟩) TN TN) (.int .i64 0) (.int .i64 0) (.int .i64 0))
   have Xc := Lib.hid (F62_c.out.far6 (D := g_D) (fun k hk => by cases hk; exact N61_D.out.symm) (.slice (some ⟨g_c, 0, none⟩) 0 WN) (.slice (some ⟨g_l, 0, none⟩) WN WN) (.slice (some ⟨g_t, 0, none⟩) TN TN) (.int .i64 0) (.int .i64 0) (.int .i64 0))
   have Xl := Lib.hid (F62.out.far6 (D := g_D) (fun k hk => by cases hk; exact N62_D.out.symm) (.slice (some ⟨g_c, 0, none⟩) 0 WN) (.slice (some ⟨g_l, 0, none⟩) WN WN) (.slice (some ⟨g_t, 0, none⟩) TN TN) (.int .i64 0) (.int .i64 0) (.int .i64 0))
   have Xt := Lib.hid (F62_t.out.far6 (D := g_D) (fun k hk => by cases hk; exact N60_D.out.symm) (.slice (some ⟨g_c, 0, none⟩) 0 WN) (.slice (some ⟨g_l, 0, none⟩) WN WN) (.slice (some ⟨g_t, 0, none⟩) TN TN) (.int .i64 0) (.int .i64 0) (.int .i64 0))
   have XN0 := Lib.hid (show g_c ≠ g_l from N62_c.out)
   have XN1 := Lib.hid (show g_c ≠ g_t from N61_t.out.symm)
   have XN2 := Lib.hid (show g_l ≠ g_t from N62_t.out.symm)
   have XMc := Lib.hid (show g_c ≠ g_D from N61_D.out.symm)
   have XMl := Lib.hid (show g_l ≠ g_D from N62_D.out.symm)
   have XMt := Lib.hid (show g_t ≠ g_D from N60_D.out.symm)
   have XGc := Lib.hid G61.out
   have XGl := Lib.hid G62.out
   have XGt := Lib.hid G60.out
   have XGD := Lib.hid G49.out
   refine hK.out _ _ trivial (fun hHeld => ?_)
   clear hK K hHeld
   (try simp only [Act.put, List.setIfInBounds_toArray, List.set_cons_zero, List.set_cons_succ])
   refine wpAnyH_done (by kernel_rfl) ?_ _
   clear B62 F62 F62_D F62_c F62_t G49 G60 G61 G62 N60_D N61_D N61_t N62_D N62_c N62_t S62 T62 T62_D T62_c T62_t
   generalize (((((v62.setCell ⟨g_D, 0, none⟩ (.slice (some ⟨g_c, 0, none⟩) 0 WN)).setCell ⟨g_D, 1, none⟩ (.slice (some ⟨g_l, 0, none⟩) WN WN)).setCell ⟨g_D, 2, none⟩ (.slice (some ⟨g_t, 0, none⟩) TN TN)).setCell ⟨g_D, 3, none⟩ (.int .i64 0)).setCell ⟨g_D, 4, none⟩ (.int .i64 0)).setCell ⟨g_D, 5, none⟩ (.int .i64 0) = vx at *
   go_wp2_with fail
   go_meet
   exact ⟨g_D, g_c, g_l, g_t, rfl, XB, Xc, Xl, Xt, XD, Lib.hid ⟨XN0.out, XN1.out, XN2.out, XMc.out, XMl.out, XMt.out, XGD.out, XGc.out, XGl.out, XGt.out⟩⟩
  refine AllReadyH.cons (o := ⟨some 28, _, _, _, _, _⟩) rfl (fun K hK => ?_) AllReadyH.nil
  refine Lk.wp_made (K := KL) v60 _ _ rfl rfl _ _ WN WN _ _ rfl rfl rfl rfl (.inl rfl) lo0 rfl ⟨by decide, by decide⟩ (by omega) ?_
  intro v63 ho hb hl
  have F63 := Lib.hid (ho.mono S60.out)
  have B63 := Lib.hid (B60.out.trans (hb.mono S60.out))
  have S63 := Lib.hid (Nat.le_trans S60.out (Nat.le_of_lt hl))
  have T63 := Lib.hid hl
  have G63 := Lib.hid S60.out
  have F63_t := Lib.hid (F60.out.below hb)
  have T63_t := Lib.hid (Nat.lt_trans T60.out hl)
  have N63_t := Lib.hid (Nat.ne_of_lt T60.out)
  have F63_D := Lib.hid (F60_D.out.below hb)
  have T63_D := Lib.hid (Nat.lt_trans T60_D.out hl)
  have N63_D := Lib.hid (Nat.ne_of_lt T60_D.out)
  clear hb hl ho B60 S60 F60 T60 F60_D T60_D
  generalize v60.heap.size = g_l at *
  refine hK.out _ _ trivial (fun hHeld => ?_)
  clear hK K hHeld
  (try simp only [Act.put, List.setIfInBounds_toArray, List.set_cons_zero, List.set_cons_succ])
  refine wpAnyH_ready (rs := [1]) (by kernel_rfl) (by simp) ?_
  refine AllReadyH.cons (o := ⟨some 26, _, _, _, _, _⟩) rfl (fun K hK => ?_) AllReadyH.nil
  refine Lk.wp_made (K := KE) v63 _ _ rfl rfl _ _ 0 WN _ _ rfl rfl rfl rfl (.inr rfl) ce0 rfl ⟨by decide, by decide, by decide⟩ (by omega) ?_
  intro v64 ho hb hl
  have F64 := Lib.hid (ho.mono S63.out)
  have B64 := Lib.hid (B63.out.trans (hb.mono S63.out))
  have S64 := Lib.hid (Nat.le_trans S63.out (Nat.le_of_lt hl))
  have T64 := Lib.hid hl
  have G64 := Lib.hid S63.out
  have F64_l := Lib.hid (F63.out.below hb)
  have T64_l := Lib.hid (Nat.lt_trans T63.out hl)
  have N64_l := Lib.hid (Nat.ne_of_lt T63.out)
  have F64_t := Lib.hid (F63_t.out.below hb)
  have T64_t := Lib.hid (Nat.lt_trans T63_t.out hl)
  have N64_t := Lib.hid (Nat.ne_of_lt T63_t.out)
  have F64_D := Lib.hid (F63_D.out.below hb)
  have T64_D := Lib.hid (Nat.lt_trans T63_D.out hl)
  have N64_D := Lib.hid (Nat.ne_of_lt T63_D.out)
  clear hb hl ho B63 S63 F63 T63 F63_t T63_t F63_D T63_D
  generalize v63.heap.size = g_c at *
  refine hK.out _ _ trivial (fun hHeld => ?_)
  clear hK K hHeld
  (try simp only [Act.put, List.setIfInBounds_toArray, List.set_cons_zero, List.set_cons_succ])
  have hHeld : True := trivial
  refine wpAnyH_take (i := 6) (oi := ⟨some 31, _, _, _, _, _⟩) (v := ?_) rfl (by kernel_rfl) (by kernel_rfl) (by kernel_rfl) (fun _ _ _ h => h) (Or.inl ⟨by kernel_rfl, ?_⟩) (by assumption) ?_
  rotate_left 1
  ·((intro w hSw; (try dsimp only at hSw); go_simp) <;> (try with_reducible rfl))
  (try simp only [Act.put, List.setIfInBounds_toArray, List.set_cons_zero, List.set_cons_succ])
  clear hHeld
  refine wpAnyH_ready (rs := [8]) (by kernel_rfl) (by simp) ?_
  refine AllReadyH.cons (o := ⟨none, _, _, _, _, _⟩) rfl (fun K hK => ?_) AllReadyH.nil
  obtain ⟨s0, s1, s2, s3, s4, s5, y0, y1, y2, y3, y4, y5, sl⟩ := F64_D.out
  go_simp
  clear s0 s1 s2 s3 s4 s5 y0 y1 y2 y3 y4 y5 sl
  have XD := Lib.hid (F64_D.out.set (.slice (some ⟨g_c, 0, none⟩) 0 WN) (.slice (some ⟨g_l, 0, none⟩) WN WN) (.slice (some ⟨g_t, 0, none⟩) TN TN) (.int .i64 0) (.int .i64 0) (.int .i64 0))
  have XB := Lib.hid (below_set6 B64.out G49.out (.slice (some ⟨g_c, 0, none⟩) 0 WN) (.slice (some ⟨g_l, 0, none⟩) WN WN) (.slice (some ⟨g_t, 0, none⟩) TN TN) (.int .i64 0) (.int .i64 0) (.int .i64 0))
  have Xc := Lib.hid (F64.out.far6 (D := g_D) (fun k hk => by cases hk; exact N64_D.out.symm) (.slice (some ⟨g_c, 0, none⟩) 0 WN) (.slice (some ⟨g_l, 0, none⟩) WN WN) (.slice (some ⟨g_t, 0, none⟩) TN TN) (.int .i64 0) (.int .i64 0) (.int .i64 0))
  have Xl := Lib.hid (F64_l.out.far6 (D := g_D) (fun k hk => by cases hk; exact N63_D.out.symm) (.slice (some ⟨g_c, 0, none⟩) 0 WN) (.slice (some ⟨g_l, 0, none⟩) WN WN) (.slice (some ⟨g_t, 0, none⟩) TN TN) (.int .i64 0) (.int .i64 0) (.int .i64 0))
  have Xt := Lib.hid (F64_t.out.far6 (D := g_D) (fun k hk => by cases hk; exact N60_D.out.symm) (.slice (some ⟨g_c, 0, none⟩) 0 WN) (.slice (some ⟨g_l, 0, none⟩) WN WN) (.slice (some ⟨g_t, 0, none⟩) TN TN) (.int .i64 0) (.int .i64 0) (.int .i64 0))
  have XN0 := Lib.hid (show g_c ≠ g_l from N64_l.out.symm)
  have XN1 := Lib.hid (show g_c ≠ g_t from N64_t.out.symm)
  have XN2 := Lib.hid (show g_l ≠ g_t from N63_t.out.symm)
  have XMc := Lib.hid (show g_c ≠ g_D from N64_D.out.symm)
  have XMl := Lib.hid (show g_l ≠ g_D from N63_D.out.symm)
  have XMt := Lib.hid (show g_t ≠ g_D from N60_D.out.symm)
  have XGc := Lib.hid G64.out
  have XGl := Lib.hid G63.out
  have XGt := Lib.hid G60.out
  have XGD := Lib.hid G49.out
  refine hK.out _ _ trivial (fun hHeld => ?_)
  clear hK K hHeld
  (try simp only [Act.put, List.setIfInBounds_toArray, List.set_cons_zero, List.set_cons_succ])
  refine wpAnyH_done (by kernel_rfl) ?_ _
  clear B64 F64 F64_D F64_l F64_t G49 G60 G63 G64 N60_D N63_D N63_t N64_D N64_l N64_t S64 T64 T64_D T64_l T64_t
  generalize (((((v64.setCell ⟨g_D, 0, none⟩ (.slice (some ⟨g_c, 0, none⟩) 0 WN)).setCell ⟨g_D, 1, none⟩ (.slice (some ⟨g_l, 0, none⟩) WN WN)).setCell ⟨g_D, 2, none⟩ (.slice (some ⟨g_t, 0, none⟩) TN TN)).setCell ⟨g_D, 3, none⟩ (.int .i64 0)).setCell ⟨g_D, 4, none⟩ (.int .i64 0)).setCell ⟨g_D, 5, none⟩ (.int .i64 0) = vx at *
  go_wp2_with fail
  go_meet
  exact ⟨g_D, g_c, g_l, g_t, rfl, XB, Xc, Xl, Xt, XD, Lib.hid ⟨XN0.out, XN1.out, XN2.out, XMc.out, XMl.out, XMt.out, XGD.out, XGc.out, XGl.out, XGt.out⟩⟩
 case rest =>
  obtain ⟨W3, hW3⟩ : ∃ W3, W3 = wc := ⟨_, rfl⟩
  subst hW3
  obtain ⟨D, gc, gl, gt, rfl, hb3, hc, hl, ht, hD, hne⟩ := hcut
  have HB3' := Lib.hid hb3.out
  have HB3 := Lib.hid (Below.call HB2.out hb3.out)
  have HK3 := Lib.hid (HK2.out.below hb3.out)
  have HR3 := Lib.hid (HR2.out.below hb3.out)
  have HD3 := Lib.hid (HD2.out.then hb3.out)
  have HOC := Lib.hid hc.out
  have HOL := Lib.hid hl.out
  have HOT := Lib.hid ht.out
  have HCD := Lib.hid hD.out
  have HNE := Lib.hid hne.out
  have hWs := HB2.out.size
  have hRs : w.heap.size + 1 < w2.heap.size := by obtain ⟨_, _, _, _, _, _, _, _, _, _, _, _, h⟩ := HR2.out; exact h
  have HKs := Lib.hid (show w.heap.size + 1 < w2.heap.size from hRs)
  have HDW := HD2
  have HRW := HR2
  clear hb3 hc hl ht hD hne hWs hRs HK2 HR2 HD2
  obtain ⟨d0, d1, d2, d3, _⟩ := HK3.out
  obtain ⟨pA, hpA⟩ : ∃ x, d.pA = x := ⟨_, rfl⟩
  obtain ⟨pn, hpn⟩ : ∃ x, d.pn = x := ⟨_, rfl⟩
  rw [hpA, hpn] at d1
  have HPA := Lib.hid hpA
  have HPN := Lib.hid hpn
  clear hpA hpn
  have HCL := Lib.hid (fun q h1 h2 w h3 => cellsOf_any q h1 h2 w h3)
  go_wp2
  clear d0 d1 d2 d3
  go_loopw [35] (fun i wr => ∃ (k : Nat) (vC : Value), i = .int .i64 k ∧ k ≤ d.pl.length ∧ Hid (Cells6 wr D vC (.slice (some ⟨gl, 0, none⟩) (wellN d) (wellN d)) (.slice (some ⟨gt, 0, none⟩) (tipN d) (tipN d)) (.int .i64 0) (.int .i64 0) (.int .i64 0)) ∧ Hid (KE.Own wr w2.heap.size vC (newCn d.pl k)) ∧
    Hid (KL.Own wr w2.heap.size (.slice (some ⟨gl, 0, none⟩) (wellN d) (wellN d)) (List.replicate (wellN d) lo0)) ∧ Hid (KT.Own wr w2.heap.size (.slice (some ⟨gt, 0, none⟩) (tipN d) (tipN d)) (List.replicate (tipN d) (0, 0))) ∧ Hid (∀ b, vC.ownBlock = some b → b ≠ D ∧ b ≠ gl ∧ b ≠ gt) ∧ Hid (Below w2.heap.size w2 wr)) (fun i _ => d.pl.length - (intOf i).toNat)
  case atStart => exact ⟨0, _, rfl, Nat.zero_le _, HCD, HOC, HOL, HOT, Lib.hid (fun b hb => by cases hb; exact ⟨HNE.out.2.2.2.1, HNE.out.1, HNE.out.2.1⟩), HB3'⟩
  case round =>
   obtain ⟨k, vC, rfl, hk, hD, hc, hl, ht, hn, hb⟩ := hrel
   have HCD := Lib.hid hD.out
   have HOC := Lib.hid hc.out
   have HOL := Lib.hid hl.out
   have HOT := Lib.hid ht.out
   have HNV := Lib.hid hn.out
   have HBR := Lib.hid hb.out
   clear hD hc hl ht hn hb
   have hpn := HD3.out.p.len
   rw [HPN.out] at hpn
   subst hpn
   by_cases hlt : k < d.pl.length
   ·obtain ⟨b, off, hA, hb, hcp, hcell⟩ := plate_cells (HDW.out.then HBR.out).p (by omega)
    obtain ⟨c0, c1, c2, c3, c4, c5, c6⟩ := hcell k hlt
    have HSN := Lib.hid (newCn_snoc d.pl k)
    have HPB := Lib.hid (HOK.out.pl k hlt)
    have HPO := Lib.hid (HDW.out.p.okAt k hlt)
    have HPS := Lib.hid ((HDW.out.then HBR.out).s _ (getD_mem' d.pl k KP.dflt hlt))
    have HLN := Lib.hid (newCn_len d.pl HOK.out.pl k (by omega))
    have HLM := Lib.hid ((wells_bd d.pl (fun i hi => plate_size (HOK.out.pl i hi)) k (by omega)).2)
    have HP4 := Lib.hid HOK.out.p4
    have hp4 := HOK.out.p4
    rw [HPA.out] at hA
    subst hA
    clear hcell
    generalize newCn d.pl k = L at *
    generalize d.pl.getD k KP.dflt = q at *
    obtain ⟨a1, a2, X, P, R, cap, sA, sn, sc, st⟩ := q
    dsimp only at *
    have hbw : b < wr.heap.size := hb
    have hsf := fun (w : World) (a : Addr) (m : Mode) (b : Nat) => run_store_float (P := Try.prog) (w := w) (a := a) (m := m) .f64 b
    go_wp2_with fail
    have HFP := Lib.hid (show ∀ w1, Below (wr.alloc (.cells #[.int .i64 a1, .int .i64 a2, .float .f64 X, .float .f64 P, .float .f64 R, .int .i64 cap, .slice sA sn sc] 72)).heap.size (wr.alloc (.cells #[.int .i64 a1, .int .i64 a2, .float .f64 X, .float .f64 P, .float .f64 R, .int .i64 cap, .slice sA sn sc] 72)) w1 → (w1.cell? ⟨wr.heap.size, 0, none⟩ = some (.int .i64 a1) ∧ w1.cell? ⟨wr.heap.size, 1, none⟩ = some (.int .i64 a2) ∧ w1.cell? ⟨wr.heap.size, 2, none⟩ = some (.float .f64 X) ∧ w1.cell? ⟨wr.heap.size, 3, none⟩ = some (.float .f64 P) ∧ w1.cell? ⟨wr.heap.size, 4, none⟩ = some (.float .f64 R) ∧ w1.cell? ⟨wr.heap.size, 5, none⟩ = some (.int .i64 cap) ∧ w1.cell? ⟨wr.heap.size, 6, none⟩ = some (.slice sA sn sc)) from by
     intro w1 hb
     refine ⟨keep_cell hb ?_, keep_cell hb ?_, keep_cell hb ?_, keep_cell hb ?_, keep_cell hb ?_, keep_cell hb ?_, keep_cell hb ?_⟩
     all_goals simp [go_sem])
    have hbV := Below.al (Below.refl wr.heap.size wr) (.cells #[.int .i64 a1, .int .i64 a2, .float .f64 X, .float .f64 P, .float .f64 R, .int .i64 cap, .slice sA sn sc] 72)
    have HPZ := Lib.hid (show wr.heap.size < (wr.alloc (.cells #[.int .i64 a1, .int .i64 a2, .float .f64 X, .float .f64 P, .float .f64 R, .int .i64 cap, .slice sA sn sc] 72)).heap.size by simp)
    have HPX := Lib.hid (show vC.ownBlock ≠ some wr.heap.size from fun h => Nat.lt_irrefl _ (HOC.out.lt _ h).2)
    have HPD := Lib.hid (show D ≠ wr.heap.size from by obtain ⟨_, _, _, _, _, _, _, _, _, _, _, _, h⟩ := HCD.out; exact Nat.ne_of_lt h)
    generalize wr.alloc (.cells #[.int .i64 a1, .int .i64 a2, .float .f64 X, .float .f64 P, .float .f64 R, .int .i64 cap, .slice sA sn sc] 72) = V at *
    obtain ⟨p0, p1, p2, p3, p4, p5, p6⟩ := HFP.out V.drew (Below.refl _ _).drew
    have hbd := Below.call hbV (Below.refl _ V).drew
    have hbd2 := (Below.refl V.heap.size V).drew
    clear c0 c1 c2 c3 c4 c5 c6
    refine wp_region_held_drew (S := fun w' => w'.cell? ⟨wr.heap.size, 0, none⟩ = some (.int .i64 a1) ∧ w'.cell? ⟨wr.heap.size, 1, none⟩ = some (.int .i64 a2) ∧ w'.cell? ⟨wr.heap.size, 2, none⟩ = some (.float .f64 X) ∧ w'.cell? ⟨wr.heap.size, 3, none⟩ = some (.float .f64 P) ∧ w'.cell? ⟨wr.heap.size, 4, none⟩ = some (.float .f64 R) ∧ w'.cell? ⟨wr.heap.size, 5, none⟩ = some (.int .i64 cap) ∧ w'.cell? ⟨wr.heap.size, 6, none⟩ = some (.slice sA sn sc)) (by kernel_rfl) ?_ (fun hHeld => ?_)
    ·exact ⟨p0, p1, p2, p3, p4, p5, p6⟩
    clear p0 p1 p2 p3 p4 p5 p6 hHeld
    have BW := Lib.hid hbd
    have BV := Lib.hid hbd2
    have HPZ := Lib.hid (show wr.heap.size < V.drew.heap.size from HPZ.out)
    clear hbV hbd hbd2
    generalize V.drew = v0 at *
    have A0 := Lib.hid (HCD.out.below BW.out)
    have A1 := Lib.hid (HOC.out.below BW.out)
    have A2 := Lib.hid (HOL.out.below BW.out)
    have A3 := Lib.hid (HOT.out.below BW.out)
    have A4 := Lib.hid (HBR.out.trans (BW.out.mono HBR.out.size))
    have A5 := Lib.hid (HPS.out.then BW.out)
    have A6 := Lib.hid (Nat.le_trans HBR.out.size BW.out.size)
    have hHeld := HFP.out v0 BV.out
    refine wpAnyH_take (i := 0) (oi := ⟨some 39, _, _, _, _, _⟩) (v := ?_) rfl (by kernel_rfl) (by kernel_rfl) (by kernel_rfl) (fun _ _ _ h => h) (Or.inl ⟨by kernel_rfl, ?_⟩) (by assumption) ?_
    rotate_left 1
    ·((intro w hSw; (try dsimp only at hSw); go_simp) <;> (try with_reducible rfl))
    (try simp only [Act.put, List.setIfInBounds_toArray, List.set_cons_zero, List.set_cons_succ])
    refine wpAnyH_take (i := 2) (oi := ⟨some 41, _, _, _, _, _⟩) (v := ?_) rfl (by kernel_rfl) (by kernel_rfl) (by kernel_rfl) (fun _ _ _ h => h) (Or.inl ⟨by kernel_rfl, ?_⟩) (by assumption) ?_
    rotate_left 1
    ·((intro w hSw; (try dsimp only at hSw); go_simp) <;> (try with_reducible rfl))
    (try simp only [Act.put, List.setIfInBounds_toArray, List.set_cons_zero, List.set_cons_succ])
    clear hHeld
    have hHeld := HFP.out v0 BV.out
    refine wpAnyH_ready (rs := [1, 3]) (by kernel_rfl) (by simp) ?_
    refine AllReadyH.cons (o := ⟨some 40, _, _, _, _, _⟩) rfl (fun K hK => ?_) ?_
    ·obtain ⟨e0, _⟩ := A0.out
     go_simp
     refine hK.out _ _ hHeld (fun hHeld => ?_)
     clear hK K
     clear e0
     (try simp only [Act.put, List.setIfInBounds_toArray, List.set_cons_zero, List.set_cons_succ])
     refine wpAnyH_ready (rs := [3]) (by kernel_rfl) (by simp) ?_
     refine AllReadyH.cons (o := ⟨some 42, _, _, _, _, _⟩) rfl (fun K hK => ?_) AllReadyH.nil
     go_simp
     refine (HCL.out ⟨a1, a2, X, P, R, cap, sA, sn, sc, st⟩ HPB.out HPO.out _ A5.out).mono ?_
     rintro e v1 ⟨vP, rfl, ho, hb⟩
     have HOP := Lib.hid ho
     have A0 := Lib.hid (A0.out.below hb)
     have A1 := Lib.hid (A1.out.below hb)
     have A2 := Lib.hid (A2.out.below hb)
     have A3 := Lib.hid (A3.out.below hb)
     have A4 := Lib.hid (A4.out.trans (hb.mono A6.out))
     have A6 := Lib.hid (Nat.le_trans A6.out hb.size)
     have HPZ := Lib.hid (Nat.lt_of_lt_of_le HPZ.out hb.size)
     have BV := Lib.hid (Below.call BV.out hb)
     go_wp2_with fail
     clear ho hb
     refine hK.out _ _ (HFP.out v1 BV.out) (fun hHeld => ?_)
     clear hK K
     (try simp only [Act.put, List.setIfInBounds_toArray, List.set_cons_zero, List.set_cons_succ])
     refine wpAnyH_ready (rs := [4]) (by kernel_rfl) (by simp) ?_
     refine AllReadyH.cons (o := ⟨some 43, _, _, _, _, _⟩) rfl (fun K hK => ?_) AllReadyH.nil
     have hIP := HOP.out.isL (by rw [plC_len]; have := (plN_eq HPB.out).2.2.1; omega)
     refine Lk.wp_app (K := KE) v1 _ _ rfl rfl w2.heap.size v1.heap.size vC vP L _ rfl rfl A1.out hIP ?_ A6.out ?_
     ·rw [plC_len]; have := (plN_eq HPB.out).2.2.1; have := HLN.out; have := HLM.out; have := HP4.out; omega
     intro vN' v2 ho hg hnb
     obtain ⟨AN, cN, hvN, _⟩ := (ho.isL (by rw [List.length_append, plC_len]; have := (plN_eq HPB.out).2.2.1; have := HLN.out; have := HLM.out; have := HP4.out; omega)).shape
     obtain ⟨nN, hnN⟩ : ∃ n, (L ++ plC ⟨a1, a2, X, P, R, cap, sA, sn, sc, st⟩).length = n := ⟨_, rfl⟩
     rw [hnN] at hvN
     subst hvN
     clear hnN
     have hne : ∀ b, vC.ownBlock = some b → b < v1.heap.size := fun b hb => (A1.out.lt b hb).2
     have B0 := Lib.hid (A0.out.grown hg (fun h => (HNV.out D h.symm).1 rfl))
     have B2 := Lib.hid (A2.out.kept hg (Or.inr (fun h => (HNV.out gl h.symm).2.1 rfl)))
     have B3 := Lib.hid (A3.out.kept hg (Or.inr (fun h => (HNV.out gt h.symm).2.2 rfl)))
     have B4 := Lib.hid (Lk.Own.grow' (K := KE) A1.out A4.out A6.out hg)
     have B1 := Lib.hid ho
     have hDl : D < v1.heap.size := by obtain ⟨_, _, _, _, _, _, _, _, _, _, _, _, h⟩ := A0.out; exact h
     have hgl : gl < v1.heap.size := (A2.out.lt gl rfl).2
     have hgt : gt < v1.heap.size := (A3.out.lt gt rfl).2
     have B5 := Lib.hid (show ∀ b, (Value.slice AN nN cN).ownBlock = some b → b ≠ D ∧ b ≠ gl ∧ b ≠ gt from fun b hb => by
      rcases hnb with h | h
      ·exact HNV.out b (by rw [← h]; exact hb)
      ·rw [h] at hb
       cases hb
       exact ⟨by omega, by omega, by omega⟩)
     have hne1 := HPX.out
     have hfarP : ∀ i v, v1.cell? ⟨wr.heap.size, i, none⟩ = some v → v2.cell? ⟨wr.heap.size, i, none⟩ = some v := fun i v h => (hg.cell_far ⟨wr.heap.size, i, none⟩ HPZ.out (fun e => HPX.out e.symm)).trans h
     have hcl := HFP.out v1 BV.out
     obtain ⟨q0, q1, q2, q3, q4, q5, q6⟩ := hcl
     have hS2 := And.intro (hfarP 0 _ q0) (And.intro (hfarP 1 _ q1) (And.intro (hfarP 2 _ q2) (And.intro (hfarP 3 _ q3) (And.intro (hfarP 4 _ q4) (And.intro (hfarP 5 _ q5) (hfarP 6 _ q6))))))
     have hSP := Lib.hid hS2
     clear ho hg hnb hne hDl hgl hgt hne1 hfarP q0 q1 q2 q3 q4 q5 q6
     refine hK.out _ _ hS2 (fun hHeld => ?_)
     clear hK K
     clear A0 A1 A2 A3 A4 A6 HOP hIP hS2
     (try simp only [Act.put, List.setIfInBounds_toArray, List.set_cons_zero, List.set_cons_succ])
     refine wpAnyH_take (i := 5) (oi := ⟨some 44, _, _, _, _, _⟩) (v := ?_) rfl (by kernel_rfl) (by kernel_rfl) (by kernel_rfl) (fun _ _ _ h => h) (Or.inl ⟨by kernel_rfl, ?_⟩) (by assumption) ?_
     rotate_left 1
     ·((intro w hSw; (try dsimp only at hSw); go_simp) <;> (try with_reducible rfl))
     (try simp only [Act.put, List.setIfInBounds_toArray, List.set_cons_zero, List.set_cons_succ])
     refine wpAnyH_ready (rs := [6]) (by kernel_rfl) (by simp) ?_
     refine AllReadyH.cons (o := ⟨none, _, _, _, _, _⟩) rfl (fun K hK => ?_) AllReadyH.nil
     obtain ⟨e0, e1, e2, e3, e4, e5, y0, y1, y2, y3, y4, y5, yl⟩ := B0.out
     go_simp
     clear e0 e1 e2 e3 e4 e5 y0 y1 y2 y3 y4 y5 yl
     have C0 := Lib.hid (B0.out.s (.slice AN nN cN)).1
     have C1 := Lib.hid (B1.out.far (D := D) (fun k hk => (B5.out k hk).1) 0 (.slice AN nN cN))
     have C2 := Lib.hid (B2.out.far (D := D) (fun k hk => by cases hk; exact HNE.out.2.2.2.2.1) 0 (.slice AN nN cN))
     have C3 := Lib.hid (B3.out.far (D := D) (fun k hk => by cases hk; exact HNE.out.2.2.2.2.2.1) 0 (.slice AN nN cN))
     have C4 := Lib.hid (show Below w2.heap.size w2 (v2.setCell ⟨D, 0, none⟩ (.slice AN nN cN)) from B4.out.setCell HNE.out.2.2.2.2.2.2.1 _)
     have hst := HPD.out
     obtain ⟨q0, q1, q2, q3, q4, q5, q6⟩ := hSP.out
     have hS3 := And.intro (st_other (v := .slice AN nN cN) q0 (ad_ne (a := D) (b := 0) (.inl hst))) (And.intro (st_other (v := .slice AN nN cN) q1 (ad_ne (a := D) (b := 0) (.inl hst))) (And.intro (st_other (v := .slice AN nN cN) q2 (ad_ne (a := D) (b := 0) (.inl hst))) (And.intro (st_other (v := .slice AN nN cN) q3 (ad_ne (a := D) (b := 0) (.inl hst))) (And.intro (st_other (v := .slice AN nN cN) q4 (ad_ne (a := D) (b := 0) (.inl hst))) (And.intro (st_other (v := .slice AN nN cN) q5 (ad_ne (a := D) (b := 0) (.inl hst))) (st_other (v := .slice AN nN cN) q6 (ad_ne (a := D) (b := 0) (.inl hst))))))))
     clear q0 q1 q2 q3 q4 q5 q6 hst
     refine hK.out _ _ hS3 (fun hHeld => ?_)
     clear hK K
     clear hS3 hHeld B0 B1 B2 B3 B4
     (try simp only [Act.put, List.setIfInBounds_toArray, List.set_cons_zero, List.set_cons_succ])
     refine wpAnyH_done (by kernel_rfl) ?_ _
     clear hSP BV HPZ
     generalize v2.setCell ⟨D, 0, none⟩ (.slice AN nN cN) = vx at *
     go_wp2
     go_roundw
     case rel => exact ⟨k + 1, .slice AN nN cN, num_i (by omega), by omega, C0, Lib.hid (by rw [HSN.out]; exact C1.out), C2, C3, B5, C4⟩
     case measure => simp [intOf]; omega
    refine AllReadyH.cons (o := ⟨some 42, _, _, _, _, _⟩) rfl (fun K hK => ?_) AllReadyH.nil
    go_simp
    refine (HCL.out ⟨a1, a2, X, P, R, cap, sA, sn, sc, st⟩ HPB.out HPO.out _ A5.out).mono ?_
    rintro e v1 ⟨vP, rfl, ho, hb⟩
    have HOP := Lib.hid ho
    have A0 := Lib.hid (A0.out.below hb)
    have A1 := Lib.hid (A1.out.below hb)
    have A2 := Lib.hid (A2.out.below hb)
    have A3 := Lib.hid (A3.out.below hb)
    have A4 := Lib.hid (A4.out.trans (hb.mono A6.out))
    have A6 := Lib.hid (Nat.le_trans A6.out hb.size)
    have HPZ := Lib.hid (Nat.lt_of_lt_of_le HPZ.out hb.size)
    have BV := Lib.hid (Below.call BV.out hb)
    go_wp2_with fail
    clear ho hb
    refine hK.out _ _ (HFP.out v1 BV.out) (fun hHeld => ?_)
    clear hK K
    (try simp only [Act.put, List.setIfInBounds_toArray, List.set_cons_zero, List.set_cons_succ])
    have hHeld2 := HFP.out v1 BV.out
    refine wpAnyH_ready (rs := [1]) (by kernel_rfl) (by simp) ?_
    refine AllReadyH.cons (o := ⟨some 40, _, _, _, _, _⟩) rfl (fun K hK => ?_) AllReadyH.nil
    obtain ⟨e0, _⟩ := A0.out
    go_simp
    refine hK.out _ _ hHeld (fun hHeld => ?_)
    clear hK K
    clear e0
    (try simp only [Act.put, List.setIfInBounds_toArray, List.set_cons_zero, List.set_cons_succ])
    refine wpAnyH_ready (rs := [4]) (by kernel_rfl) (by simp) ?_
    refine AllReadyH.cons (o := ⟨some 43, _, _, _, _, _⟩) rfl (fun K hK => ?_) AllReadyH.nil
    have hIP := HOP.out.isL (by rw [plC_len]; have := (plN_eq HPB.out).2.2.1; omega)
    refine Lk.wp_app (K := KE) v1 _ _ rfl rfl w2.heap.size v1.heap.size vC vP L _ rfl rfl A1.out hIP ?_ A6.out ?_
    ·rw [plC_len]; have := (plN_eq HPB.out).2.2.1; have := HLN.out; have := HLM.out; have := HP4.out; omega
    intro vN' v2 ho hg hnb
    obtain ⟨AN, cN, hvN, _⟩ := (ho.isL (by rw [List.length_append, plC_len]; have := (plN_eq HPB.out).2.2.1; have := HLN.out; have := HLM.out; have := HP4.out; omega)).shape
    obtain ⟨nN, hnN⟩ : ∃ n, (L ++ plC ⟨a1, a2, X, P, R, cap, sA, sn, sc, st⟩).length = n := ⟨_, rfl⟩
    rw [hnN] at hvN
    subst hvN
    clear hnN
    have hne : ∀ b, vC.ownBlock = some b → b < v1.heap.size := fun b hb => (A1.out.lt b hb).2
    have B0 := Lib.hid (A0.out.grown hg (fun h => (HNV.out D h.symm).1 rfl))
    have B2 := Lib.hid (A2.out.kept hg (Or.inr (fun h => (HNV.out gl h.symm).2.1 rfl)))
    have B3 := Lib.hid (A3.out.kept hg (Or.inr (fun h => (HNV.out gt h.symm).2.2 rfl)))
    have B4 := Lib.hid (Lk.Own.grow' (K := KE) A1.out A4.out A6.out hg)
    have B1 := Lib.hid ho
    have hDl : D < v1.heap.size := by obtain ⟨_, _, _, _, _, _, _, _, _, _, _, _, h⟩ := A0.out; exact h
    have hgl : gl < v1.heap.size := (A2.out.lt gl rfl).2
    have hgt : gt < v1.heap.size := (A3.out.lt gt rfl).2
    have B5 := Lib.hid (show ∀ b, (Value.slice AN nN cN).ownBlock = some b → b ≠ D ∧ b ≠ gl ∧ b ≠ gt from fun b hb => by
     rcases hnb with h | h
     ·exact HNV.out b (by rw [← h]; exact hb)
     ·rw [h] at hb
      cases hb
      exact ⟨by omega, by omega, by omega⟩)
    have hne1 := HPX.out
    have hfarP : ∀ i v, v1.cell? ⟨wr.heap.size, i, none⟩ = some v → v2.cell? ⟨wr.heap.size, i, none⟩ = some v := fun i v h => (hg.cell_far ⟨wr.heap.size, i, none⟩ HPZ.out (fun e => HPX.out e.symm)).trans h
    have hcl := HFP.out v1 BV.out
    obtain ⟨q0, q1, q2, q3, q4, q5, q6⟩ := hcl
    have hS2 := And.intro (hfarP 0 _ q0) (And.intro (hfarP 1 _ q1) (And.intro (hfarP 2 _ q2) (And.intro (hfarP 3 _ q3) (And.intro (hfarP 4 _ q4) (And.intro (hfarP 5 _ q5) (hfarP 6 _ q6))))))
    have hSP := Lib.hid hS2
    clear ho hg hnb hne hDl hgl hgt hne1 hfarP q0 q1 q2 q3 q4 q5 q6
    refine hK.out _ _ hS2 (fun hHeld => ?_)
    clear hK K
    clear A0 A1 A2 A3 A4 A6 HOP hIP hS2
    (try simp only [Act.put, List.setIfInBounds_toArray, List.set_cons_zero, List.set_cons_succ])
    refine wpAnyH_take (i := 5) (oi := ⟨some 44, _, _, _, _, _⟩) (v := ?_) rfl (by kernel_rfl) (by kernel_rfl) (by kernel_rfl) (fun _ _ _ h => h) (Or.inl ⟨by kernel_rfl, ?_⟩) (by assumption) ?_
    rotate_left 1
    ·((intro w hSw; (try dsimp only at hSw); go_simp) <;> (try with_reducible rfl))
    (try simp only [Act.put, List.setIfInBounds_toArray, List.set_cons_zero, List.set_cons_succ])
    refine wpAnyH_ready (rs := [6]) (by kernel_rfl) (by simp) ?_
    refine AllReadyH.cons (o := ⟨none, _, _, _, _, _⟩) rfl (fun K hK => ?_) AllReadyH.nil
    obtain ⟨e0, e1, e2, e3, e4, e5, y0, y1, y2, y3, y4, y5, yl⟩ := B0.out
    go_simp
    clear e0 e1 e2 e3 e4 e5 y0 y1 y2 y3 y4 y5 yl
    have C0 := Lib.hid (B0.out.s (.slice AN nN cN)).1
    have C1 := Lib.hid (B1.out.far (D := D) (fun k hk => (B5.out k hk).1) 0 (.slice AN nN cN))
    have C2 := Lib.hid (B2.out.far (D := D) (fun k hk => by cases hk; exact HNE.out.2.2.2.2.1) 0 (.slice AN nN cN))
    have C3 := Lib.hid (B3.out.far (D := D) (fun k hk => by cases hk; exact HNE.out.2.2.2.2.2.1) 0 (.slice AN nN cN))
    have C4 := Lib.hid (show Below w2.heap.size w2 (v2.setCell ⟨D, 0, none⟩ (.slice AN nN cN)) from B4.out.setCell HNE.out.2.2.2.2.2.2.1 _)
    have hst := HPD.out
    obtain ⟨q0, q1, q2, q3, q4, q5, q6⟩ := hSP.out
    have hS3 := And.intro (st_other (v := .slice AN nN cN) q0 (ad_ne (a := D) (b := 0) (.inl hst))) (And.intro (st_other (v := .slice AN nN cN) q1 (ad_ne (a := D) (b := 0) (.inl hst))) (And.intro (st_other (v := .slice AN nN cN) q2 (ad_ne (a := D) (b := 0) (.inl hst))) (And.intro (st_other (v := .slice AN nN cN) q3 (ad_ne (a := D) (b := 0) (.inl hst))) (And.intro (st_other (v := .slice AN nN cN) q4 (ad_ne (a := D) (b := 0) (.inl hst))) (And.intro (st_other (v := .slice AN nN cN) q5 (ad_ne (a := D) (b := 0) (.inl hst))) (st_other (v := .slice AN nN cN) q6 (ad_ne (a := D) (b := 0) (.inl hst))))))))
    clear q0 q1 q2 q3 q4 q5 q6 hst
    refine hK.out _ _ hS3 (fun hHeld => ?_)
    clear hK K
    clear hS3 hHeld B0 B1 B2 B3 B4
    (try simp only [Act.put, List.setIfInBounds_toArray, List.set_cons_zero, List.set_cons_succ])
    refine wpAnyH_done (by kernel_rfl) ?_ _
    clear hSP BV HPZ
    generalize v2.setCell ⟨D, 0, none⟩ (.slice AN nN cN) = vx at *
    go_wp2
    go_roundw
    case rel => exact ⟨k + 1, .slice AN nN cN, num_i (by omega), by omega, C0, Lib.hid (by rw [HSN.out]; exact C1.out), C2, C3, B5, C4⟩
    case measure => simp [intOf]; omega
   ·obtain rfl : k = d.pl.length := by omega
    have HWL := Lib.hid HWN.out.2.2
    have HNV := Lib.hid (show ∀ b, vC.ownBlock = some b → b ≠ D ∧ b ≠ gl ∧ b ≠ gt from HNV.out)
    have HW2 := Lib.hid HWN.out.2.1
    have HTB := Lib.hid HTN.out.2
    have hWB : wellN d ≤ 384 := HWN.out.2.1
    have hTB : tipN d ≤ 384 := HTN.out.2
    have HREP := Lib.hid (show logF (wellN d) 0 = List.replicate (wellN d) lo0 by unfold logF; simp)
    have HREP2 := Lib.hid (show logF (wellN d) (wellN d) = List.replicate (wellN d) lo8 by unfold logF; simp)
    have HTEP := Lib.hid (show tipF (tipN d) 0 = List.replicate (tipN d) (0, 0) by unfold tipF; simp)
    have HTEP2 := Lib.hid (show tipF (tipN d) (tipN d) = List.replicate (tipN d) (1, 0) by unfold tipF; simp)
    have HV8 := Lib.hid (fun w => vlog8_any w)
    rw [← HREP.out] at HOL
    rw [← HTEP.out] at HOT
    obtain ⟨AC, cC, hvC, hcC⟩ := (HOC.out.isL (by rw [HWL.out]; omega)).shape
    rw [HWL.out] at hvC hcC
    subst hvC
    have HNEW := Lib.hid (show newA d = ⟨newCn d.pl d.pl.length, List.replicate (wellN d) (8, 0, []), List.replicate (tipN d) (1, 0), Two.sumL (volS (newCn d.pl d.pl.length)), 0, 0⟩ from rfl)
    have HSB := Lib.hid (sumL_bd _ (newC_right d.pl HOK.out.pl d.pl.length (Nat.le_refl _)))
    generalize newCn d.pl d.pl.length = cl at *
    generalize hWn : wellN d = WN at *
    generalize hTn : tipN d = TN at *
    clear hWn hTn HOK HWN HTN HCL HCN
    obtain ⟨e0, e1, e2, e3, e4, e5, y0, y1, y2, y3, y4, y5, yl⟩ := HCD.out
    go_wp2
    clear e0 e1 e2 e3 e4 e5 y0 y1 y2 y3 y4 y5 yl
    go_loopw [49] (fun i wx => ∃ k : Nat, i = .int .i64 k ∧ k ≤ WN ∧ Hid (Cells6 wx D (.slice AC WN cC) (.slice (some ⟨gl, 0, none⟩) WN WN) (.slice (some ⟨gt, 0, none⟩) TN TN) (.int .i64 0) (.int .i64 0) (.int .i64 0)) ∧ Hid (KE.Own wx w2.heap.size (.slice AC WN cC) cl) ∧
      Hid (KL.Own wx w2.heap.size (.slice (some ⟨gl, 0, none⟩) WN WN) (logF WN k)) ∧ Hid (KT.Own wx w2.heap.size (.slice (some ⟨gt, 0, none⟩) TN TN) (tipF TN 0)) ∧ Hid (Below w2.heap.size w2 wx)) (fun i _ => WN - (intOf i).toNat)
    case atStart => exact ⟨0, rfl, Nat.zero_le _, HCD, HOC, HOL, HOT, HBR⟩
    case round =>
     clear HCD HOC HOL HOT HBR
     obtain ⟨k, rfl, hk, hD, hc, hl, ht, hb⟩ := hrel
     have HCD := Lib.hid hD.out
     have HOC := Lib.hid hc.out
     have HOL := Lib.hid hl.out
     have HOT := Lib.hid ht.out
     have HBR := Lib.hid hb.out
     clear hD hc hl ht hb
     obtain ⟨_, e1, _⟩ := HCD.out
     by_cases hlt : k < WN
     ·have HSET := Lib.hid (logF_set WN k hlt)
      have hlen := logF_len WN k (by omega)
      have HLEN := Lib.hid hlen
      go_wp2_with fail
      refine wp_region_held_drew (S := fun w' => w'.cell? ⟨D, 1, none⟩ = some (.slice (some ⟨gl, 0, none⟩) WN WN)) (by kernel_rfl) ?_ (fun hHeld => ?_)
      ·exact e1
      clear e1 hHeld
      have bw := (Below.refl wr.heap.size wr).drew
      have A0 := Lib.hid (HCD.out.below bw)
      have A1 := Lib.hid (HOC.out.below bw)
      have A2 := Lib.hid (HOL.out.below bw)
      have A3 := Lib.hid (HOT.out.below bw)
      have A4 := Lib.hid (HBR.out.trans (bw.mono HBR.out.size))
      clear bw HCD HOC HOL HOT HBR hlen
      generalize wr.drew = v0 at *
      obtain ⟨_, hHeld, _⟩ := A0.out
      refine wpAnyH_take (i := 0) (oi := ⟨some 53, _, _, _, _, _⟩) (v := ?_) rfl (by kernel_rfl) (by kernel_rfl) (by kernel_rfl) (fun _ _ _ h => h) (Or.inl ⟨by kernel_rfl, ?_⟩) (by assumption) ?_
      rotate_left 1
      ·((intro w hSw; (try dsimp only at hSw); go_simp) <;> (try with_reducible rfl))
      (try simp only [Act.put, List.setIfInBounds_toArray, List.set_cons_zero, List.set_cons_succ])
      refine wpAnyH_take (i := 1) (oi := ⟨some 54, _, _, _, _, _⟩) (v := ?_) rfl (by kernel_rfl) (by kernel_rfl) (by kernel_rfl) (fun _ _ _ h => h) (Or.inl ⟨by kernel_rfl, ?_⟩) (by assumption) ?_
      rotate_left 1
      ·((intro w hSw; (try dsimp only at hSw); go_simp) <;> (try with_reducible rfl))
      (try simp only [Act.put, List.setIfInBounds_toArray, List.set_cons_zero, List.set_cons_succ])
      refine wpAnyH_take (i := 2) (oi := ⟨some 55, _, _, _, _, _⟩) (v := ?_) rfl (by kernel_rfl) (by kernel_rfl) (by kernel_rfl) (fun _ _ _ h => h) (Or.inl ⟨by kernel_rfl, ?_⟩) (by assumption) ?_
      rotate_left 1
      ·((intro w hSw; (try dsimp only at hSw); go_simp) <;> (try with_reducible rfl))
      (try simp only [Act.put, List.setIfInBounds_toArray, List.set_cons_zero, List.set_cons_succ])
      clear hHeld
      refine wpAnyH_ready (rs := [3]) (by kernel_rfl) (by simp) ?_
      refine AllReadyH.cons (o := ⟨some 56, _, _, _, _, _⟩) rfl (fun K hK => ?_) AllReadyH.nil
      go_simp
      refine (HV8.out _).mono ?_
      rintro e v1 ⟨rfl, hb⟩
      have A0 := Lib.hid (A0.out.below hb)
      have A1 := Lib.hid (A1.out.below hb)
      have A2 := Lib.hid (A2.out.below hb)
      have A3 := Lib.hid (A3.out.below hb)
      have A4 := Lib.hid (Below.call A4.out (hb.mono (Nat.le_refl _)))
      go_wp2_with fail
      clear hb
      obtain ⟨_, hHeld0, _⟩ := A0.out
      refine hK.out _ _ hHeld0 (fun hHeld => ?_)
      clear hK K
      clear hHeld0
      (try simp only [Act.put, List.setIfInBounds_toArray, List.set_cons_zero, List.set_cons_succ])
      refine wpAnyH_take (i := 4) (oi := ⟨some 52, _, _, _, _, _⟩) (v := ?_) rfl (by kernel_rfl) (by kernel_rfl) (by kernel_rfl) (fun _ _ _ h => h) (Or.inl ⟨by kernel_rfl, ?_⟩) (by assumption) ?_
      rotate_left 1
      ·((intro w hSw; (try dsimp only at hSw); go_simp) <;> (try with_reducible rfl))
      (try simp only [Act.put, List.setIfInBounds_toArray, List.set_cons_zero, List.set_cons_succ])
      refine wpAnyH_take (i := 5) (oi := ⟨some 57, _, _, _, _, _⟩) (v := ?_) rfl (by kernel_rfl) (by kernel_rfl) (by kernel_rfl) (fun _ _ _ h => h) (Or.inl ⟨by kernel_rfl, ?_⟩) (by assumption) ?_
      rotate_left 1
      ·((intro w hSw; (try dsimp only at hSw); go_simp) <;> (try with_reducible rfl))
      (try simp only [Act.put, List.setIfInBounds_toArray, List.set_cons_zero, List.set_cons_succ])
      refine wpAnyH_take (i := 6) (oi := ⟨some 58, _, _, _, _, _⟩) (v := ?_) rfl (by kernel_rfl) (by kernel_rfl) (by kernel_rfl) (fun _ _ _ h => h) (Or.inl ⟨by kernel_rfl, ?_⟩) (by assumption) ?_
      rotate_left 1
      ·((intro w hSw; (try dsimp only at hSw); go_simp) <;> (try with_reducible rfl))
      (try simp only [Act.put, List.setIfInBounds_toArray, List.set_cons_zero, List.set_cons_succ])
      refine wpAnyH_take (i := 7) (oi := ⟨some 59, _, _, _, _, _⟩) (v := ?_) rfl (by kernel_rfl) (by kernel_rfl) (by kernel_rfl) (fun _ _ _ h => h) (Or.inl ⟨by kernel_rfl, ?_⟩) (by assumption) ?_
      rotate_left 1
      ·((intro w hSw; (try dsimp only at hSw); go_simp) <;> (try with_reducible rfl))
      (try simp only [Act.put, List.setIfInBounds_toArray, List.set_cons_zero, List.set_cons_succ])
      refine wpAnyH_ready (rs := [8]) (by kernel_rfl) (by simp) ?_
      refine AllReadyH.cons (o := ⟨none, _, _, _, _, _⟩) rfl (fun K hK => ?_) AllReadyH.nil
      obtain ⟨q0, q1, q2, z0, z1, z2⟩ := KL.Own.at3 A2.out HLEN.out k hlt
      generalize (logF WN k).getD k lo0 = old at *
      go_simp
      clear q0 q1 q2 z0 z1 z2
      have hp := Lk.Own.put3 (K := KL) rfl A2.out HLEN.out k hlt lo8 _ _ _ rfl ⟨by decide, by decide⟩
      rw [HSET.out] at hp
      have C2 := Lib.hid (show KL.Own (((v1.setCell ⟨gl, k * 3, none⟩ (.int .i64 8)).setCell ⟨gl, k * 3 + 1, none⟩ (.int .i64 0)).setCell ⟨gl, k * 3 + 2, none⟩ (.slice none 0 0)) w2.heap.size (.slice (some ⟨gl, 0, none⟩) WN WN) (logF WN (k + 1)) from hp)
      have C0 := Lib.hid (Cells6.apart3 A0.out HNE.out.2.2.2.2.1 (k * 3) (k * 3 + 1) (k * 3 + 2) (.int .i64 8) (.int .i64 0) (.slice none 0 0))
      have C1 := Lib.hid (Lk.Own.far3o A1.out (fun b hb h => (HNV.out b hb).2.1 h) (k * 3) (k * 3 + 1) (k * 3 + 2) (.int .i64 8) (.int .i64 0) (.slice none 0 0))
      have C3 := Lib.hid (Lk.Own.far3o A3.out (fun b hb h => by cases hb; exact HNE.out.2.2.1 h.symm) (k * 3) (k * 3 + 1) (k * 3 + 2) (.int .i64 8) (.int .i64 0) (.slice none 0 0))
      have C4 := Lib.hid (show Below w2.heap.size w2 (((v1.setCell ⟨gl, k * 3, none⟩ (.int .i64 8)).setCell ⟨gl, k * 3 + 1, none⟩ (.int .i64 0)).setCell ⟨gl, k * 3 + 2, none⟩ (.slice none 0 0)) from ((A4.out.setCell HNE.out.2.2.2.2.2.2.2.2.1 _).setCell HNE.out.2.2.2.2.2.2.2.2.1 _).setCell HNE.out.2.2.2.2.2.2.2.2.1 _)
      obtain ⟨_, hHeld2, _⟩ := C0.out
      clear hp
      refine hK.out _ _ hHeld2 (fun hHeld => ?_)
      clear hK K
      clear hHeld hHeld2 A0 A1 A2 A3 A4
      (try simp only [Act.put, List.setIfInBounds_toArray, List.set_cons_zero, List.set_cons_succ])
      refine wpAnyH_done (by kernel_rfl) ?_ _
      generalize (((v1.setCell ⟨gl, k * 3, none⟩ (.int .i64 8)).setCell ⟨gl, k * 3 + 1, none⟩ (.int .i64 0)).setCell ⟨gl, k * 3 + 2, none⟩ (.slice none 0 0)) = vx at *
      go_wp2
      go_roundw
      case rel => exact ⟨k + 1, num_i (by omega), by omega, C0, C1, C2, C3, C4⟩
      case measure => simp [intOf]; omega
     ·obtain rfl : k = WN := by omega
      clear e1
      rw [HREP2.out] at HOL
      have HBX := Lib.hid HBR.out
      obtain ⟨_, _, e2, _⟩ := HCD.out
      go_wp2
      clear e2
      go_loopw [64] (fun i wy => ∃ j : Nat, i = .int .i64 j ∧ j ≤ TN ∧ Hid (Cells6 wy D (.slice AC k cC) (.slice (some ⟨gl, 0, none⟩) k k) (.slice (some ⟨gt, 0, none⟩) TN TN) (.int .i64 0) (.int .i64 0) (.int .i64 0)) ∧ Hid (KE.Own wy w2.heap.size (.slice AC k cC) cl) ∧
        Hid (KL.Own wy w2.heap.size (.slice (some ⟨gl, 0, none⟩) k k) (List.replicate k lo8)) ∧ Hid (KT.Own wy w2.heap.size (.slice (some ⟨gt, 0, none⟩) TN TN) (tipF TN j)) ∧ Hid (Below w2.heap.size w2 wy)) (fun i _ => TN - (intOf i).toNat)
      case atStart => exact ⟨0, rfl, Nat.zero_le _, HCD, HOC, HOL, HOT, HBR⟩
      case round =>
       clear HCD HOC HOL HOT HBR
       obtain ⟨j, rfl, hj, hD, hc, hl, ht, hb⟩ := hrel
       have HCD := Lib.hid hD.out
       have HOC := Lib.hid hc.out
       have HOL := Lib.hid hl.out
       have HOT := Lib.hid ht.out
       have HBR := Lib.hid hb.out
       clear hD hc hl ht hb
       obtain ⟨e0, e1, e2, e3, e4, e5, y0, y1, y2, y3, y4, y5, yl⟩ := HCD.out
       by_cases hlt : j < TN
       ·have HSET := Lib.hid (tipF_set TN j hlt)
        have hlen := tipF_len TN j (by omega)
        obtain ⟨q0, q1, z0, z1⟩ := KT.Own.at2 HOT.out hlen j hlt
        generalize (tipF TN j).getD j (0, 0) = old at *
        clear e0 e1 e3 e4 e5 y0 y1 y2 y3 y4 y5 yl
        go_wp2
        go_roundw
        case rel =>
         have hp := Lk.Own.put2 (K := KT) rfl HOT.out hlen j hlt (1, 0) _ _ rfl ⟨by decide, by decide⟩
         exact ⟨j + 1, num_i (by omega), by omega, Lib.hid (Cells6.apart2 HCD.out HNE.out.2.2.2.2.2.1 _ _ _ _), Lib.hid (Lk.Own.far2o HOC.out (fun b hb h => (HNV.out b hb).2.2 h) _ _ _ _), Lib.hid (Lk.Own.far2o HOL.out (fun b hb h => by cases hb; exact HNE.out.2.2.1 h) _ _ _ _), Lib.hid (by rw [← HSET.out]; exact hp), Lib.hid ((HBR.out.setCell HNE.out.2.2.2.2.2.2.2.2.2 _).setCell HNE.out.2.2.2.2.2.2.2.2.2 _)⟩
        case measure => simp [intOf]; omega
       ·obtain rfl : j = TN := by omega
        clear e0 e1 e2 e3 e4 e5 y0 y1 y2 y3 y4 y5 yl
        rw [HTEP2.out] at HOT
        have HCI := Lib.hid (HOC.out.isL (by rw [HWL.out]; omega))
        have HLI := Lib.hid (HOL.out.isL (by rw [List.length_replicate]; omega))
        have HTI := Lib.hid (HOT.out.isL (by rw [List.length_replicate]; omega))
        have HTO := Lib.hid (fun w h => total_any ⟨AC, cC, cl, some ⟨gl, 0, none⟩, k, List.replicate k lo8, some ⟨gt, 0, none⟩, j, List.replicate j (1, 0), 0, 0, 0⟩ w h (by show cl.length ≤ 100000; rw [HWL.out]; omega))
        have hfs : fits (Two.sumL (volS cl)) := by have := HSB.out; rw [HWL.out] at this; unfold fits; omega
        have HFS := Lib.hid hfs
        have HTO := Lib.hid (show ∀ w', (Stk.mk AC cC cl (some ⟨gl, 0, none⟩) k (List.replicate k lo8) (some ⟨gt, 0, none⟩) j (List.replicate j (1, 0)) 0 0 0).In w' w'.heap.size → Calls Try.prog 21 #[.agg #[.slice AC k cC, .slice (some ⟨gl, 0, none⟩) k k, .slice (some ⟨gt, 0, none⟩) j j, .int .i64 0, .int .i64 0, .int .i64 0]] w' fun e w'' => e = .returned (.tuple #[.int .i64 (Two.sumL (volS cl)), .int .i64 0]) ∧ Below w'.heap.size w' w'' from by
         intro w' h
         have h2 := HTO.out w' h
         dsimp only [Stk.v, totV] at h2
         rw [HWL.out, List.length_replicate, List.length_replicate, show fitV (Two.sumL (volS cl)) = Two.sumL (volS cl) from if_pos hfs, show fitE (Two.sumL (volS cl)) = 0 from if_pos hfs] at h2
         exact h2)
        clear hfs
        have HSI := Lib.hid (fun (S : Int) (h : fits S) => show (Stk.mk AC cC cl (some ⟨gl, 0, none⟩) k (List.replicate k lo8) (some ⟨gt, 0, none⟩) j (List.replicate j (1, 0)) S 0 0).In wr wr.heap.size from ⟨by show KE.IsL wr wr.heap.size (.slice AC cl.length cC) cl; rw [HWL.out]; exact HCI.out, by show KL.IsL wr wr.heap.size (.slice _ (List.replicate k lo8).length _) _; rw [List.length_replicate]; exact HLI.out, by show KT.IsL wr wr.heap.size (.slice _ (List.replicate j ((1 : Int), (0 : Int))).length _) _; rw [List.length_replicate]; exact HTI.out, fun q hq => by rw [(List.mem_replicate.1 hq).2]; exact Lk.IsL.nil _ _ _ _, ⟨h, (show fits 0 by decide), (show fits 0 by decide)⟩⟩)
        obtain ⟨e0, e1, e2, e3, e4, e5, y0, y1, y2, y3, y4, y5, yl⟩ := HCD.out
        go_wp2_with fail
        refine (HTO.out _ (HSI.out 0 (by decide))).mono ?_
        rintro e v4 ⟨rfl, hb⟩
        clear e0 e1 e2 e3 e4 e5 y0 y1 y2 y3 y4 y5 yl
        have hD4 := HCD.out.below hb
        have hR4 := HRW.out.below (HBR.out.trans (hb.mono HBR.out.size))
        have OC := Lib.hid (HOC.out.below hb)
        have OL := Lib.hid (HOL.out.below hb)
        have OT := Lib.hid (HOT.out.below hb)
        have OB := Lib.hid (HBR.out.trans (hb.mono HBR.out.size))
        have HD4 := Lib.hid hD4
        have HR4 := Lib.hid hR4
        clear HCI HLI HTI HSI HTO hb HOC HOL HOT HBR HCD
        generalize Two.sumL (volS cl) = S0 at *
        obtain ⟨e0, e1, e2, e3, e4, e5, y0, y1, y2, y3, y4, y5, yl⟩ := hD4
        obtain ⟨r0, r1, r2, r3, r4, r5, x0, x1, x2, x3, x4, x5, xl⟩ := hR4
        have hne1 : D ≠ w.heap.size + 1 := by have := HNE.out.2.2.2.2.2.2.1; have := HKs.out; omega
        have hne2 : w.heap.size + 1 ≠ D := hne1.symm
        have HN1 := Lib.hid hne1
        have HN2 := Lib.hid hne2
        go_wp2
        have q5 := (HD4.out.s (.int .i64 S0)).2.2.2.1
        have t5 := HR4.out.off hne1 (o := 3) (.int .i64 S0)
        have t6 := t5.set (.slice AC k cC) (.slice (some ⟨gl, 0, none⟩) k k) (.slice (some ⟨gt, 0, none⟩) j j) (.int .i64 S0) (.int .i64 0) (.int .i64 0)
        obtain ⟨q0, q1, q2, q3, q4, q5, _⟩ := t6
        have hDg := HNE.out
        have C1 := (OC.out.far (D := D) (fun b hb => (HNV.out b hb).1) 3 (.int .i64 S0)).set6 (D := w.heap.size + 1) HKs.out (.slice AC k cC) (.slice (some ⟨gl, 0, none⟩) k k) (.slice (some ⟨gt, 0, none⟩) j j) (.int .i64 S0) (.int .i64 0) (.int .i64 0)
        have C2 := (OL.out.far (D := D) (fun b hb => by cases hb; exact hDg.2.2.2.2.1) 3 (.int .i64 S0)).set6 (D := w.heap.size + 1) HKs.out (.slice AC k cC) (.slice (some ⟨gl, 0, none⟩) k k) (.slice (some ⟨gt, 0, none⟩) j j) (.int .i64 S0) (.int .i64 0) (.int .i64 0)
        have C3 := (OT.out.far (D := D) (fun b hb => by cases hb; exact hDg.2.2.2.2.2.1) 3 (.int .i64 S0)).set6 (D := w.heap.size + 1) HKs.out (.slice AC k cC) (.slice (some ⟨gl, 0, none⟩) k k) (.slice (some ⟨gt, 0, none⟩) j j) (.int .i64 S0) (.int .i64 0) (.int .i64 0)
        have hB5 : Below w.heap.size w (v4.setCell ⟨D, 3, none⟩ (.int .i64 S0)) := (Below.call HB2.out OB.out).setCell (by show w.heap.size ≤ D; have := hDg.2.2.2.2.2.2.1; have := HKs.out; omega) _
        have hB6 := below_set6 (D := w.heap.size + 1) hB5 (by omega) (.slice AC k cC) (.slice (some ⟨gl, 0, none⟩) k k) (.slice (some ⟨gt, 0, none⟩) j j) (.int .i64 S0) (.int .i64 0) (.int .i64 0)
        have I1 := C1.isL (by rw [HWL.out]; omega)
        have I2 := C2.isL (by rw [List.length_replicate]; omega)
        have I3 := C3.isL (by rw [List.length_replicate]; omega)
        refine bodyPost_ret (v := .tuple #[.agg #[.slice AC k cC, .slice (some ⟨gl, 0, none⟩) k k, .slice (some ⟨gt, 0, none⟩) j j, .int .i64 S0, .int .i64 0, .int .i64 0], .int .i64 0]) ?_ rfl ?_
        ·simp [results, Try.results12, go_sem, q0, q1, q2, q3, q4, q5]
        ·refine ⟨⟨AC, cC, cl, some ⟨gl, 0, none⟩, k, List.replicate k lo8, some ⟨gt, 0, none⟩, j, List.replicate j (1, 0), S0, 0, 0⟩, ?_, ?_, ?_, hB6⟩
         ·dsimp only [Stk.v]
          rw [HWL.out, List.length_replicate, List.length_replicate]
         ·refine ⟨?_, ?_, ?_, fun q hq => by rw [(List.mem_replicate.1 hq).2]; exact Lk.IsL.nil _ _ _ _, ⟨HFS.out, (show fits 0 by decide), (show fits 0 by decide)⟩⟩
          ·show KE.IsL _ _ (.slice AC cl.length cC) cl
           rw [HWL.out]
           exact I1
          ·show KL.IsL _ _ (.slice _ (List.replicate k lo8).length _) _
           rw [List.length_replicate]
           exact I2
          ·show KT.IsL _ _ (.slice _ (List.replicate j ((1 : Int), (0 : Int))).length _) _
           rw [List.length_replicate]
           exact I3
         ·rw [HNEW.out]
          simp [Stk.ab, Lo.ab, lo8]
end Go.Proofs.Ytacjonncakhhmaa

/- Stocks: a deck's stock at first, as the program tells it. -/
import Derived.Test.YtacjonncakhhmaaGreatPz00
import Derived.Test.YtacjonncakhhmaaGreatPz27
import Derived.Test.YtacjonncakhhmaaGreatPz11
import Derived.Deep.Cut
namespace Go.Proofs.YtacjonncakhhmaaGreat
open Go.RowKit
/-- A new log. -/
def lo8 : Lo := ⟨8, 0, none, 0, []⟩
def logF (n k : Nat) : List Lo := List.replicate k lo8 ++ List.replicate (n - k) lo0
theorem logF_len (n k : Nat) (h : k ≤ n) : (logF n k).length = n := by unfold logF; rw [List.length_append, List.length_replicate, List.length_replicate]; omega
theorem logF_set (n k : Nat) (h : k < n) : (logF n k).set k lo8 = logF n (k + 1) := by
 unfold logF
 rw [List.set_append, if_neg (by rw [List.length_replicate]; omega), List.length_replicate, Nat.sub_self, show n - k = (n - (k + 1)) + 1 by omega, List.replicate_succ, List.set_cons_zero, List.replicate_succ', List.append_assoc]
 rfl
def tipF (n k : Nat) : List (Int × Int) := List.replicate k (1, 0) ++ List.replicate (n - k) (0, 0)
theorem tipF_len (n k : Nat) (h : k ≤ n) : (tipF n k).length = n := by unfold tipF; rw [List.length_append, List.length_replicate, List.length_replicate]; omega
theorem tipF_set (n k : Nat) (h : k < n) : (tipF n k).set k (1, 0) = tipF n (k + 1) := by
 unfold tipF
 rw [List.set_append, if_neg (by rw [List.length_replicate]; omega), List.length_replicate, Nat.sub_self, show n - k = (n - (k + 1)) + 1 by omega, List.replicate_succ, List.set_cons_zero, List.replicate_succ', List.append_assoc]
 rfl
theorem vlog8_any (w : World) : Calls Tryz.prog 33 #[.int .i64 8] w fun e w' => e = .returned (.tuple #[.agg #[.int .i64 8, .int .i64 0, .slice none 0 0], .int .i64 0]) ∧ Below w.heap.size w w' := Lg.new_any 8 w
set_option maxRecDepth 100000 in
set_option maxHeartbeats 4000000 in
theorem new_any (d : Dk) (w : World) (hd : d.In w w.heap.size) : Calls Tryz.prog 12 #[d.v] w fun e w' => ∃ s : Stk, e = .returned (.tuple #[s.v, .int .i64 (zchk d)]) ∧ s.In w' w'.heap.size ∧ s.ab = (if zchk d = 0 then newA d else ab0) ∧ Below w.heap.size w w' := by
 obtain ⟨w0, hw0⟩ : ∃ w0, w0 = (w.alloc (.cells #[.slice d.bA d.bn d.bc, .slice d.pA d.pn d.pc, .slice d.rA d.rn d.rc, .int .i64 d.arms] 26)).alloc (.cells #[.slice none 0 0, .slice none 0 0, .slice none 0 0, .int .i64 0, .int .i64 0, .int .i64 0] 31) := ⟨_, rfl⟩
 have HB0 := Lib.hid (show Below w.heap.size w w0 by rw [hw0]; exact Below.al (Below.al (Below.refl _ _) _) _)
 have HD0 := Lib.hid (hd.then HB0.out)
 have HK0 := Lib.hid (show DkAt w0 w.heap.size d by rw [hw0]; exact (Cells4.new w _ _ _ _ _).below (Below.al (Below.refl _ _) _))
 have HR0 := Lib.hid (show Cells6 w0 (w.heap.size + 1) (.slice none 0 0) (.slice none 0 0) (.slice none 0 0) (.int .i64 0) (.int .i64 0) (.int .i64 0) by
  have h := Cells6.new (w.alloc (.cells #[.slice d.bA d.bn d.bc, .slice d.pA d.pn d.pc, .slice d.rA d.rn d.rc, .int .i64 d.arms] 26)) 31 (.slice none 0 0) (.slice none 0 0) (.slice none 0 0) (.int .i64 0) (.int .i64 0) (.int .i64 0)
  rw [← hw0, show (w.alloc (.cells #[.slice d.bA d.bn d.bc, .slice d.pA d.pn d.pc, .slice d.rA d.rn d.rc, .int .i64 d.arms] 26)).heap.size = w.heap.size + 1 by simp] at h
  exact h)
 have HZ := Lib.hid (fun w h => zcheck_any d w h)
 have HCN := Lib.hid (fun w h => counts_any d w h)
 clear hd
 by_cases hz : zchk d = 0
 case neg =>
  rw [if_neg hz]
  generalize zchk d = E at *
  have hz' : (E == 0) = false := by simpa using hz
  clear hz
  go_enter Tryz.func12, Tryz.ntmps12
  go_wp2_with fail
  rw [← hw0]
  clear hw0
  refine (HZ.out _ HD0.out).mono ?_
  rintro e w1 ⟨rfl, hb1⟩
  have HB1 := Lib.hid (Below.call HB0.out hb1)
  have hr := HR0.out.below hb1
  have HR1 := Lib.hid hr
  obtain ⟨r0, r1, r2, r3, r4, r5, y0, y1, y2, y3, y4, y5, _⟩ := hr
  clear hb1
  go_wp2
  have hset := HR1.out.set (.slice none 0 0) (.slice none 0 0) (.slice none 0 0) (.int .i64 0) (.int .i64 0) (.int .i64 0)
  obtain ⟨q0, q1, q2, q3, q4, q5, _⟩ := hset
  refine bodyPost_ret (v := .tuple #[stk0.v, .int .i64 E]) ?_ rfl ?_
  ·simp [results, Tryz.results12, go_sem, q0, q1, q2, q3, q4, q5, stk0]
  ·refine ⟨stk0, rfl, stk0_in _ _, rfl, ?_⟩
   exact below_set6 HB1.out (by omega) _ _ _ _ _ _
 rw [hz] at HZ ⊢
 rw [if_pos rfl]
 have hdz : dchk d = 0 := by
  unfold zchk at hz
  by_cases h : dchk d = 0
  ·exact h
  ·rw [if_neg h] at hz; exact absurd hz h
 have HOK := Lib.hid (dchk_ok d hdz)
 have hcv : cntV d = (wellsV d.pl, tipsV d.rl, (d.bl.length : Int) - 1) := by unfold cntV; rw [if_pos hdz]
 have hwn := wellN_eq d HOK.out
 have htn := tipN_eq d HOK.out
 rw [hcv] at HCN
 dsimp only at HCN
 rw [← hwn.1, ← htn.1] at HCN
 have HWN := Lib.hid hwn
 have HTN := Lib.hid htn
 clear hcv hz hdz hwn htn
 go_enter Tryz.func12, Tryz.ntmps12
 go_wp2_with fail
 rw [← hw0]
 clear hw0
 refine (HZ.out _ HD0.out).mono ?_
 rintro e w1 ⟨rfl, hb1⟩
 have HB1 := Lib.hid (Below.call HB0.out hb1)
 have HK1 := Lib.hid (HK0.out.below hb1)
 have HR1 := Lib.hid (HR0.out.below hb1)
 have HD1 := Lib.hid (HD0.out.then hb1)
 obtain ⟨d0, d1, d2, d3, _⟩ := HK1.out
 clear hb1
 go_wp2_with fail
 refine (HCN.out _ HD1.out).mono ?_
 rintro e w2 ⟨rfl, hb2⟩
 clear d0 d1 d2 d3
 have HB2 := Lib.hid (Below.call HB1.out hb2)
 have HK2 := Lib.hid (HK1.out.below hb2)
 have HR2 := Lib.hid (HR1.out.below hb2)
 have HD2 := Lib.hid (HD1.out.then hb2)
 clear hb2 HK1 HR1 HD1
 go_wp2_with fail
 go_cut [8] from 25 (fun t wx => ∃ D gc gl gt : Nat, t = .pointer (some ⟨D, 0, none⟩) ∧ Hid (Below w2.heap.size w2 wx) ∧ Hid (KE.Own wx w2.heap.size (.slice (some ⟨gc, 0, none⟩) 0 (wellN d)) []) ∧ Hid (KL.Own wx w2.heap.size (.slice (some ⟨gl, 0, none⟩) (wellN d) (wellN d)) (List.replicate (wellN d) lo0)) ∧
   Hid (KT.Own wx w2.heap.size (.slice (some ⟨gt, 0, none⟩) (tipN d) (tipN d)) (List.replicate (tipN d) (0, 0))) ∧ Hid (Cells6 wx D (.slice (some ⟨gc, 0, none⟩) 0 (wellN d)) (.slice (some ⟨gl, 0, none⟩) (wellN d) (wellN d)) (.slice (some ⟨gt, 0, none⟩) (tipN d) (tipN d)) (.int .i64 0) (.int .i64 0) (.int .i64 0)) ∧
   Hid (gc ≠ gl ∧ gc ≠ gt ∧ gl ≠ gt ∧ gc ≠ D ∧ gl ≠ D ∧ gt ≠ D ∧ w2.heap.size ≤ D ∧ w2.heap.size ≤ gc ∧ w2.heap.size ≤ gl ∧ w2.heap.size ≤ gt))
 case first =>
  have hW2 := HWN.out.2.1
  have hT2 := HTN.out.2
  clear HWN HTN HCN HOK HB0 HD0 HK0 HR0 HZ HB1 HB2 HK2 HR2 HD2
  generalize wellN d = WN at *
  generalize tipN d = TN at *
  refine wp_region_held_drew (S := fun _ => True) (by kernel_rfl) ?_ (fun hHeld => ?_)
  ·trivial
  refine tk 0 25 rfl ?_
  try simp only [sp]
  refine tk 2 27 rfl ?_
  try simp only [sp]
  refine tk 4 29 rfl ?_
  try simp only [sp]
  have B := Lib.hid (show Below w2.heap.size w2 w2.drew from (Below.refl _ w2).drew)
  have S := Lib.hid (show w2.heap.size ≤ w2.drew.heap.size from Nat.le_refl _)
  generalize w2.drew = v at *
  clear hHeld
  have mr : True := trivial
  repeat' (first
   | (
    clear mr
    replace F_c := F_c
    replace F_l := F_l
    replace F_t := F_t
    replace F_D := F_D
    refine wpAnyH_ready (rs := [8]) (by kernel_rfl) (by simp) ?_
    refine AllReadyH.cons (o := ⟨none, _, _, _, _, _⟩) rfl (fun K hK => ?_) AllReadyH.nil)
   | (clear mr; replace F_l := F_l; replace F_t := F_t; replace F_D := F_D; refine wpAnyH_ready (rs := [1]) (by kernel_rfl) (by simp) (.cons (o := ⟨some 26, _, _, _, _, _⟩) rfl (fun K hK => have mc := trivial; ?_) .nil))
   | (clear mr; replace F_c := F_c; replace F_t := F_t; replace F_D := F_D; refine wpAnyH_ready (rs := [3]) (by kernel_rfl) (by simp) (.cons (o := ⟨some 28, _, _, _, _, _⟩) rfl (fun K hK => have ml := trivial; ?_) .nil))
   | (clear mr; replace F_c := F_c; replace F_l := F_l; replace F_D := F_D; refine wpAnyH_ready (rs := [5]) (by kernel_rfl) (by simp) (.cons (o := ⟨some 30, _, _, _, _, _⟩) rfl (fun K hK => have mt := trivial; ?_) .nil))
   | (clear mr; replace F_c := F_c; replace F_l := F_l; replace F_t := F_t; refine wpAnyH_ready (rs := [7]) (by kernel_rfl) (by simp) (.cons (o := ⟨some 8, _, _, _, _, _⟩) rfl (fun K hK => have mD := trivial; ?_) .nil))
   | (clear mr; replace F_t := F_t; replace F_D := F_D; refine wpAnyH_ready (rs := [1, 3]) (by kernel_rfl) (by simp) (.cons (o := ⟨some 26, _, _, _, _, _⟩) rfl (fun K hK => have mc := trivial; ?_) (.cons (o := ⟨some 28, _, _, _, _, _⟩) rfl (fun K hK => have ml := trivial; ?_) .nil)))
   | (clear mr; replace F_l := F_l; replace F_D := F_D; refine wpAnyH_ready (rs := [1, 5]) (by kernel_rfl) (by simp) (.cons (o := ⟨some 26, _, _, _, _, _⟩) rfl (fun K hK => have mc := trivial; ?_) (.cons (o := ⟨some 30, _, _, _, _, _⟩) rfl (fun K hK => have mt := trivial; ?_) .nil)))
   | (clear mr; replace F_l := F_l; replace F_t := F_t; refine wpAnyH_ready (rs := [1, 7]) (by kernel_rfl) (by simp) (.cons (o := ⟨some 26, _, _, _, _, _⟩) rfl (fun K hK => have mc := trivial; ?_) (.cons (o := ⟨some 8, _, _, _, _, _⟩) rfl (fun K hK => have mD := trivial; ?_) .nil)))
   | (clear mr; replace F_c := F_c; replace F_D := F_D; refine wpAnyH_ready (rs := [3, 5]) (by kernel_rfl) (by simp) (.cons (o := ⟨some 28, _, _, _, _, _⟩) rfl (fun K hK => have ml := trivial; ?_) (.cons (o := ⟨some 30, _, _, _, _, _⟩) rfl (fun K hK => have mt := trivial; ?_) .nil)))
   | (clear mr; replace F_c := F_c; replace F_t := F_t; refine wpAnyH_ready (rs := [3, 7]) (by kernel_rfl) (by simp) (.cons (o := ⟨some 28, _, _, _, _, _⟩) rfl (fun K hK => have ml := trivial; ?_) (.cons (o := ⟨some 8, _, _, _, _, _⟩) rfl (fun K hK => have mD := trivial; ?_) .nil)))
   | (clear mr; replace F_c := F_c; replace F_l := F_l; refine wpAnyH_ready (rs := [5, 7]) (by kernel_rfl) (by simp) (.cons (o := ⟨some 30, _, _, _, _, _⟩) rfl (fun K hK => have mt := trivial; ?_) (.cons (o := ⟨some 8, _, _, _, _, _⟩) rfl (fun K hK => have mD := trivial; ?_) .nil)))
   | (clear mr; replace F_D := F_D; refine wpAnyH_ready (rs := [1, 3, 5]) (by kernel_rfl) (by simp) (.cons (o := ⟨some 26, _, _, _, _, _⟩) rfl (fun K hK => have mc := trivial; ?_) (.cons (o := ⟨some 28, _, _, _, _, _⟩) rfl (fun K hK => have ml := trivial; ?_) (.cons (o := ⟨some 30, _, _, _, _, _⟩) rfl (fun K hK => have mt := trivial; ?_) .nil))))
   | (clear mr; replace F_t := F_t; refine wpAnyH_ready (rs := [1, 3, 7]) (by kernel_rfl) (by simp) (.cons (o := ⟨some 26, _, _, _, _, _⟩) rfl (fun K hK => have mc := trivial; ?_) (.cons (o := ⟨some 28, _, _, _, _, _⟩) rfl (fun K hK => have ml := trivial; ?_) (.cons (o := ⟨some 8, _, _, _, _, _⟩) rfl (fun K hK => have mD := trivial; ?_) .nil))))
   | (clear mr; replace F_l := F_l; refine wpAnyH_ready (rs := [1, 5, 7]) (by kernel_rfl) (by simp) (.cons (o := ⟨some 26, _, _, _, _, _⟩) rfl (fun K hK => have mc := trivial; ?_) (.cons (o := ⟨some 30, _, _, _, _, _⟩) rfl (fun K hK => have mt := trivial; ?_) (.cons (o := ⟨some 8, _, _, _, _, _⟩) rfl (fun K hK => have mD := trivial; ?_) .nil))))
   | (clear mr; replace F_c := F_c; refine wpAnyH_ready (rs := [3, 5, 7]) (by kernel_rfl) (by simp) (.cons (o := ⟨some 28, _, _, _, _, _⟩) rfl (fun K hK => have ml := trivial; ?_) (.cons (o := ⟨some 30, _, _, _, _, _⟩) rfl (fun K hK => have mt := trivial; ?_) (.cons (o := ⟨some 8, _, _, _, _, _⟩) rfl (fun K hK => have mD := trivial; ?_) .nil))))
   | (clear mr; refine wpAnyH_ready (rs := [1, 3, 5, 7]) (by kernel_rfl) (by simp) (.cons (o := ⟨some 26, _, _, _, _, _⟩) rfl (fun K hK => have mc := trivial; ?_) (.cons (o := ⟨some 28, _, _, _, _, _⟩) rfl (fun K hK => have ml := trivial; ?_) (.cons (o := ⟨some 30, _, _, _, _, _⟩) rfl (fun K hK => have mt := trivial; ?_) (.cons (o := ⟨some 8, _, _, _, _, _⟩) rfl (fun K hK => have mD := trivial; ?_) .nil)))))
   | (
    clear mc
    refine Lk.wp_made (K := KE) v _ _ rfl rfl _ _ 0 WN _ _ rfl rfl rfl rfl (.inr rfl) ce0 rfl ⟨by decide, by decide, by decide⟩ (by omega) ?_
    intro u ho hb hl
    have F_c := Lib.hid (ho.mono S.out)
    replace B := Lib.hid (B.out.trans (hb.mono S.out))
    have G_c := Lib.hid S.out
    replace S := Lib.hid (Nat.le_trans S.out (Nat.le_of_lt hl))
    try (have N_cl := Lib.hid (Nat.ne_of_lt T_l.out).symm; replace F_l := Lib.hid (F_l.out.below hb); replace T_l := Lib.hid (Nat.lt_trans T_l.out hl))
    try (have N_ct := Lib.hid (Nat.ne_of_lt T_t.out).symm; replace F_t := Lib.hid (F_t.out.below hb); replace T_t := Lib.hid (Nat.lt_trans T_t.out hl))
    try (have N_cD := Lib.hid (Nat.ne_of_lt T_D.out).symm; replace F_D := Lib.hid (F_D.out.below hb); replace T_D := Lib.hid (Nat.lt_trans T_D.out hl))
    have T_c := Lib.hid hl
    clear hb hl ho
    generalize v.heap.size = g_c at *
    refine hK.out _ _ trivial (fun hHeld => ?_)
    clear hK K hHeld
    try simp only [sp]
    clear v
    rename World => v
    try (replace F_c := F_c; replace F_l := F_l; replace F_t := F_t; have hHeld : True := trivial; refine tk 6 31 rfl ?_; (try simp only [sp]); clear hHeld)
    have mr : True := trivial)
   | (
    clear ml
    refine Lk.wp_made (K := KL) v _ _ rfl rfl _ _ WN WN _ _ rfl rfl rfl rfl (.inl rfl) lo0 rfl ⟨by decide, by decide⟩ (by omega) ?_
    intro u ho hb hl
    have F_l := Lib.hid (ho.mono S.out)
    replace B := Lib.hid (B.out.trans (hb.mono S.out))
    have G_l := Lib.hid S.out
    replace S := Lib.hid (Nat.le_trans S.out (Nat.le_of_lt hl))
    try (have N_cl := Lib.hid (Nat.ne_of_lt T_c.out); replace F_c := Lib.hid (F_c.out.below hb); replace T_c := Lib.hid (Nat.lt_trans T_c.out hl))
    try (have N_lt := Lib.hid (Nat.ne_of_lt T_t.out).symm; replace F_t := Lib.hid (F_t.out.below hb); replace T_t := Lib.hid (Nat.lt_trans T_t.out hl))
    try (have N_lD := Lib.hid (Nat.ne_of_lt T_D.out).symm; replace F_D := Lib.hid (F_D.out.below hb); replace T_D := Lib.hid (Nat.lt_trans T_D.out hl))
    have T_l := Lib.hid hl
    clear hb hl ho
    generalize v.heap.size = g_l at *
    refine hK.out _ _ trivial (fun hHeld => ?_)
    clear hK K hHeld
    try simp only [sp]
    clear v
    rename World => v
    try (replace F_c := F_c; replace F_l := F_l; replace F_t := F_t; have hHeld : True := trivial; refine tk 6 31 rfl ?_; (try simp only [sp]); clear hHeld)
    have mr : True := trivial)
   | (
    clear mt
    refine Lk.wp_made (K := KT) v _ _ rfl rfl _ _ TN TN _ _ rfl rfl rfl rfl (.inl rfl) (0, 0) rfl ⟨by decide, by decide⟩ (by omega) ?_
    intro u ho hb hl
    have F_t := Lib.hid (ho.mono S.out)
    replace B := Lib.hid (B.out.trans (hb.mono S.out))
    have G_t := Lib.hid S.out
    replace S := Lib.hid (Nat.le_trans S.out (Nat.le_of_lt hl))
    try (have N_ct := Lib.hid (Nat.ne_of_lt T_c.out); replace F_c := Lib.hid (F_c.out.below hb); replace T_c := Lib.hid (Nat.lt_trans T_c.out hl))
    try (have N_lt := Lib.hid (Nat.ne_of_lt T_l.out); replace F_l := Lib.hid (F_l.out.below hb); replace T_l := Lib.hid (Nat.lt_trans T_l.out hl))
    try (have N_tD := Lib.hid (Nat.ne_of_lt T_D.out).symm; replace F_D := Lib.hid (F_D.out.below hb); replace T_D := Lib.hid (Nat.lt_trans T_D.out hl))
    have T_t := Lib.hid hl
    clear hb hl ho
    generalize v.heap.size = g_t at *
    refine hK.out _ _ trivial (fun hHeld => ?_)
    clear hK K hHeld
    try simp only [sp]
    clear v
    rename World => v
    try (replace F_c := F_c; replace F_l := F_l; replace F_t := F_t; have hHeld : True := trivial; refine tk 6 31 rfl ?_; (try simp only [sp]); clear hHeld)
    have mr : True := trivial)
   | (
    clear mD
    go_simp
    have hb := Below.al (Below.refl _ v) (.cells #[.slice none 0 0, .slice none 0 0, .slice none 0 0, .int .i64 0, .int .i64 0, .int .i64 0] 31)
    have hl : v.heap.size < (v.alloc (.cells #[.slice none 0 0, .slice none 0 0, .slice none 0 0, .int .i64 0, .int .i64 0, .int .i64 0] 31)).heap.size := by simp
    have F_D := Lib.hid (Cells6.new v 31 (.slice none 0 0) (.slice none 0 0) (.slice none 0 0) (.int .i64 0) (.int .i64 0) (.int .i64 0))
    replace B := Lib.hid (B.out.trans (hb.mono S.out))
    have G_D := Lib.hid S.out
    replace S := Lib.hid (Nat.le_trans S.out (Nat.le_of_lt hl))
    try (have N_cD := Lib.hid (Nat.ne_of_lt T_c.out); replace F_c := Lib.hid (F_c.out.below hb); replace T_c := Lib.hid (Nat.lt_trans T_c.out hl))
    try (have N_lD := Lib.hid (Nat.ne_of_lt T_l.out); replace F_l := Lib.hid (F_l.out.below hb); replace T_l := Lib.hid (Nat.lt_trans T_l.out hl))
    try (have N_tD := Lib.hid (Nat.ne_of_lt T_t.out); replace F_t := Lib.hid (F_t.out.below hb); replace T_t := Lib.hid (Nat.lt_trans T_t.out hl))
    have T_D := Lib.hid hl
    clear hb hl
    generalize v.alloc (.cells #[.slice none 0 0, .slice none 0 0, .slice none 0 0, .int .i64 0, .int .i64 0, .int .i64 0] 31) = u at *
    generalize v.heap.size = g_D at *
    refine hK.out _ _ trivial (fun hHeld => ?_)
    clear hK K hHeld
    try simp only [sp]
    clear v
    rename World => v
    have mr : True := trivial))
  all_goals
   obtain ⟨s0, s1, s2, s3, s4, s5, y0, y1, y2, y3, y4, y5, sl⟩ := F_D.out
   go_simp
   clear s0 s1 s2 s3 s4 s5 y0 y1 y2 y3 y4 y5 sl
   have XD := Lib.hid (F_D.out.set (.slice (some ⟨g_c, 0, none⟩) 0 WN) (.slice (some ⟨g_l, 0, none⟩) WN WN) (.slice (some ⟨g_t, 0, none⟩) TN TN) (.int .i64 0) (.int .i64 0) (.int .i64 0))
   have XB := Lib.hid (below_set6 B.out G_D.out (.slice (some ⟨g_c, 0, none⟩) 0 WN) (.slice (some ⟨g_l, 0, none⟩) WN WN) (.slice (some ⟨g_t, 0, none⟩) TN TN) (.int .i64 0) (.int .i64 0) (.int .i64 0))
   have Xc := Lib.hid (F_c.out.far6 (D := g_D) (fun k hk => by cases hk; exact N_cD.out) (.slice (some ⟨g_c, 0, none⟩) 0 WN) (.slice (some ⟨g_l, 0, none⟩) WN WN) (.slice (some ⟨g_t, 0, none⟩) TN TN) (.int .i64 0) (.int .i64 0) (.int .i64 0))
   have Xl := Lib.hid (F_l.out.far6 (D := g_D) (fun k hk => by cases hk; exact N_lD.out) (.slice (some ⟨g_c, 0, none⟩) 0 WN) (.slice (some ⟨g_l, 0, none⟩) WN WN) (.slice (some ⟨g_t, 0, none⟩) TN TN) (.int .i64 0) (.int .i64 0) (.int .i64 0))
   have Xt := Lib.hid (F_t.out.far6 (D := g_D) (fun k hk => by cases hk; exact N_tD.out) (.slice (some ⟨g_c, 0, none⟩) 0 WN) (.slice (some ⟨g_l, 0, none⟩) WN WN) (.slice (some ⟨g_t, 0, none⟩) TN TN) (.int .i64 0) (.int .i64 0) (.int .i64 0))
   refine hK.out _ _ trivial (fun hHeld => ?_)
   clear hK K hHeld
   try simp only [sp]
   refine wpAnyH_done (by kernel_rfl) ?_ _
   clear B F_c F_l F_t F_D S T_c T_l T_t T_D
   generalize (((((v.setCell ⟨g_D, 0, none⟩ (.slice (some ⟨g_c, 0, none⟩) 0 WN)).setCell ⟨g_D, 1, none⟩ (.slice (some ⟨g_l, 0, none⟩) WN WN)).setCell ⟨g_D, 2, none⟩ (.slice (some ⟨g_t, 0, none⟩) TN TN)).setCell ⟨g_D, 3, none⟩ (.int .i64 0)).setCell ⟨g_D, 4, none⟩ (.int .i64 0)).setCell ⟨g_D, 5, none⟩ (.int .i64 0) = vx at *
   go_wp2_with fail
   go_meet
   exact ⟨g_D, g_c, g_l, g_t, rfl, XB, Xc, Xl, Xt, XD, Lib.hid ⟨N_cl.out, N_ct.out, N_lt.out, N_cD.out, N_lD.out, N_tD.out, G_D.out, G_c.out, G_l.out, G_t.out⟩⟩
 case rest =>
  obtain ⟨W3, hW3⟩ : ∃ W3, W3 = wc := ⟨_, rfl⟩
  subst hW3
  obtain ⟨D, gc, gl, gt, rfl, hb3, hc, hl, ht, hD, hne⟩ := hcut
  have HB3' := Lib.hid hb3.out
  have HB3 := Lib.hid (Below.call HB2.out hb3.out)
  have HK3 := Lib.hid (HK2.out.below hb3.out)
  have HR3 := Lib.hid (HR2.out.below hb3.out)
  have HD3 := Lib.hid (HD2.out.then hb3.out)
  have HOC := Lib.hid hc.out
  have HOL := Lib.hid hl.out
  have HOT := Lib.hid ht.out
  have HCD := Lib.hid hD.out
  have HNE := Lib.hid hne.out
  have hWs := HB2.out.size
  have hRs : w.heap.size + 1 < w2.heap.size := by obtain ⟨_, _, _, _, _, _, _, _, _, _, _, _, h⟩ := HR2.out; exact h
  have HKs := Lib.hid (show w.heap.size + 1 < w2.heap.size from hRs)
  have HDW := HD2
  have HRW := HR2
  clear hb3 hc hl ht hD hne hWs hRs HK2 HR2 HD2
  obtain ⟨d0, d1, d2, d3, _⟩ := HK3.out
  obtain ⟨pA, hpA⟩ : ∃ x, d.pA = x := ⟨_, rfl⟩
  obtain ⟨pn, hpn⟩ : ∃ x, d.pn = x := ⟨_, rfl⟩
  rw [hpA, hpn] at d1
  have HPA := Lib.hid hpA
  have HPN := Lib.hid hpn
  clear hpA hpn
  have HCL := Lib.hid (fun q h1 h2 w h3 => cellsOf_any q h1 h2 w h3)
  go_wp2
  clear d0 d1 d2 d3
  go_loopw [35] (fun i wr => ∃ (k : Nat) (vC : Value), i = .int .i64 k ∧ k ≤ d.pl.length ∧ Hid (Cells6 wr D vC (.slice (some ⟨gl, 0, none⟩) (wellN d) (wellN d)) (.slice (some ⟨gt, 0, none⟩) (tipN d) (tipN d)) (.int .i64 0) (.int .i64 0) (.int .i64 0)) ∧ Hid (KE.Own wr w2.heap.size vC (newCn d.pl k)) ∧
    Hid (KL.Own wr w2.heap.size (.slice (some ⟨gl, 0, none⟩) (wellN d) (wellN d)) (List.replicate (wellN d) lo0)) ∧ Hid (KT.Own wr w2.heap.size (.slice (some ⟨gt, 0, none⟩) (tipN d) (tipN d)) (List.replicate (tipN d) (0, 0))) ∧ Hid (∀ b, vC.ownBlock = some b → b ≠ D ∧ b ≠ gl ∧ b ≠ gt) ∧ Hid (Below w2.heap.size w2 wr)) (fun i _ => d.pl.length - (intOf i).toNat)
  case atStart => exact ⟨0, _, rfl, Nat.zero_le _, HCD, HOC, HOL, HOT, Lib.hid (fun b hb => by cases hb; exact ⟨HNE.out.2.2.2.1, HNE.out.1, HNE.out.2.1⟩), HB3'⟩
  case round =>
   obtain ⟨k, vC, rfl, hk, hD, hc, hl, ht, hn, hb⟩ := hrel
   have HCD := Lib.hid hD.out
   have HOC := Lib.hid hc.out
   have HOL := Lib.hid hl.out
   have HOT := Lib.hid ht.out
   have HNV := Lib.hid hn.out
   have HBR := Lib.hid hb.out
   clear hD hc hl ht hn hb
   have hpn := HD3.out.p.len
   rw [HPN.out] at hpn
   subst hpn
   by_cases hlt : k < d.pl.length
   ·obtain ⟨b, off, hA, hb, hcp, hcell⟩ := plate_cells (HDW.out.then HBR.out).p (by omega)
    obtain ⟨c0, c1, c2, c3, c4, c5, c6⟩ := hcell k hlt
    have HSN := Lib.hid (newCn_snoc d.pl k)
    have HPB := Lib.hid (HOK.out.pl k hlt)
    have HPO := Lib.hid (HDW.out.p.okAt k hlt)
    have HPS := Lib.hid ((HDW.out.then HBR.out).s _ (getD_mem' d.pl k KP.dflt hlt))
    have HLN := Lib.hid (newCn_len d.pl HOK.out.pl k (by omega))
    have HLM := Lib.hid ((wells_bd d.pl (fun i hi => plate_size (HOK.out.pl i hi)) k (by omega)).2)
    have HP4 := Lib.hid HOK.out.p4
    have hp4 := HOK.out.p4
    rw [HPA.out] at hA
    subst hA
    clear hcell
    generalize newCn d.pl k = L at *
    generalize d.pl.getD k KP.dflt = q at *
    obtain ⟨a1, a2, X, P, R, cap, sA, sn, sc, st⟩ := q
    dsimp only at *
    have hbw : b < wr.heap.size := hb
    have hsf := fun (w : World) (a : Addr) (m : Mode) (b : Nat) => run_store_float (P := Tryz.prog) (w := w) (a := a) (m := m) .f64 b
    go_wp2_with fail
    have HFP := Lib.hid (show ∀ w1, Below (wr.alloc (.cells #[.int .i64 a1, .int .i64 a2, .float .f64 X, .float .f64 P, .float .f64 R, .int .i64 cap, .slice sA sn sc] 47)).heap.size (wr.alloc (.cells #[.int .i64 a1, .int .i64 a2, .float .f64 X, .float .f64 P, .float .f64 R, .int .i64 cap, .slice sA sn sc] 47)) w1 → (w1.cell? ⟨wr.heap.size, 0, none⟩ = some (.int .i64 a1) ∧ w1.cell? ⟨wr.heap.size, 1, none⟩ = some (.int .i64 a2) ∧ w1.cell? ⟨wr.heap.size, 2, none⟩ = some (.float .f64 X) ∧ w1.cell? ⟨wr.heap.size, 3, none⟩ = some (.float .f64 P) ∧ w1.cell? ⟨wr.heap.size, 4, none⟩ = some (.float .f64 R) ∧ w1.cell? ⟨wr.heap.size, 5, none⟩ = some (.int .i64 cap) ∧ w1.cell? ⟨wr.heap.size, 6, none⟩ = some (.slice sA sn sc)) from by
     intro w1 hb
     refine ⟨keep_cell hb ?_, keep_cell hb ?_, keep_cell hb ?_, keep_cell hb ?_, keep_cell hb ?_, keep_cell hb ?_, keep_cell hb ?_⟩
     all_goals simp [go_sem])
    have hbV := Below.al (Below.refl wr.heap.size wr) (.cells #[.int .i64 a1, .int .i64 a2, .float .f64 X, .float .f64 P, .float .f64 R, .int .i64 cap, .slice sA sn sc] 47)
    have HPZ := Lib.hid (show wr.heap.size < (wr.alloc (.cells #[.int .i64 a1, .int .i64 a2, .float .f64 X, .float .f64 P, .float .f64 R, .int .i64 cap, .slice sA sn sc] 47)).heap.size by simp)
    have HPX := Lib.hid (show vC.ownBlock ≠ some wr.heap.size from fun h => Nat.lt_irrefl _ (HOC.out.lt _ h).2)
    have HPD := Lib.hid (show D ≠ wr.heap.size from by obtain ⟨_, _, _, _, _, _, _, _, _, _, _, _, h⟩ := HCD.out; exact Nat.ne_of_lt h)
    generalize wr.alloc (.cells #[.int .i64 a1, .int .i64 a2, .float .f64 X, .float .f64 P, .float .f64 R, .int .i64 cap, .slice sA sn sc] 47) = V at *
    obtain ⟨p0, p1, p2, p3, p4, p5, p6⟩ := HFP.out V.drew (Below.refl _ _).drew
    have hbd := Below.call hbV (Below.refl _ V).drew
    have hbd2 := (Below.refl V.heap.size V).drew
    clear c0 c1 c2 c3 c4 c5 c6
    refine wp_region_held_drew (S := fun w' => w'.cell? ⟨wr.heap.size, 0, none⟩ = some (.int .i64 a1) ∧ w'.cell? ⟨wr.heap.size, 1, none⟩ = some (.int .i64 a2) ∧ w'.cell? ⟨wr.heap.size, 2, none⟩ = some (.float .f64 X) ∧ w'.cell? ⟨wr.heap.size, 3, none⟩ = some (.float .f64 P) ∧ w'.cell? ⟨wr.heap.size, 4, none⟩ = some (.float .f64 R) ∧ w'.cell? ⟨wr.heap.size, 5, none⟩ = some (.int .i64 cap) ∧ w'.cell? ⟨wr.heap.size, 6, none⟩ = some (.slice sA sn sc)) (by kernel_rfl) ?_ (fun hHeld => ?_)
    ·exact ⟨p0, p1, p2, p3, p4, p5, p6⟩
    clear p0 p1 p2 p3 p4 p5 p6 hHeld
    have BW := Lib.hid hbd
    have BV := Lib.hid hbd2
    have HPZ := Lib.hid (show wr.heap.size < V.drew.heap.size from HPZ.out)
    clear hbV hbd hbd2
    generalize V.drew = v0 at *
    have A0 := Lib.hid (HCD.out.below BW.out)
    have A1 := Lib.hid (HOC.out.below BW.out)
    have A2 := Lib.hid (HOL.out.below BW.out)
    have A3 := Lib.hid (HOT.out.below BW.out)
    have A4 := Lib.hid (HBR.out.trans (BW.out.mono HBR.out.size))
    have A5 := Lib.hid (HPS.out.then BW.out)
    have A6 := Lib.hid (Nat.le_trans HBR.out.size BW.out.size)
    have hHeld := HFP.out v0 BV.out
    refine tk 0 39 rfl ?_
    try simp only [sp]
    refine tk 2 41 rfl ?_
    try simp only [sp]
    clear hHeld
    have hHeld := HFP.out v0 BV.out
    refine wpAnyH_ready (rs := [1, 3]) (by kernel_rfl) (by simp) ?_
    refine AllReadyH.cons (o := ⟨some 40, _, _, _, _, _⟩) rfl (fun K hK => ?_) ?_
    ·obtain ⟨e0, _⟩ := A0.out
     go_simp
     refine hK.out _ _ hHeld (fun hHeld => ?_)
     clear hK K
     clear e0
     try simp only [sp]
     refine wpAnyH_ready (rs := [3]) (by kernel_rfl) (by simp) ?_
     refine AllReadyH.cons (o := ⟨some 42, _, _, _, _, _⟩) rfl (fun K hK => ?_) AllReadyH.nil
     go_simp
     refine (HCL.out ⟨a1, a2, X, P, R, cap, sA, sn, sc, st⟩ HPB.out HPO.out _ A5.out).mono ?_
     rintro e v1 ⟨vP, rfl, ho, hb⟩
     have HOP := Lib.hid ho
     have A0 := Lib.hid (A0.out.below hb)
     have A1 := Lib.hid (A1.out.below hb)
     have A2 := Lib.hid (A2.out.below hb)
     have A3 := Lib.hid (A3.out.below hb)
     have A4 := Lib.hid (A4.out.trans (hb.mono A6.out))
     have A6 := Lib.hid (Nat.le_trans A6.out hb.size)
     have HPZ := Lib.hid (Nat.lt_of_lt_of_le HPZ.out hb.size)
     have BV := Lib.hid (Below.call BV.out hb)
     go_wp2_with fail
     clear ho hb
     refine hK.out _ _ (HFP.out v1 BV.out) (fun hHeld => ?_)
     clear hK K
     try simp only [sp]
     refine wpAnyH_ready (rs := [4]) (by kernel_rfl) (by simp) ?_
     refine AllReadyH.cons (o := ⟨some 43, _, _, _, _, _⟩) rfl (fun K hK => ?_) AllReadyH.nil
     have hIP := HOP.out.isL (by rw [plC_len]; have := (plN_eq HPB.out).2.2.1; omega)
     refine Lk.wp_app (K := KE) v1 _ _ rfl rfl w2.heap.size v1.heap.size vC vP L _ rfl rfl A1.out hIP ?_ A6.out ?_
     ·rw [plC_len]; have := (plN_eq HPB.out).2.2.1; have := HLN.out; have := HLM.out; have := HP4.out; omega
     intro vN' v2 ho hg hnb
     obtain ⟨AN, cN, hvN, _⟩ := (ho.isL (by rw [List.length_append, plC_len]; have := (plN_eq HPB.out).2.2.1; have := HLN.out; have := HLM.out; have := HP4.out; omega)).shape
     obtain ⟨nN, hnN⟩ : ∃ n, (L ++ plC ⟨a1, a2, X, P, R, cap, sA, sn, sc, st⟩).length = n := ⟨_, rfl⟩
     rw [hnN] at hvN
     subst hvN
     clear hnN
     have hne : ∀ b, vC.ownBlock = some b → b < v1.heap.size := fun b hb => (A1.out.lt b hb).2
     have B0 := Lib.hid (A0.out.grown hg (fun h => (HNV.out D h.symm).1 rfl))
     have B2 := Lib.hid (A2.out.kept hg (Or.inr (fun h => (HNV.out gl h.symm).2.1 rfl)))
     have B3 := Lib.hid (A3.out.kept hg (Or.inr (fun h => (HNV.out gt h.symm).2.2 rfl)))
     have B4 := Lib.hid (Lk.Own.grow' (K := KE) A1.out A4.out A6.out hg)
     have B1 := Lib.hid ho
     have hDl : D < v1.heap.size := by obtain ⟨_, _, _, _, _, _, _, _, _, _, _, _, h⟩ := A0.out; exact h
     have hgl : gl < v1.heap.size := (A2.out.lt gl rfl).2
     have hgt : gt < v1.heap.size := (A3.out.lt gt rfl).2
     have B5 := Lib.hid (show ∀ b, (Value.slice AN nN cN).ownBlock = some b → b ≠ D ∧ b ≠ gl ∧ b ≠ gt from fun b hb => by
      rcases hnb with h | h
      ·exact HNV.out b (by rw [← h]; exact hb)
      ·rw [h] at hb
       cases hb
       exact ⟨by omega, by omega, by omega⟩)
     have hne1 := HPX.out
     have hfarP : ∀ i v, v1.cell? ⟨wr.heap.size, i, none⟩ = some v → v2.cell? ⟨wr.heap.size, i, none⟩ = some v := fun i v h => (hg.cell_far ⟨wr.heap.size, i, none⟩ HPZ.out (fun e => HPX.out e.symm)).trans h
     have hcl := HFP.out v1 BV.out
     obtain ⟨q0, q1, q2, q3, q4, q5, q6⟩ := hcl
     have hS2 := And.intro (hfarP 0 _ q0) (And.intro (hfarP 1 _ q1) (And.intro (hfarP 2 _ q2) (And.intro (hfarP 3 _ q3) (And.intro (hfarP 4 _ q4) (And.intro (hfarP 5 _ q5) (hfarP 6 _ q6))))))
     have hSP := Lib.hid hS2
     clear ho hg hnb hne hDl hgl hgt hne1 hfarP q0 q1 q2 q3 q4 q5 q6
     refine hK.out _ _ hS2 (fun hHeld => ?_)
     clear hK K
     clear A0 A1 A2 A3 A4 A6 HOP hIP hS2
     try simp only [sp]
     refine tk 5 44 rfl ?_
     try simp only [sp]
     refine wpAnyH_ready (rs := [6]) (by kernel_rfl) (by simp) ?_
     refine AllReadyH.cons (o := ⟨none, _, _, _, _, _⟩) rfl (fun K hK => ?_) AllReadyH.nil
     obtain ⟨e0, e1, e2, e3, e4, e5, y0, y1, y2, y3, y4, y5, yl⟩ := B0.out
     go_simp
     clear e0 e1 e2 e3 e4 e5 y0 y1 y2 y3 y4 y5 yl
     have C0 := Lib.hid (B0.out.s (.slice AN nN cN)).1
     have C1 := Lib.hid (B1.out.far (D := D) (fun k hk => (B5.out k hk).1) 0 (.slice AN nN cN))
     have C2 := Lib.hid (B2.out.far (D := D) (fun k hk => by cases hk; exact HNE.out.2.2.2.2.1) 0 (.slice AN nN cN))
     have C3 := Lib.hid (B3.out.far (D := D) (fun k hk => by cases hk; exact HNE.out.2.2.2.2.2.1) 0 (.slice AN nN cN))
     have C4 := Lib.hid (show Below w2.heap.size w2 (v2.setCell ⟨D, 0, none⟩ (.slice AN nN cN)) from B4.out.setCell HNE.out.2.2.2.2.2.2.1 _)
     have hst := HPD.out
     obtain ⟨q0, q1, q2, q3, q4, q5, q6⟩ := hSP.out
     have hS3 := And.intro (st_other (v := .slice AN nN cN) q0 (ad_ne (a := D) (b := 0) (.inl hst))) (And.intro (st_other (v := .slice AN nN cN) q1 (ad_ne (a := D) (b := 0) (.inl hst))) (And.intro (st_other (v := .slice AN nN cN) q2 (ad_ne (a := D) (b := 0) (.inl hst))) (And.intro (st_other (v := .slice AN nN cN) q3 (ad_ne (a := D) (b := 0) (.inl hst))) (And.intro (st_other (v := .slice AN nN cN) q4 (ad_ne (a := D) (b := 0) (.inl hst))) (And.intro (st_other (v := .slice AN nN cN) q5 (ad_ne (a := D) (b := 0) (.inl hst))) (st_other (v := .slice AN nN cN) q6 (ad_ne (a := D) (b := 0) (.inl hst))))))))
     clear q0 q1 q2 q3 q4 q5 q6 hst
     refine hK.out _ _ hS3 (fun hHeld => ?_)
     clear hK K
     clear hS3 hHeld B0 B1 B2 B3 B4
     try simp only [sp]
     refine wpAnyH_done (by kernel_rfl) ?_ _
     clear hSP BV HPZ
     generalize v2.setCell ⟨D, 0, none⟩ (.slice AN nN cN) = vx at *
     go_wp2
     go_roundw
     case rel => exact ⟨k + 1, .slice AN nN cN, num_i (by omega), by omega, C0, Lib.hid (by rw [HSN.out]; exact C1.out), C2, C3, B5, C4⟩
     case measure => simp [intOf]; omega
    refine AllReadyH.cons (o := ⟨some 42, _, _, _, _, _⟩) rfl (fun K hK => ?_) AllReadyH.nil
    go_simp
    refine (HCL.out ⟨a1, a2, X, P, R, cap, sA, sn, sc, st⟩ HPB.out HPO.out _ A5.out).mono ?_
    rintro e v1 ⟨vP, rfl, ho, hb⟩
    have HOP := Lib.hid ho
    have A0 := Lib.hid (A0.out.below hb)
    have A1 := Lib.hid (A1.out.below hb)
    have A2 := Lib.hid (A2.out.below hb)
    have A3 := Lib.hid (A3.out.below hb)
    have A4 := Lib.hid (A4.out.trans (hb.mono A6.out))
    have A6 := Lib.hid (Nat.le_trans A6.out hb.size)
    have HPZ := Lib.hid (Nat.lt_of_lt_of_le HPZ.out hb.size)
    have BV := Lib.hid (Below.call BV.out hb)
    go_wp2_with fail
    clear ho hb
    refine hK.out _ _ (HFP.out v1 BV.out) (fun hHeld => ?_)
    clear hK K
    try simp only [sp]
    have hHeld2 := HFP.out v1 BV.out
    refine wpAnyH_ready (rs := [1]) (by kernel_rfl) (by simp) ?_
    refine AllReadyH.cons (o := ⟨some 40, _, _, _, _, _⟩) rfl (fun K hK => ?_) AllReadyH.nil
    obtain ⟨e0, _⟩ := A0.out
    go_simp
    refine hK.out _ _ hHeld (fun hHeld => ?_)
    clear hK K
    clear e0
    try simp only [sp]
    refine wpAnyH_ready (rs := [4]) (by kernel_rfl) (by simp) ?_
    refine AllReadyH.cons (o := ⟨some 43, _, _, _, _, _⟩) rfl (fun K hK => ?_) AllReadyH.nil
    have hIP := HOP.out.isL (by rw [plC_len]; have := (plN_eq HPB.out).2.2.1; omega)
    refine Lk.wp_app (K := KE) v1 _ _ rfl rfl w2.heap.size v1.heap.size vC vP L _ rfl rfl A1.out hIP ?_ A6.out ?_
    ·rw [plC_len]; have := (plN_eq HPB.out).2.2.1; have := HLN.out; have := HLM.out; have := HP4.out; omega
    intro vN' v2 ho hg hnb
    obtain ⟨AN, cN, hvN, _⟩ := (ho.isL (by rw [List.length_append, plC_len]; have := (plN_eq HPB.out).2.2.1; have := HLN.out; have := HLM.out; have := HP4.out; omega)).shape
    obtain ⟨nN, hnN⟩ : ∃ n, (L ++ plC ⟨a1, a2, X, P, R, cap, sA, sn, sc, st⟩).length = n := ⟨_, rfl⟩
    rw [hnN] at hvN
    subst hvN
    clear hnN
    have hne : ∀ b, vC.ownBlock = some b → b < v1.heap.size := fun b hb => (A1.out.lt b hb).2
    have B0 := Lib.hid (A0.out.grown hg (fun h => (HNV.out D h.symm).1 rfl))
    have B2 := Lib.hid (A2.out.kept hg (Or.inr (fun h => (HNV.out gl h.symm).2.1 rfl)))
    have B3 := Lib.hid (A3.out.kept hg (Or.inr (fun h => (HNV.out gt h.symm).2.2 rfl)))
    have B4 := Lib.hid (Lk.Own.grow' (K := KE) A1.out A4.out A6.out hg)
    have B1 := Lib.hid ho
    have hDl : D < v1.heap.size := by obtain ⟨_, _, _, _, _, _, _, _, _, _, _, _, h⟩ := A0.out; exact h
    have hgl : gl < v1.heap.size := (A2.out.lt gl rfl).2
    have hgt : gt < v1.heap.size := (A3.out.lt gt rfl).2
    have B5 := Lib.hid (show ∀ b, (Value.slice AN nN cN).ownBlock = some b → b ≠ D ∧ b ≠ gl ∧ b ≠ gt from fun b hb => by
     rcases hnb with h | h
     ·exact HNV.out b (by rw [← h]; exact hb)
     ·rw [h] at hb
      cases hb
      exact ⟨by omega, by omega, by omega⟩)
    have hne1 := HPX.out
    have hfarP : ∀ i v, v1.cell? ⟨wr.heap.size, i, none⟩ = some v → v2.cell? ⟨wr.heap.size, i, none⟩ = some v := fun i v h => (hg.cell_far ⟨wr.heap.size, i, none⟩ HPZ.out (fun e => HPX.out e.symm)).trans h
    have hcl := HFP.out v1 BV.out
    obtain ⟨q0, q1, q2, q3, q4, q5, q6⟩ := hcl
    have hS2 := And.intro (hfarP 0 _ q0) (And.intro (hfarP 1 _ q1) (And.intro (hfarP 2 _ q2) (And.intro (hfarP 3 _ q3) (And.intro (hfarP 4 _ q4) (And.intro (hfarP 5 _ q5) (hfarP 6 _ q6))))))
    have hSP := Lib.hid hS2
    clear ho hg hnb hne hDl hgl hgt hne1 hfarP q0 q1 q2 q3 q4 q5 q6
    refine hK.out _ _ hS2 (fun hHeld => ?_)
    clear hK K
    clear A0 A1 A2 A3 A4 A6 HOP hIP hS2
    try simp only [sp]
    refine tk 5 44 rfl ?_
    try simp only [sp]
    refine wpAnyH_ready (rs := [6]) (by kernel_rfl) (by simp) ?_
    refine AllReadyH.cons (o := ⟨none, _, _, _, _, _⟩) rfl (fun K hK => ?_) AllReadyH.nil
    obtain ⟨e0, e1, e2, e3, e4, e5, y0, y1, y2, y3, y4, y5, yl⟩ := B0.out
    go_simp
    clear e0 e1 e2 e3 e4 e5 y0 y1 y2 y3 y4 y5 yl
    have C0 := Lib.hid (B0.out.s (.slice AN nN cN)).1
    have C1 := Lib.hid (B1.out.far (D := D) (fun k hk => (B5.out k hk).1) 0 (.slice AN nN cN))
    have C2 := Lib.hid (B2.out.far (D := D) (fun k hk => by cases hk; exact HNE.out.2.2.2.2.1) 0 (.slice AN nN cN))
    have C3 := Lib.hid (B3.out.far (D := D) (fun k hk => by cases hk; exact HNE.out.2.2.2.2.2.1) 0 (.slice AN nN cN))
    have C4 := Lib.hid (show Below w2.heap.size w2 (v2.setCell ⟨D, 0, none⟩ (.slice AN nN cN)) from B4.out.setCell HNE.out.2.2.2.2.2.2.1 _)
    have hst := HPD.out
    obtain ⟨q0, q1, q2, q3, q4, q5, q6⟩ := hSP.out
    have hS3 := And.intro (st_other (v := .slice AN nN cN) q0 (ad_ne (a := D) (b := 0) (.inl hst))) (And.intro (st_other (v := .slice AN nN cN) q1 (ad_ne (a := D) (b := 0) (.inl hst))) (And.intro (st_other (v := .slice AN nN cN) q2 (ad_ne (a := D) (b := 0) (.inl hst))) (And.intro (st_other (v := .slice AN nN cN) q3 (ad_ne (a := D) (b := 0) (.inl hst))) (And.intro (st_other (v := .slice AN nN cN) q4 (ad_ne (a := D) (b := 0) (.inl hst))) (And.intro (st_other (v := .slice AN nN cN) q5 (ad_ne (a := D) (b := 0) (.inl hst))) (st_other (v := .slice AN nN cN) q6 (ad_ne (a := D) (b := 0) (.inl hst))))))))
    clear q0 q1 q2 q3 q4 q5 q6 hst
    refine hK.out _ _ hS3 (fun hHeld => ?_)
    clear hK K
    clear hS3 hHeld B0 B1 B2 B3 B4
    try simp only [sp]
    refine wpAnyH_done (by kernel_rfl) ?_ _
    clear hSP BV HPZ
    generalize v2.setCell ⟨D, 0, none⟩ (.slice AN nN cN) = vx at *
    go_wp2
    go_roundw
    case rel => exact ⟨k + 1, .slice AN nN cN, num_i (by omega), by omega, C0, Lib.hid (by rw [HSN.out]; exact C1.out), C2, C3, B5, C4⟩
    case measure => simp [intOf]; omega
   ·obtain rfl : k = d.pl.length := by omega
    have HWL := Lib.hid HWN.out.2.2
    have HNV := Lib.hid (show ∀ b, vC.ownBlock = some b → b ≠ D ∧ b ≠ gl ∧ b ≠ gt from HNV.out)
    have HW2 := Lib.hid HWN.out.2.1
    have HTB := Lib.hid HTN.out.2
    have hWB : wellN d ≤ 384 := HWN.out.2.1
    have hTB : tipN d ≤ 384 := HTN.out.2
    have HREP := Lib.hid (show logF (wellN d) 0 = List.replicate (wellN d) lo0 by unfold logF; simp)
    have HREP2 := Lib.hid (show logF (wellN d) (wellN d) = List.replicate (wellN d) lo8 by unfold logF; simp)
    have HTEP := Lib.hid (show tipF (tipN d) 0 = List.replicate (tipN d) (0, 0) by unfold tipF; simp)
    have HTEP2 := Lib.hid (show tipF (tipN d) (tipN d) = List.replicate (tipN d) (1, 0) by unfold tipF; simp)
    have HV8 := Lib.hid (fun w => vlog8_any w)
    rw [← HREP.out] at HOL
    rw [← HTEP.out] at HOT
    obtain ⟨AC, cC, hvC, hcC⟩ := (HOC.out.isL (by rw [HWL.out]; omega)).shape
    rw [HWL.out] at hvC hcC
    subst hvC
    have HNEW := Lib.hid (show newA d = ⟨newCn d.pl d.pl.length, List.replicate (wellN d) (8, 0, []), List.replicate (tipN d) (1, 0), Two.sumL (volS (newCn d.pl d.pl.length)), 0, 0⟩ from rfl)
    have HSB := Lib.hid (sumL_bd _ (newC_right d.pl HOK.out.pl d.pl.length (Nat.le_refl _)))
    generalize newCn d.pl d.pl.length = cl at *
    generalize hWn : wellN d = WN at *
    generalize hTn : tipN d = TN at *
    clear hWn hTn HOK HWN HTN HCL HCN
    obtain ⟨e0, e1, e2, e3, e4, e5, y0, y1, y2, y3, y4, y5, yl⟩ := HCD.out
    go_wp2
    clear e0 e1 e2 e3 e4 e5 y0 y1 y2 y3 y4 y5 yl
    go_loopw [49] (fun i wx => ∃ k : Nat, i = .int .i64 k ∧ k ≤ WN ∧ Hid (Cells6 wx D (.slice AC WN cC) (.slice (some ⟨gl, 0, none⟩) WN WN) (.slice (some ⟨gt, 0, none⟩) TN TN) (.int .i64 0) (.int .i64 0) (.int .i64 0)) ∧ Hid (KE.Own wx w2.heap.size (.slice AC WN cC) cl) ∧
      Hid (KL.Own wx w2.heap.size (.slice (some ⟨gl, 0, none⟩) WN WN) (logF WN k)) ∧ Hid (KT.Own wx w2.heap.size (.slice (some ⟨gt, 0, none⟩) TN TN) (tipF TN 0)) ∧ Hid (Below w2.heap.size w2 wx)) (fun i _ => WN - (intOf i).toNat)
    case atStart => exact ⟨0, rfl, Nat.zero_le _, HCD, HOC, HOL, HOT, HBR⟩
    case round =>
     clear HCD HOC HOL HOT HBR
     obtain ⟨k, rfl, hk, hD, hc, hl, ht, hb⟩ := hrel
     have HCD := Lib.hid hD.out
     have HOC := Lib.hid hc.out
     have HOL := Lib.hid hl.out
     have HOT := Lib.hid ht.out
     have HBR := Lib.hid hb.out
     clear hD hc hl ht hb
     obtain ⟨_, e1, _⟩ := HCD.out
     by_cases hlt : k < WN
     ·have HSET := Lib.hid (logF_set WN k hlt)
      have hlen := logF_len WN k (by omega)
      have HLEN := Lib.hid hlen
      go_wp2_with fail
      refine wp_region_held_drew (S := fun w' => w'.cell? ⟨D, 1, none⟩ = some (.slice (some ⟨gl, 0, none⟩) WN WN)) (by kernel_rfl) ?_ (fun hHeld => ?_)
      ·exact e1
      clear e1 hHeld
      have bw := (Below.refl wr.heap.size wr).drew
      have A0 := Lib.hid (HCD.out.below bw)
      have A1 := Lib.hid (HOC.out.below bw)
      have A2 := Lib.hid (HOL.out.below bw)
      have A3 := Lib.hid (HOT.out.below bw)
      have A4 := Lib.hid (HBR.out.trans (bw.mono HBR.out.size))
      clear bw HCD HOC HOL HOT HBR hlen
      generalize wr.drew = v0 at *
      obtain ⟨_, hHeld, _⟩ := A0.out
      refine tk 0 53 rfl ?_
      try simp only [sp]
      refine tk 1 54 rfl ?_
      try simp only [sp]
      refine tk 2 55 rfl ?_
      try simp only [sp]
      clear hHeld
      refine wpAnyH_ready (rs := [3]) (by kernel_rfl) (by simp) ?_
      refine AllReadyH.cons (o := ⟨some 56, _, _, _, _, _⟩) rfl (fun K hK => ?_) AllReadyH.nil
      go_simp
      refine (HV8.out _).mono ?_
      rintro e v1 ⟨rfl, hb⟩
      have A0 := Lib.hid (A0.out.below hb)
      have A1 := Lib.hid (A1.out.below hb)
      have A2 := Lib.hid (A2.out.below hb)
      have A3 := Lib.hid (A3.out.below hb)
      have A4 := Lib.hid (Below.call A4.out (hb.mono (Nat.le_refl _)))
      go_wp2_with fail
      clear hb
      obtain ⟨_, hHeld0, _⟩ := A0.out
      refine hK.out _ _ hHeld0 (fun hHeld => ?_)
      clear hK K
      clear hHeld0
      try simp only [sp]
      refine tk 4 52 rfl ?_
      try simp only [sp]
      refine tk 5 57 rfl ?_
      try simp only [sp]
      refine tk 6 58 rfl ?_
      try simp only [sp]
      refine tk 7 59 rfl ?_
      try simp only [sp]
      refine wpAnyH_ready (rs := [8]) (by kernel_rfl) (by simp) ?_
      refine AllReadyH.cons (o := ⟨none, _, _, _, _, _⟩) rfl (fun K hK => ?_) AllReadyH.nil
      obtain ⟨q0, q1, q2, z0, z1, z2⟩ := KL.Own.at3 A2.out HLEN.out k hlt
      generalize (logF WN k).getD k lo0 = old at *
      go_simp
      clear q0 q1 q2 z0 z1 z2
      have hp := Lk.Own.put3 (K := KL) rfl A2.out HLEN.out k hlt lo8 _ _ _ rfl ⟨by decide, by decide⟩
      rw [HSET.out] at hp
      have C2 := Lib.hid (show KL.Own (((v1.setCell ⟨gl, k * 3, none⟩ (.int .i64 8)).setCell ⟨gl, k * 3 + 1, none⟩ (.int .i64 0)).setCell ⟨gl, k * 3 + 2, none⟩ (.slice none 0 0)) w2.heap.size (.slice (some ⟨gl, 0, none⟩) WN WN) (logF WN (k + 1)) from hp)
      have C0 := Lib.hid (Cells6.apart3 A0.out HNE.out.2.2.2.2.1 (k * 3) (k * 3 + 1) (k * 3 + 2) (.int .i64 8) (.int .i64 0) (.slice none 0 0))
      have C1 := Lib.hid (Lk.Own.far3o A1.out (fun b hb h => (HNV.out b hb).2.1 h) (k * 3) (k * 3 + 1) (k * 3 + 2) (.int .i64 8) (.int .i64 0) (.slice none 0 0))
      have C3 := Lib.hid (Lk.Own.far3o A3.out (fun b hb h => by cases hb; exact HNE.out.2.2.1 h.symm) (k * 3) (k * 3 + 1) (k * 3 + 2) (.int .i64 8) (.int .i64 0) (.slice none 0 0))
      have C4 := Lib.hid (show Below w2.heap.size w2 (((v1.setCell ⟨gl, k * 3, none⟩ (.int .i64 8)).setCell ⟨gl, k * 3 + 1, none⟩ (.int .i64 0)).setCell ⟨gl, k * 3 + 2, none⟩ (.slice none 0 0)) from ((A4.out.setCell HNE.out.2.2.2.2.2.2.2.2.1 _).setCell HNE.out.2.2.2.2.2.2.2.2.1 _).setCell HNE.out.2.2.2.2.2.2.2.2.1 _)
      obtain ⟨_, hHeld2, _⟩ := C0.out
      clear hp
      refine hK.out _ _ hHeld2 (fun hHeld => ?_)
      clear hK K
      clear hHeld hHeld2 A0 A1 A2 A3 A4
      try simp only [sp]
      refine wpAnyH_done (by kernel_rfl) ?_ _
      generalize (((v1.setCell ⟨gl, k * 3, none⟩ (.int .i64 8)).setCell ⟨gl, k * 3 + 1, none⟩ (.int .i64 0)).setCell ⟨gl, k * 3 + 2, none⟩ (.slice none 0 0)) = vx at *
      go_wp2
      go_roundw
      case rel => exact ⟨k + 1, num_i (by omega), by omega, C0, C1, C2, C3, C4⟩
      case measure => simp [intOf]; omega
     ·obtain rfl : k = WN := by omega
      clear e1
      rw [HREP2.out] at HOL
      have HBX := Lib.hid HBR.out
      obtain ⟨_, _, e2, _⟩ := HCD.out
      go_wp2
      clear e2
      go_loopw [64] (fun i wy => ∃ j : Nat, i = .int .i64 j ∧ j ≤ TN ∧ Hid (Cells6 wy D (.slice AC k cC) (.slice (some ⟨gl, 0, none⟩) k k) (.slice (some ⟨gt, 0, none⟩) TN TN) (.int .i64 0) (.int .i64 0) (.int .i64 0)) ∧ Hid (KE.Own wy w2.heap.size (.slice AC k cC) cl) ∧
        Hid (KL.Own wy w2.heap.size (.slice (some ⟨gl, 0, none⟩) k k) (List.replicate k lo8)) ∧ Hid (KT.Own wy w2.heap.size (.slice (some ⟨gt, 0, none⟩) TN TN) (tipF TN j)) ∧ Hid (Below w2.heap.size w2 wy)) (fun i _ => TN - (intOf i).toNat)
      case atStart => exact ⟨0, rfl, Nat.zero_le _, HCD, HOC, HOL, HOT, HBR⟩
      case round =>
       clear HCD HOC HOL HOT HBR
       obtain ⟨j, rfl, hj, hD, hc, hl, ht, hb⟩ := hrel
       have HCD := Lib.hid hD.out
       have HOC := Lib.hid hc.out
       have HOL := Lib.hid hl.out
       have HOT := Lib.hid ht.out
       have HBR := Lib.hid hb.out
       clear hD hc hl ht hb
       obtain ⟨e0, e1, e2, e3, e4, e5, y0, y1, y2, y3, y4, y5, yl⟩ := HCD.out
       by_cases hlt : j < TN
       ·have HSET := Lib.hid (tipF_set TN j hlt)
        have hlen := tipF_len TN j (by omega)
        obtain ⟨q0, q1, z0, z1⟩ := KT.Own.at2 HOT.out hlen j hlt
        generalize (tipF TN j).getD j (0, 0) = old at *
        clear e0 e1 e3 e4 e5 y0 y1 y2 y3 y4 y5 yl
        go_wp2
        go_roundw
        case rel =>
         have hp := Lk.Own.put2 (K := KT) rfl HOT.out hlen j hlt (1, 0) _ _ rfl ⟨by decide, by decide⟩
         exact ⟨j + 1, num_i (by omega), by omega, Lib.hid (Cells6.apart2 HCD.out HNE.out.2.2.2.2.2.1 _ _ _ _), Lib.hid (Lk.Own.far2o HOC.out (fun b hb h => (HNV.out b hb).2.2 h) _ _ _ _), Lib.hid (Lk.Own.far2o HOL.out (fun b hb h => by cases hb; exact HNE.out.2.2.1 h) _ _ _ _), Lib.hid (by rw [← HSET.out]; exact hp), Lib.hid ((HBR.out.setCell HNE.out.2.2.2.2.2.2.2.2.2 _).setCell HNE.out.2.2.2.2.2.2.2.2.2 _)⟩
        case measure => simp [intOf]; omega
       ·obtain rfl : j = TN := by omega
        clear e0 e1 e2 e3 e4 e5 y0 y1 y2 y3 y4 y5 yl
        rw [HTEP2.out] at HOT
        have HCI := Lib.hid (HOC.out.isL (by rw [HWL.out]; omega))
        have HLI := Lib.hid (HOL.out.isL (by rw [List.length_replicate]; omega))
        have HTI := Lib.hid (HOT.out.isL (by rw [List.length_replicate]; omega))
        have HTO := Lib.hid (fun w h => total_any ⟨AC, cC, cl, some ⟨gl, 0, none⟩, k, List.replicate k lo8, some ⟨gt, 0, none⟩, j, List.replicate j (1, 0), 0, 0, 0⟩ w h (by show cl.length ≤ 100000; rw [HWL.out]; omega))
        have hfs : fits (Two.sumL (volS cl)) := by have := HSB.out; rw [HWL.out] at this; unfold fits; omega
        have HFS := Lib.hid hfs
        have HTO := Lib.hid (show ∀ w', (Stk.mk AC cC cl (some ⟨gl, 0, none⟩) k (List.replicate k lo8) (some ⟨gt, 0, none⟩) j (List.replicate j (1, 0)) 0 0 0).In w' w'.heap.size → Calls Tryz.prog 14 #[.agg #[.slice AC k cC, .slice (some ⟨gl, 0, none⟩) k k, .slice (some ⟨gt, 0, none⟩) j j, .int .i64 0, .int .i64 0, .int .i64 0]] w' fun e w'' => e = .returned (.tuple #[.int .i64 (Two.sumL (volS cl)), .int .i64 0]) ∧ Below w'.heap.size w' w'' from by
         intro w' h
         have h2 := HTO.out w' h
         dsimp only [Stk.v, totV] at h2
         rw [HWL.out, List.length_replicate, List.length_replicate, show fitV (Two.sumL (volS cl)) = Two.sumL (volS cl) from if_pos hfs, show fitE (Two.sumL (volS cl)) = 0 from if_pos hfs] at h2
         exact h2)
        clear hfs
        have HSI := Lib.hid (fun (S : Int) (h : fits S) => show (Stk.mk AC cC cl (some ⟨gl, 0, none⟩) k (List.replicate k lo8) (some ⟨gt, 0, none⟩) j (List.replicate j (1, 0)) S 0 0).In wr wr.heap.size from ⟨by show KE.IsL wr wr.heap.size (.slice AC cl.length cC) cl; rw [HWL.out]; exact HCI.out, by show KL.IsL wr wr.heap.size (.slice _ (List.replicate k lo8).length _) _; rw [List.length_replicate]; exact HLI.out, by show KT.IsL wr wr.heap.size (.slice _ (List.replicate j ((1 : Int), (0 : Int))).length _) _; rw [List.length_replicate]; exact HTI.out, fun q hq => by rw [(List.mem_replicate.1 hq).2]; exact Lk.IsL.nil _ _ _ _, ⟨h, (show fits 0 by decide), (show fits 0 by decide)⟩⟩)
        obtain ⟨e0, e1, e2, e3, e4, e5, y0, y1, y2, y3, y4, y5, yl⟩ := HCD.out
        go_wp2_with fail
        refine (HTO.out _ (HSI.out 0 (by decide))).mono ?_
        rintro e v4 ⟨rfl, hb⟩
        clear e0 e1 e2 e3 e4 e5 y0 y1 y2 y3 y4 y5 yl
        have hD4 := HCD.out.below hb
        have hR4 := HRW.out.below (HBR.out.trans (hb.mono HBR.out.size))
        have OC := Lib.hid (HOC.out.below hb)
        have OL := Lib.hid (HOL.out.below hb)
        have OT := Lib.hid (HOT.out.below hb)
        have OB := Lib.hid (HBR.out.trans (hb.mono HBR.out.size))
        have HD4 := Lib.hid hD4
        have HR4 := Lib.hid hR4
        clear HCI HLI HTI HSI HTO hb HOC HOL HOT HBR HCD
        generalize Two.sumL (volS cl) = S0 at *
        obtain ⟨e0, e1, e2, e3, e4, e5, y0, y1, y2, y3, y4, y5, yl⟩ := hD4
        obtain ⟨r0, r1, r2, r3, r4, r5, x0, x1, x2, x3, x4, x5, xl⟩ := hR4
        have hne1 : D ≠ w.heap.size + 1 := by have := HNE.out.2.2.2.2.2.2.1; have := HKs.out; omega
        have hne2 : w.heap.size + 1 ≠ D := hne1.symm
        have HN1 := Lib.hid hne1
        have HN2 := Lib.hid hne2
        go_wp2
        have q5 := (HD4.out.s (.int .i64 S0)).2.2.2.1
        have t5 := HR4.out.off hne1 (o := 3) (.int .i64 S0)
        have t6 := t5.set (.slice AC k cC) (.slice (some ⟨gl, 0, none⟩) k k) (.slice (some ⟨gt, 0, none⟩) j j) (.int .i64 S0) (.int .i64 0) (.int .i64 0)
        obtain ⟨q0, q1, q2, q3, q4, q5, _⟩ := t6
        have hDg := HNE.out
        have C1 := (OC.out.far (D := D) (fun b hb => (HNV.out b hb).1) 3 (.int .i64 S0)).set6 (D := w.heap.size + 1) HKs.out (.slice AC k cC) (.slice (some ⟨gl, 0, none⟩) k k) (.slice (some ⟨gt, 0, none⟩) j j) (.int .i64 S0) (.int .i64 0) (.int .i64 0)
        have C2 := (OL.out.far (D := D) (fun b hb => by cases hb; exact hDg.2.2.2.2.1) 3 (.int .i64 S0)).set6 (D := w.heap.size + 1) HKs.out (.slice AC k cC) (.slice (some ⟨gl, 0, none⟩) k k) (.slice (some ⟨gt, 0, none⟩) j j) (.int .i64 S0) (.int .i64 0) (.int .i64 0)
        have C3 := (OT.out.far (D := D) (fun b hb => by cases hb; exact hDg.2.2.2.2.2.1) 3 (.int .i64 S0)).set6 (D := w.heap.size + 1) HKs.out (.slice AC k cC) (.slice (some ⟨gl, 0, none⟩) k k) (.slice (some ⟨gt, 0, none⟩) j j) (.int .i64 S0) (.int .i64 0) (.int .i64 0)
        have hB5 : Below w.heap.size w (v4.setCell ⟨D, 3, none⟩ (.int .i64 S0)) := (Below.call HB2.out OB.out).setCell (by show w.heap.size ≤ D; have := hDg.2.2.2.2.2.2.1; have := HKs.out; omega) _
        have hB6 := below_set6 (D := w.heap.size + 1) hB5 (by omega) (.slice AC k cC) (.slice (some ⟨gl, 0, none⟩) k k) (.slice (some ⟨gt, 0, none⟩) j j) (.int .i64 S0) (.int .i64 0) (.int .i64 0)
        have I1 := C1.isL (by rw [HWL.out]; omega)
        have I2 := C2.isL (by rw [List.length_replicate]; omega)
        have I3 := C3.isL (by rw [List.length_replicate]; omega)
        refine bodyPost_ret (v := .tuple #[.agg #[.slice AC k cC, .slice (some ⟨gl, 0, none⟩) k k, .slice (some ⟨gt, 0, none⟩) j j, .int .i64 S0, .int .i64 0, .int .i64 0], .int .i64 0]) ?_ rfl ?_
        ·simp [results, Tryz.results12, go_sem, q0, q1, q2, q3, q4, q5]
        ·refine ⟨⟨AC, cC, cl, some ⟨gl, 0, none⟩, k, List.replicate k lo8, some ⟨gt, 0, none⟩, j, List.replicate j (1, 0), S0, 0, 0⟩, ?_, ?_, ?_, hB6⟩
         ·dsimp only [Stk.v]
          rw [HWL.out, List.length_replicate, List.length_replicate]
         ·refine ⟨?_, ?_, ?_, fun q hq => by rw [(List.mem_replicate.1 hq).2]; exact Lk.IsL.nil _ _ _ _, ⟨HFS.out, (show fits 0 by decide), (show fits 0 by decide)⟩⟩
          ·show KE.IsL _ _ (.slice AC cl.length cC) cl
           rw [HWL.out]
           exact I1
          ·show KL.IsL _ _ (.slice _ (List.replicate k lo8).length _) _
           rw [List.length_replicate]
           exact I2
          ·show KT.IsL _ _ (.slice _ (List.replicate j ((1 : Int), (0 : Int))).length _) _
           rw [List.length_replicate]
           exact I3
         ·rw [HNEW.out]
          simp [Stk.ab, Lo.ab, lo8]
end Go.Proofs.YtacjonncakhhmaaGreat

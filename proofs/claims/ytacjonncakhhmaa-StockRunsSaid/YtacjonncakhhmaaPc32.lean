/- Stocks: what a right stock is, and that the first one is. -/
import Derived.Test.YtacjonncakhhmaaPc31
namespace Go.Proofs.Ytacjonncakhhmaa
open Go.RowKit
set_option maxRecDepth 100000 in
set_option maxHeartbeats 4000000 in
theorem drop1_any (d : Dk) (t : Stk) (b' : Int) (V : World) (B D pb : Nat) (hrg : rgS d t.ab = true) (hM : Mine V B D t) (hT : Tl V D d b') (hpb : V.cell? ⟨pb, 0, none⟩ = some (.int .i64 b')) :
  Calls Try.prog 112 #[.pointer (some ⟨D, 0, none⟩), .pointer (some ⟨pb, 0, none⟩)] V fun e V' => e = .returned (.int .i64 (drE t.ab b')) ∧
   (drE t.ab b' = 0 → ∃ t' : Stk, Mine V' B D t' ∧ t'.ab = drA t.ab b' ∧ t'.cl.length ≤ 100000 ∧ t'.ll.length ≤ 100000 ∧ t'.tl.length ≤ 100000) ∧ Below D V V' := by
 have hlens := rg_lens d t hrg
 have HDL := Lib.hid (show D < V.heap.size from hT.2.2.2.2.2)
 have HL := Lib.hid (And.intro hlens.1 (And.intro hlens.2.1 hlens.2.2.1))
 have HM := Lib.hid hM
 have HT := Lib.hid hT
 have HE := Lib.hid (show drE t.ab b' = (if (hdF t.ab b').2 = true then Tp.dpE (t.tl.getD (hdF t.ab b').1.toNat (0, 0)).1 (t.tl.getD (hdF t.ab b').1.toNat (0, 0)).2 b' else 131) from rfl)
 have HA := Lib.hid (show drA t.ab b' = { t.ab with t := t.tl.set (hdF t.ab b').1.toNat (Tp.dpV (t.tl.getD (hdF t.ab b').1.toNat (0, 0)).1 (t.tl.getD (hdF t.ab b').1.toNat (0, 0)).2 b') } from rfl)
 have HAT := Lib.hid (hdF_at t.ab b')
 generalize drE t.ab b' = E at *
 have HHF := Lib.hid (show Tp.fstV (Tp.hdP t.tl b' 0) t.tl.length = hdF t.ab b' from rfl)
 obtain ⟨⟨f1, f2⟩, hf⟩ : ∃ x, hdF t.ab b' = x := ⟨_, rfl⟩
 rw [hf] at HE HHF HA HAT
 dsimp only at HE HA HAT
 have HPB := Lib.hid hpb
 clear hrg hM hT hpb hlens hf
 go_enter Try.func112, Try.ntmps112
 go_upto_region 1 with fail
 obtain ⟨e1, e2⟩ : V.drew.cell? ⟨D, 2, none⟩ = some (.slice t.tA t.tl.length t.tc) ∧ V.drew.cell? ⟨pb, 0, none⟩ = some (.int .i64 b') := ⟨HM.out.at'.2.2.1, HPB.out⟩
 refine wp_region_held_drew (S := fun w' => w'.cell? ⟨D, 2, none⟩ = some (.slice t.tA t.tl.length t.tc) ∧ w'.cell? ⟨pb, 0, none⟩ = some (.int .i64 b')) (by kernel_rfl) ?_ (fun hHeld => ?_)
 ·exact ⟨e1, e2⟩
 clear e1 e2
 have bw := (Below.refl V.heap.size V).drew
 have M2 := Lib.hid (HM.out.below bw)
 have T2 := Lib.hid (HT.out.below bw)
 have HB2 := Lib.hid (Below.drew (Below.refl D V))
 clear bw
 generalize V.drew = w2 at *
 refine wpAnyH_take (i := 0) (oi := ⟨some 7, _, _, _, _, _⟩) (v := ?_) rfl (by kernel_rfl) (by kernel_rfl) (by kernel_rfl) (fun _ _ _ h => h) (Or.inl ⟨by kernel_rfl, ?_⟩) (by assumption) ?_
 rotate_left 1
 ·((intro w hSw; (try dsimp only at hSw); go_simp) <;> (try with_reducible rfl))
 (try simp only [Act.put, List.setIfInBounds_toArray, List.set_cons_zero, List.set_cons_succ])
 refine wpAnyH_take (i := 1) (oi := ⟨some 8, _, _, _, _, _⟩) (v := ?_) rfl (by kernel_rfl) (by kernel_rfl) (by kernel_rfl) (fun _ _ _ h => h) (Or.inl ⟨by kernel_rfl, ?_⟩) (by assumption) ?_
 rotate_left 1
 ·((intro w hSw; (try dsimp only at hSw); go_simp) <;> (try with_reducible rfl))
 (try simp only [Act.put, List.setIfInBounds_toArray, List.set_cons_zero, List.set_cons_succ])
 refine wpAnyH_take (i := 2) (oi := ⟨some 9, _, _, _, _, _⟩) (v := ?_) rfl (by kernel_rfl) (by kernel_rfl) (by kernel_rfl) (fun _ _ _ h => h) (Or.inl ⟨by kernel_rfl, ?_⟩) (by assumption) ?_
 rotate_left 1
 ·((intro w hSw; (try dsimp only at hSw); go_simp) <;> (try with_reducible rfl))
 (try simp only [Act.put, List.setIfInBounds_toArray, List.set_cons_zero, List.set_cons_succ])
 refine wpAnyH_take (i := 3) (oi := ⟨some 10, _, _, _, _, _⟩) (v := ?_) rfl (by kernel_rfl) (by kernel_rfl) (by kernel_rfl) (fun _ _ _ h => h) (Or.inl ⟨by kernel_rfl, ?_⟩) (by assumption) ?_
 rotate_left 1
 ·((intro w hSw; (try dsimp only at hSw); go_simp) <;> (try with_reducible rfl))
 (try simp only [Act.put, List.setIfInBounds_toArray, List.set_cons_zero, List.set_cons_succ])
 refine wpAnyH_take (i := 4) (oi := ⟨some 11, _, _, _, _, _⟩) (v := ?_) rfl (by kernel_rfl) (by kernel_rfl) (by kernel_rfl) (fun _ _ _ h => h) (Or.inl ⟨by kernel_rfl, ?_⟩) (by assumption) ?_
 rotate_left 1
 ·((intro w hSw; (try dsimp only at hSw); go_simp) <;> (try with_reducible rfl))
 (try simp only [Act.put, List.setIfInBounds_toArray, List.set_cons_zero, List.set_cons_succ])
 refine wpAnyH_take (i := 5) (oi := ⟨some 12, _, _, _, _, _⟩) (v := ?_) rfl (by kernel_rfl) (by kernel_rfl) (by kernel_rfl) (fun _ _ _ h => h) (Or.inl ⟨by kernel_rfl, ?_⟩) (by assumption) ?_
 rotate_left 1
 ·((intro w hSw; (try dsimp only at hSw); go_simp) <;> (try with_reducible rfl))
 (try simp only [Act.put, List.setIfInBounds_toArray, List.set_cons_zero, List.set_cons_succ])
 refine wpAnyH_take (i := 6) (oi := ⟨some 13, _, _, _, _, _⟩) (v := ?_) rfl (by kernel_rfl) (by kernel_rfl) (by kernel_rfl) (fun _ _ _ h => h) (Or.inl ⟨by kernel_rfl, ?_⟩) (by assumption) ?_
 rotate_left 1
 ·((intro w hSw; (try dsimp only at hSw); go_simp) <;> (try with_reducible rfl))
 (try simp only [Act.put, List.setIfInBounds_toArray, List.set_cons_zero, List.set_cons_succ])
 refine wpAnyH_ready (rs := [7]) (by kernel_rfl) (by simp) ?_
 refine AllReadyH.cons (o := ⟨some 14, _, _, _, _, _⟩) rfl (fun K hK => ?_) AllReadyH.nil
 go_simp
 refine (Tp.held_any (.slice t.tA t.tl.length t.tc) t.tl b' w2 (M2.out.inn (by have := HL.out; omega) (by have := HL.out; omega) (by have := HL.out; omega)).t).mono ?_
 rintro e w3 ⟨rfl, hb⟩
 rw [HHF.out]
 have M3 := Lib.hid (M2.out.below hb)
 have T3 := Lib.hid (T2.out.below hb)
 have HB3 := Lib.hid (HB2.out.trans (hb.mono (by have := T2.out.2.2.2.2.2; omega)))
 obtain ⟨h1, h2⟩ := hHeld
 have hH := And.intro (keep_cell hb h1) (keep_cell hb h2)
 clear h1 h2 hb M2 T2 HB2
 go_wp2_with fail
 refine hK.out _ _ hH (fun hHeld => ?_)
 clear hK K
 clear hH
 (try simp only [Act.put, List.setIfInBounds_toArray, List.set_cons_zero, List.set_cons_succ])
 refine wpAnyH_take (i := 8) (oi := ⟨some 6, _, _, _, _, _⟩) (v := ?_) rfl (by kernel_rfl) (by kernel_rfl) (by kernel_rfl) (fun _ _ _ h => h) (Or.inl ⟨by kernel_rfl, ?_⟩) (by assumption) ?_
 rotate_left 1
 ·((intro w hSw; (try dsimp only at hSw); go_simp) <;> (try with_reducible rfl))
 (try simp only [Act.put, List.setIfInBounds_toArray, List.set_cons_zero, List.set_cons_succ])
 refine wpAnyH_take (i := 9) (oi := ⟨some 15, _, _, _, _, _⟩) (v := ?_) rfl (by kernel_rfl) (by kernel_rfl) (by kernel_rfl) (fun _ _ _ h => h) (Or.inl ⟨by kernel_rfl, ?_⟩) (by assumption) ?_
 rotate_left 1
 ·((intro w hSw; (try dsimp only at hSw); go_simp) <;> (try with_reducible rfl))
 (try simp only [Act.put, List.setIfInBounds_toArray, List.set_cons_zero, List.set_cons_succ])
 refine wpAnyH_take (i := 10) (oi := ⟨some 16, _, _, _, _, _⟩) (v := ?_) rfl (by kernel_rfl) (by kernel_rfl) (by kernel_rfl) (fun _ _ _ h => h) (Or.inl ⟨by kernel_rfl, ?_⟩) (by assumption) ?_
 rotate_left 1
 ·((intro w hSw; (try dsimp only at hSw); go_simp) <;> (try with_reducible rfl))
 (try simp only [Act.put, List.setIfInBounds_toArray, List.set_cons_zero, List.set_cons_succ])
 refine wpAnyH_take (i := 11) (oi := ⟨some 4, _, _, _, _, _⟩) (v := ?_) rfl (by kernel_rfl) (by kernel_rfl) (by kernel_rfl) (fun _ _ _ h => h) (Or.inl ⟨by kernel_rfl, ?_⟩) (by assumption) ?_
 rotate_left 1
 ·((intro w hSw; (try dsimp only at hSw); go_simp) <;> (try with_reducible rfl))
 (try simp only [Act.put, List.setIfInBounds_toArray, List.set_cons_zero, List.set_cons_succ])
 refine wpAnyH_take (i := 12) (oi := ⟨some 5, _, _, _, _, _⟩) (v := ?_) rfl (by kernel_rfl) (by kernel_rfl) (by kernel_rfl) (fun _ _ _ h => h) (Or.inl ⟨by kernel_rfl, ?_⟩) (by assumption) ?_
 rotate_left 1
 ·((intro w hSw; (try dsimp only at hSw); go_simp) <;> (try with_reducible rfl))
 (try simp only [Act.put, List.setIfInBounds_toArray, List.set_cons_zero, List.set_cons_succ])
 refine wpAnyH_done (by kernel_rfl) ?_ _
 clear hHeld
 cases f2
 case false =>
  have hEE : E = 131 := by rw [HE.out]; rfl
  subst hEE
  go_wp2
  refine bodyPost_ret (v := .int .i64 131) ?_ rfl (by first | exact ⟨rfl, HB3.out⟩ | exact ⟨rfl, fun h => absurd h (by decide), HB3.out⟩)
  simp [results, Try.results112, go_sem]
 obtain ⟨k, hk, hkl⟩ := HAT.out rfl
 subst hk
 have e2 : (k : Int).toNat = k := by omega
 rw [e2] at HE HA
 have HKL := Lib.hid (show k < t.tl.length from hkl)
 have hEE : Tp.dpE (t.tl.getD k (0, 0)).1 (t.tl.getD k (0, 0)).2 b' = E := by rw [HE.out]; rfl
 have HH := Lib.hid (handle_any t d b' w3 B D k 113 (Tp.dpV (t.tl.getD k (0, 0)).1 (t.tl.getD k (0, 0)).2 b') (Tp.dpE (t.tl.getD k (0, 0)).1 (t.tl.getD k (0, 0)).2 b') M3.out T3.out HKL.out (dpV_fit _ _ _) (by have := HL.out; omega) (enters_of Try.func113 (by kernel_rfl) rfl) (fun W => Tp.drop_any _ _ b' W))
 rw [hEE] at HH
 clear e2 hEE hkl
 go_wp2_with fail
 --CUT3
 refine HH.out.mono ?_
 rintro e w5 ⟨rfl, hM5, hT5, hb5⟩
 have M7 := Lib.hid hM5
 have HB7 := Lib.hid (HB3.out.trans hb5)
 clear hM5 hT5 hb5
 go_wp2
 refine bodyPost_ret (v := .int .i64 E) ?_ rfl ⟨rfl, fun _ => ⟨_, M7.out, ?_, by show t.cl.length ≤ _; have := HL.out; omega, by show t.ll.length ≤ _; have := HL.out; omega, by show (t.tl.set _ _).length ≤ _; rw [List.length_set]; have := HL.out; omega⟩, HB7.out⟩
 ·simp [results, Try.results112, go_sem]
 ·rw [HA.out]
  rfl
end Go.Proofs.Ytacjonncakhhmaa
namespace Go.Proofs.Ytacjonncakhhmaa
open Go.RowKit
set_option maxRecDepth 100000 in
set_option maxHeartbeats 4000000 in
theorem drop_any (d : Dk) (s : Stk) (b' : Int) (w : World) (hd : d.In w w.heap.size) (hs : s.In w w.heap.size) :
  Calls Try.prog 66 #[d.v, s.v, .int .i64 b'] w fun e w' => ∃ t : Stk, e = .returned (.tuple #[t.v, .int .i64 (cgE d s.ab b' (drE s.ab b'))]) ∧ t.In w' w'.heap.size ∧ t.ab = (if cgE d s.ab b' (drE s.ab b') = 0 then drA s.ab b' else ab0) ∧ Below w.heap.size w w' := by
 obtain ⟨w0, hw0⟩ : ∃ w0, w0 = ((((w.alloc (.cells #[.slice d.bA d.bn d.bc, .slice d.pA d.pn d.pc, .slice d.rA d.rn d.rc, .int .i64 d.arms] 26)).alloc (.cells #[.slice s.cA s.cl.length s.cc, .slice s.lA s.ll.length s.lc, .slice s.tA s.tl.length s.tc, .int .i64 s.st, .int .i64 s.inn, .int .i64 s.out] 33)).alloc (.cells #[.int .i64 b'] 3)).alloc (.cells #[.slice none 0 0, .slice none 0 0, .slice none 0 0, .int .i64 0, .int .i64 0, .int .i64 0] 33)) := ⟨_, rfl⟩
 have HB0 := Lib.hid (show Below w.heap.size w w0 by rw [hw0]; exact Below.al (Below.al (Below.al (Below.al (Below.refl _ _) _) _) _) _)
 have HD0 := Lib.hid (hd.then HB0.out)
 have HS0 := Lib.hid (hs.then HB0.out)
 have HK0 := Lib.hid (show DkAt w0 w.heap.size d by rw [hw0]; exact (((Cells4.new w _ _ _ _ _).below (Below.al (Below.refl _ _) _)).below (Below.al (Below.refl _ _) _)).below (Below.al (Below.refl _ _) _))
 have HT0 := Lib.hid (show SkAt w0 (w.heap.size + 1) s by
  have e : (w.alloc (.cells #[.slice d.bA d.bn d.bc, .slice d.pA d.pn d.pc, .slice d.rA d.rn d.rc, .int .i64 d.arms] 26)).heap.size = w.heap.size + 1 := by simp
  rw [hw0, ← e]
  exact ((Cells6.new (w.alloc (.cells #[.slice d.bA d.bn d.bc, .slice d.pA d.pn d.pc, .slice d.rA d.rn d.rc, .int .i64 d.arms] 26)) 33 _ _ _ _ _ _).below (Below.al (Below.refl _ _) _)).below (Below.al (Below.refl _ _) _))
 have HI0 := Lib.hid (show w0.cell? ⟨w.heap.size + 2, 0, none⟩ = some (.int .i64 b') ∧ w0.heap.size = w.heap.size + 4 by
  rw [hw0]
  refine ⟨?_, by simp⟩
  ·have h : ((w.alloc (.cells #[.slice d.bA d.bn d.bc, .slice d.pA d.pn d.pc, .slice d.rA d.rn d.rc, .int .i64 d.arms] 26)).alloc (.cells #[.slice s.cA s.cl.length s.cc, .slice s.lA s.ll.length s.lc, .slice s.tA s.tl.length s.tc, .int .i64 s.st, .int .i64 s.inn, .int .i64 s.out] 33)).heap.size = w.heap.size + 2 := by simp
   refine keep_cell (Below.al (Below.refl _ _) _) (?_)
   rw [← h, alloc_at]
   rfl)
 have HR0 := Lib.hid (show Cells6 w0 (w.heap.size + 3) (.slice none 0 0) (.slice none 0 0) (.slice none 0 0) (.int .i64 0) (.int .i64 0) (.int .i64 0) by
  have h := Cells6.new (((w.alloc (.cells #[.slice d.bA d.bn d.bc, .slice d.pA d.pn d.pc, .slice d.rA d.rn d.rc, .int .i64 d.arms] 26)).alloc (.cells #[.slice s.cA s.cl.length s.cc, .slice s.lA s.ll.length s.lc, .slice s.tA s.tl.length s.tc, .int .i64 s.st, .int .i64 s.inn, .int .i64 s.out] 33)).alloc (.cells #[.int .i64 b'] 3)) 33 (.slice none 0 0) (.slice none 0 0) (.slice none 0 0) (.int .i64 0) (.int .i64 0) (.int .i64 0)
  rw [← hw0, show (((w.alloc (.cells #[.slice d.bA d.bn d.bc, .slice d.pA d.pn d.pc, .slice d.rA d.rn d.rc, .int .i64 d.arms] 26)).alloc (.cells #[.slice s.cA s.cl.length s.cc, .slice s.lA s.ll.length s.lc, .slice s.tA s.tl.length s.tc, .int .i64 s.st, .int .i64 s.inn, .int .i64 s.out] 33)).alloc (.cells #[.int .i64 b'] 3)).heap.size = w.heap.size + 3 by simp] at h
  exact h)
 have HC := Lib.hid (change_any d s b' 112 #[.pointer (some ⟨w.heap.size + 2, 0, none⟩)] (drE s.ab b') (drA s.ab b') w0 HD0.out HS0.out (enters_of Try.func112 (by kernel_rfl) rfl) (fun hrg hb1' hb2' V B D t hM hab hT hD hb hle => by
  have hI := HI0.out
  have hsz : w0.heap.size = w.heap.size + 4 := hI.2
  have hfb : fits b' := by have h := hd.a; unfold fits at h ⊢; omega
  have e1 : s.ab = t.ab := hab.symm
  rw [e1]
  rw [e1] at hrg
  exact drop1_any d t b' V B D _ hrg hM hT (keep_cell hb hI.1)))
 generalize drE s.ab b' = dE at *
 generalize drA s.ab b' = dA at *
 generalize cgE d s.ab b' dE = E at *
 generalize (if E = 0 then dA else ab0) = dR at *
 have hmf : ∀ (fn : Fn) (first cap : Array Value) (w : World), (Instr.makeFunc fn first cap).run Try.prog w = .ok (.func fn first cap) w := fun _ _ _ _ => rfl
 obtain ⟨t0, t1, t2, t3, t4, t5, _⟩ := HT0.out
 obtain ⟨d0, d1, d2, d3, _⟩ := HK0.out
 obtain ⟨i0, _⟩ := HI0.out
 clear hd hs
 go_enter Try.func66, Try.ntmps66
 --CUT1
 go_wp2_with fail
 rw [← hw0]
 --CUT2
 clear hw0
 refine HC.out.mono ?_
 rintro e w1 ⟨t, rfl, ht, hab, hfar, hb1⟩
 have hR1 := HR0.out.below hb1
 obtain ⟨r0, r1, r2, r3, r4, r5, y0, y1, y2, y3, y4, y5, _⟩ := hR1
 have HR1 := Lib.hid (HR0.out.below hb1)
 have HB1 := Lib.hid (Below.call HB0.out hb1)
 have HTT := Lib.hid (And.intro ht (And.intro hab hfar))
 clear ht hab hfar hb1 t0 t1 t2 t3 t4 t5 d0 d1 d2 d3 hmf i0
 go_wp2
 --CUT3
 have hset := HR1.out.set (.slice t.cA t.cl.length t.cc) (.slice t.lA t.ll.length t.lc) (.slice t.tA t.tl.length t.tc) (.int .i64 t.st) (.int .i64 t.inn) (.int .i64 t.out)
 obtain ⟨q0, q1, q2, q3, q4, q5, _⟩ := hset
 have hsz : w0.heap.size = w.heap.size + 4 := HI0.out.2
 refine bodyPost_ret (v := .tuple #[t.v, .int .i64 E]) ?_ rfl ?_
 ·simp [results, Try.results66, go_sem, q0, q1, q2, q3, q4, q5]
 ·refine ⟨t, rfl, ?_, HTT.out.2.1, below_set6 HB1.out (by omega) _ _ _ _ _ _⟩
  have := HTT.out.1.set6 HTT.out.2.2 (D := w.heap.size + 3) (by omega) (.slice t.cA t.cl.length t.cc) (.slice t.lA t.ll.length t.lc) (.slice t.tA t.tl.length t.tc) (.int .i64 t.st) (.int .i64 t.inn) (.int .i64 t.out)
  simpa using this
--CUTW
set_option maxRecDepth 100000 in
set_option maxHeartbeats 4000000 in
theorem take_any (d : Dk) (s : Stk) (b' id : Int) (w : World) (hd : d.In w w.heap.size) (hs : s.In w w.heap.size) (hid : fits id) :
  Calls Try.prog 44 #[d.v, s.v, .int .i64 b', .int .i64 id] w fun e w' => ∃ t : Stk, e = .returned (.tuple #[t.v, .int .i64 (cgE d s.ab b' (taE d s.ab b' id))]) ∧ t.In w' w'.heap.size ∧ t.ab = (if cgE d s.ab b' (taE d s.ab b' id) = 0 then taA s.ab b' id else ab0) ∧ Below w.heap.size w w' := by
 obtain ⟨w0, hw0⟩ : ∃ w0, w0 = (((((w.alloc (.cells #[.slice d.bA d.bn d.bc, .slice d.pA d.pn d.pc, .slice d.rA d.rn d.rc, .int .i64 d.arms] 26)).alloc (.cells #[.slice s.cA s.cl.length s.cc, .slice s.lA s.ll.length s.lc, .slice s.tA s.tl.length s.tc, .int .i64 s.st, .int .i64 s.inn, .int .i64 s.out] 33)).alloc (.cells #[.int .i64 b'] 3)).alloc (.cells #[.int .i64 id] 3)).alloc (.cells #[.slice none 0 0, .slice none 0 0, .slice none 0 0, .int .i64 0, .int .i64 0, .int .i64 0] 33)) := ⟨_, rfl⟩
 have HB0 := Lib.hid (show Below w.heap.size w w0 by rw [hw0]; exact Below.al (Below.al (Below.al (Below.al (Below.al (Below.refl _ _) _) _) _) _) _)
 have HD0 := Lib.hid (hd.then HB0.out)
 have HS0 := Lib.hid (hs.then HB0.out)
 have HK0 := Lib.hid (show DkAt w0 w.heap.size d by rw [hw0]; exact ((((Cells4.new w _ _ _ _ _).below (Below.al (Below.refl _ _) _)).below (Below.al (Below.refl _ _) _)).below (Below.al (Below.refl _ _) _)).below (Below.al (Below.refl _ _) _))
 have HT0 := Lib.hid (show SkAt w0 (w.heap.size + 1) s by
  have e : (w.alloc (.cells #[.slice d.bA d.bn d.bc, .slice d.pA d.pn d.pc, .slice d.rA d.rn d.rc, .int .i64 d.arms] 26)).heap.size = w.heap.size + 1 := by simp
  rw [hw0, ← e]
  exact (((Cells6.new (w.alloc (.cells #[.slice d.bA d.bn d.bc, .slice d.pA d.pn d.pc, .slice d.rA d.rn d.rc, .int .i64 d.arms] 26)) 33 _ _ _ _ _ _).below (Below.al (Below.refl _ _) _)).below (Below.al (Below.refl _ _) _)).below (Below.al (Below.refl _ _) _))
 have HI0 := Lib.hid (show w0.cell? ⟨w.heap.size + 2, 0, none⟩ = some (.int .i64 b') ∧ w0.cell? ⟨w.heap.size + 3, 0, none⟩ = some (.int .i64 id) ∧ w0.heap.size = w.heap.size + 5 by
  rw [hw0]
  refine ⟨?_, ?_, by simp⟩
  ·have h : ((w.alloc (.cells #[.slice d.bA d.bn d.bc, .slice d.pA d.pn d.pc, .slice d.rA d.rn d.rc, .int .i64 d.arms] 26)).alloc (.cells #[.slice s.cA s.cl.length s.cc, .slice s.lA s.ll.length s.lc, .slice s.tA s.tl.length s.tc, .int .i64 s.st, .int .i64 s.inn, .int .i64 s.out] 33)).heap.size = w.heap.size + 2 := by simp
   refine keep_cell (Below.al (Below.refl _ _) _) (keep_cell (Below.al (Below.refl _ _) _) (?_))
   rw [← h, alloc_at]
   rfl
  ·have h : (((w.alloc (.cells #[.slice d.bA d.bn d.bc, .slice d.pA d.pn d.pc, .slice d.rA d.rn d.rc, .int .i64 d.arms] 26)).alloc (.cells #[.slice s.cA s.cl.length s.cc, .slice s.lA s.ll.length s.lc, .slice s.tA s.tl.length s.tc, .int .i64 s.st, .int .i64 s.inn, .int .i64 s.out] 33)).alloc (.cells #[.int .i64 b'] 3)).heap.size = w.heap.size + 3 := by simp
   refine keep_cell (Below.al (Below.refl _ _) _) (?_)
   rw [← h, alloc_at]
   rfl)
 have HR0 := Lib.hid (show Cells6 w0 (w.heap.size + 4) (.slice none 0 0) (.slice none 0 0) (.slice none 0 0) (.int .i64 0) (.int .i64 0) (.int .i64 0) by
  have h := Cells6.new ((((w.alloc (.cells #[.slice d.bA d.bn d.bc, .slice d.pA d.pn d.pc, .slice d.rA d.rn d.rc, .int .i64 d.arms] 26)).alloc (.cells #[.slice s.cA s.cl.length s.cc, .slice s.lA s.ll.length s.lc, .slice s.tA s.tl.length s.tc, .int .i64 s.st, .int .i64 s.inn, .int .i64 s.out] 33)).alloc (.cells #[.int .i64 b'] 3)).alloc (.cells #[.int .i64 id] 3)) 33 (.slice none 0 0) (.slice none 0 0) (.slice none 0 0) (.int .i64 0) (.int .i64 0) (.int .i64 0)
  rw [← hw0, show ((((w.alloc (.cells #[.slice d.bA d.bn d.bc, .slice d.pA d.pn d.pc, .slice d.rA d.rn d.rc, .int .i64 d.arms] 26)).alloc (.cells #[.slice s.cA s.cl.length s.cc, .slice s.lA s.ll.length s.lc, .slice s.tA s.tl.length s.tc, .int .i64 s.st, .int .i64 s.inn, .int .i64 s.out] 33)).alloc (.cells #[.int .i64 b'] 3)).alloc (.cells #[.int .i64 id] 3)).heap.size = w.heap.size + 4 by simp] at h
  exact h)
 have HC := Lib.hid (change_any d s b' 83 #[.pointer (some ⟨w.heap.size, 0, none⟩), .pointer (some ⟨w.heap.size + 3, 0, none⟩), .pointer (some ⟨w.heap.size + 2, 0, none⟩)] (taE d s.ab b' id) (taA s.ab b' id) w0 HD0.out HS0.out (enters_of Try.func83 (by kernel_rfl) rfl) (fun hrg hb1' hb2' V B D t hM hab hT hD hb hle => by
  have hI := HI0.out
  have hsz : w0.heap.size = w.heap.size + 5 := hI.2.2
  have hfb : fits b' := by have h := hd.a; unfold fits at h ⊢; omega
  have e1 : s.ab = t.ab := hab.symm
  rw [e1]
  rw [e1] at hrg
  exact take1_any d t b' V B D _ _ _ id hrg hM hT hD hid hfb (HK0.out.below hb) (keep_cell hb hI.2.1) (keep_cell hb hI.1) (by omega)))
 generalize taE d s.ab b' id = dE at *
 generalize taA s.ab b' id = dA at *
 generalize cgE d s.ab b' dE = E at *
 generalize (if E = 0 then dA else ab0) = dR at *
 have hmf : ∀ (fn : Fn) (first cap : Array Value) (w : World), (Instr.makeFunc fn first cap).run Try.prog w = .ok (.func fn first cap) w := fun _ _ _ _ => rfl
 obtain ⟨t0, t1, t2, t3, t4, t5, _⟩ := HT0.out
 obtain ⟨d0, d1, d2, d3, _⟩ := HK0.out
 obtain ⟨i0, i1, _⟩ := HI0.out
 clear hd hs
 go_enter Try.func44, Try.ntmps44
 --CUT1
 go_wp2_with fail
 rw [← hw0]
 --CUT2
 clear hw0
 refine HC.out.mono ?_
 rintro e w1 ⟨t, rfl, ht, hab, hfar, hb1⟩
 have hR1 := HR0.out.below hb1
 obtain ⟨r0, r1, r2, r3, r4, r5, y0, y1, y2, y3, y4, y5, _⟩ := hR1
 have HR1 := Lib.hid (HR0.out.below hb1)
 have HB1 := Lib.hid (Below.call HB0.out hb1)
 have HTT := Lib.hid (And.intro ht (And.intro hab hfar))
 clear ht hab hfar hb1 t0 t1 t2 t3 t4 t5 d0 d1 d2 d3 hmf i0 i1
 go_wp2
 --CUT3
 have hset := HR1.out.set (.slice t.cA t.cl.length t.cc) (.slice t.lA t.ll.length t.lc) (.slice t.tA t.tl.length t.tc) (.int .i64 t.st) (.int .i64 t.inn) (.int .i64 t.out)
 obtain ⟨q0, q1, q2, q3, q4, q5, _⟩ := hset
 have hsz : w0.heap.size = w.heap.size + 5 := HI0.out.2.2
 refine bodyPost_ret (v := .tuple #[t.v, .int .i64 E]) ?_ rfl ?_
 ·simp [results, Try.results44, go_sem, q0, q1, q2, q3, q4, q5]
 ·refine ⟨t, rfl, ?_, HTT.out.2.1, below_set6 HB1.out (by omega) _ _ _ _ _ _⟩
  have := HTT.out.1.set6 HTT.out.2.2 (D := w.heap.size + 4) (by omega) (.slice t.cA t.cl.length t.cc) (.slice t.lA t.ll.length t.lc) (.slice t.tA t.tl.length t.tc) (.int .i64 t.st) (.int .i64 t.inn) (.int .i64 t.out)
  simpa using this
end Go.Proofs.Ytacjonncakhhmaa
namespace Go.Proofs.Ytacjonncakhhmaa
open Go.RowKit
theorem gset_eq {α : Type} (l : List α) (k : Nat) (q z : α) (h : k < l.length) : (l.set k q).getD k z = q := by rw [List.getD_eq_getElem?_getD, List.getElem?_set_self h]; rfl
theorem gset_ne {α : Type} (l : List α) (k j : Nat) (q z : α) (h : k ≠ j) : (l.set k q).getD j z = l.getD j z := by rw [List.getD_eq_getElem?_getD, List.getElem?_set_ne h, List.getD_eq_getElem?_getD]
/-- A stock behind a change of a well, that is noted. -/
def ptAb (a : Ab) (b' : Int) (k : Nat) (c : Cel.Ce) : Ab := { a with c := a.c.set k c, l := a.l.set k (ptA a k c b') }
theorem okW_parts {a f : Ab} {i : Nat} (h : okW a f i = true) : (a.c.getD i ce0).Right ∧ (a.c.getD i ce0).a = (f.c.getD i ce0).a ∧ Lg.rgB (a.l.getD i (0, 0, [])).1 (a.l.getD i (0, 0, [])).2.1 (a.l.getD i (0, 0, [])).2.2 = true ∧ (a.l.getD i (0, 0, [])).1 = (f.l.getD i (0, 0, [])).1 ∧ (a.l.getD i (0, 0, [])).2.1 = (a.c.getD i ce0).c := by
 unfold okW at h
 rw [Bool.and_eq_true, Bool.and_eq_true, Bool.and_eq_true, Bool.and_eq_true, decide_eq_true_eq, decide_eq_true_eq, decide_eq_true_eq, decide_eq_true_eq] at h
 exact ⟨h.1.1, h.1.2, h.2.1.1, h.2.1.2, h.2.2⟩
theorem okW_mk {a f : Ab} {i : Nat} (h1 : (a.c.getD i ce0).Right) (h2 : (a.c.getD i ce0).a = (f.c.getD i ce0).a) (h3 : Lg.rgB (a.l.getD i (0, 0, [])).1 (a.l.getD i (0, 0, [])).2.1 (a.l.getD i (0, 0, [])).2.2 = true) (h4 : (a.l.getD i (0, 0, [])).1 = (f.l.getD i (0, 0, [])).1) (h5 : (a.l.getD i (0, 0, [])).2.1 = (a.c.getD i ce0).c) : okW a f i = true := by
 unfold okW
 rw [Bool.and_eq_true, Bool.and_eq_true, Bool.and_eq_true, Bool.and_eq_true, decide_eq_true_eq, decide_eq_true_eq, decide_eq_true_eq, decide_eq_true_eq]
 exact ⟨⟨h1, h2⟩, ⟨h3, h4⟩, h5⟩
theorem rw_parts {a f : Ab} (h : rwB a f = true) : a.c.length = f.c.length ∧ a.l.length = f.l.length ∧ ∀ i, i < a.c.length → okW a f i = true := by
 unfold rwB at h
 rw [Bool.and_eq_true, Bool.and_eq_true, decide_eq_true_eq, decide_eq_true_eq, List.all_eq_true] at h
 exact ⟨h.1.1, h.1.2, fun i hi => h.2 i (List.mem_range.2 hi)⟩
theorem rw_mk {a f : Ab} (h1 : a.c.length = f.c.length) (h2 : a.l.length = f.l.length) (h3 : ∀ i, i < a.c.length → okW a f i = true) : rwB a f = true := by
 unfold rwB
 rw [Bool.and_eq_true, Bool.and_eq_true, decide_eq_true_eq, decide_eq_true_eq, List.all_eq_true]
 exact ⟨⟨h1, h2⟩, fun i hi => h3 i (List.mem_range.1 hi)⟩
theorem rw_pt {a f : Ab} {b' : Int} {k : Nat} {c : Cel.Ce} (h : rwB a f = true) (hfl : f.c.length = f.l.length) (hk : k < a.c.length) (hc : c.Right) (ha : c.a = (a.c.getD k ce0).a) (hv : c.c = (a.c.getD k ce0).c + 1) (hx : (a.c.getD k ce0).c ≠ 2147483647) (hm : Lg.mayB b' (c.b - (a.c.getD k ce0).b) = true) : rwB (ptAb a b' k c) f = true := by
 obtain ⟨h1, h2, h3⟩ := rw_parts h
 have hkl : k < a.l.length := by omega
 obtain ⟨q1, q2, q3, q4, q5⟩ := okW_parts (h3 k hk)
 have hn : Lg.ntE (a.l.getD k (0, 0, [])).1 (a.l.getD k (0, 0, [])).2.1 (a.l.getD k (0, 0, [])).2.2 b' (c.b - (a.c.getD k ce0).b) = 0 := by
  unfold Lg.ntE
  rw [q3, hm, if_neg (by simp), if_neg (by simp), if_neg (by rw [q5]; exact hx)]
 have hr := Lg.nt_right' hn
 have e1 : (ptAb a b' k c).c = a.c.set k c := rfl
 have e2 : (ptAb a b' k c).l = a.l.set k (ptA a k c b') := rfl
 refine rw_mk (by rw [e1, List.length_set]; exact h1) (by rw [e2, List.length_set]; exact h2) (fun i hi => ?_)
 rw [e1, List.length_set] at hi
 by_cases hik : k = i
 ·subst hik
  have g1 : (ptAb a b' k c).c.getD k ce0 = c := by rw [e1]; exact gset_eq _ _ _ _ hk
  have g2 : (ptAb a b' k c).l.getD k (0, 0, []) = ptA a k c b' := by rw [e2]; exact gset_eq _ _ _ _ hkl
  refine okW_mk (by rw [g1]; exact hc) (by rw [g1, ha]; exact q2) (by rw [g2]; exact hr) ?_ ?_
  ·rw [g2, ← q4]
   show Lg.ntR _ _ _ _ _ = _
   unfold Lg.ntR
   rw [if_pos hn]
  ·rw [g2, g1, hv, ← q5]
   show Lg.ntM _ _ _ _ _ = _
   unfold Lg.ntM
   rw [if_pos hn]
 ·have g1 : (ptAb a b' k c).c.getD i ce0 = a.c.getD i ce0 := by rw [e1]; exact gset_ne _ _ _ _ _ hik
  have g2 : (ptAb a b' k c).l.getD i (0, 0, []) = a.l.getD i (0, 0, []) := by rw [e2]; exact gset_ne _ _ _ _ _ hik
  obtain ⟨p1, p2, p3, p4, p5⟩ := okW_parts (h3 i hi)
  exact okW_mk (by rw [g1]; exact p1) (by rw [g1]; exact p2) (by rw [g2]; exact p3) (by rw [g2]; exact p4) (by rw [g2, g1]; exact p5)
theorem sum_set (l : List Cel.Ce) (k : Nat) (c : Cel.Ce) (hk : k < l.length) : Two.sumL (volS (l.set k c)) = Two.sumL (volS l) + (c.b - (l.getD k ce0).b) := by
 induction l generalizing k with
 | nil => simp at hk
 | cons x l ih =>
  cases k with
  | zero =>
   have e1 : volS ((x :: l).set 0 c) = c.b :: volS l := rfl
   have e2 : volS (x :: l) = x.b :: volS l := rfl
   have e3 : (x :: l).getD 0 ce0 = x := rfl
   rw [e1, e2, e3, Two.sumL_cons, Two.sumL_cons]
   omega
  | succ k =>
   have e1 : volS ((x :: l).set (k + 1) c) = x.b :: volS (l.set k c) := rfl
   have e2 : volS (x :: l) = x.b :: volS l := rfl
   have e3 : (x :: l).getD (k + 1) ce0 = l.getD k ce0 := rfl
   rw [e1, e2, e3, Two.sumL_cons, Two.sumL_cons, ih k (by simpa using hk)]
   omega
/-- What a right stock is, in parts. -/
structure RgP (d : Dk) (a : Ab) : Prop where
 z : zchk d = 0
 w : rwB a (newA d) = true
 t : a.t.length = (newA d).t.length
 r : rtB a.t d.arms = true
 st : a.st = (newA d).st
 i : 0 ≤ a.inn ∧ a.inn ≤ 1152921504606846976
 o : 0 ≤ a.out ∧ a.out ≤ 1152921504606846976
 s : Two.sumL (volS a.c) = a.st + a.inn - a.out
theorem rw_all {a f : Ab} (h : rwB a f = true) : ∀ q ∈ a.c, q.Right := fun q hq => by
 obtain ⟨j, hj, rfl⟩ := List.getElem_of_mem hq
 have := (okW_parts ((rw_parts h).2.2 j hj)).1
 rw [List.getD_eq_getElem?_getD, List.getElem?_eq_getElem hj] at this
 exact this
theorem new_right (d : Dk) (h : zchk d = 0) : (∀ q ∈ (newA d).c, q.Right) ∧ (newA d).c.length ≤ 384 := by
 have hok := dchk_ok d (zchk_d d h)
 exact ⟨newC_right d.pl hok.pl d.pl.length (Nat.le_refl _), by have := newA_len d h; omega⟩
theorem sum_small {l : List Cel.Ce} (h : ∀ q ∈ l, q.Right) (hl : l.length ≤ 384) : 0 ≤ Two.sumL (volS l) ∧ Two.sumL (volS l) ≤ 422212465065984 := by
 have := sumL_bd l h
 omega
theorem rg_P (d : Dk) (a : Ab) (h : rgS d a = true) : RgP d a := by
 unfold rgS at h
 rw [Bool.and_eq_true, Bool.and_eq_true, Bool.and_eq_true, Bool.and_eq_true, decide_eq_true_eq, decide_eq_true_eq] at h
 obtain ⟨hz, ⟨⟨h1, h2⟩, h3⟩, h4⟩ := h
 unfold rsB flowB at h4
 rw [Bool.and_eq_true, Bool.and_eq_true, Bool.and_eq_true, decide_eq_true_eq, decide_eq_true_eq, Bool.and_eq_true, Bool.and_eq_true, decide_eq_true_eq, decide_eq_true_eq, decide_eq_true_eq, decide_eq_true_eq] at h4
 obtain ⟨⟨⟨k1, k2⟩, k3⟩, k4⟩ := h4
 have hl := newA_len d hz
 have hr := rw_len h1
 have hs := sum_small (rw_all h1) (by omega)
 have hn := sum_small (new_right d hz).1 (new_right d hz).2
 have hst : (newA d).st = Two.sumL (volS (newA d).c) := rfl
 rw [fitV, if_pos (by unfold fits; omega), ← w64, ← w64] at k4
 rw [wrap_fits (a.st + a.inn) (by unfold fits; omega)] at k4
 rw [wrap_fits _ (by unfold fits; omega)] at k4
 exact ⟨hz, h1, h2, h3, k1, k2, k3, k4⟩
theorem P_rg (d : Dk) (a : Ab) (h : RgP d a) : rgS d a = true := by
 obtain ⟨hz, h1, h2, h3, k1, k2, k3, k4⟩ := h
 have hl := newA_len d hz
 have hr := rw_len h1
 have hs := sum_small (rw_all h1) (by omega)
 have hn := sum_small (new_right d hz).1 (new_right d hz).2
 have hst : (newA d).st = Two.sumL (volS (newA d).c) := rfl
 unfold rgS rsB flowB
 rw [Bool.and_eq_true, Bool.and_eq_true, Bool.and_eq_true, Bool.and_eq_true, decide_eq_true_eq, decide_eq_true_eq, Bool.and_eq_true, Bool.and_eq_true, Bool.and_eq_true, decide_eq_true_eq, decide_eq_true_eq, Bool.and_eq_true, Bool.and_eq_true, decide_eq_true_eq, decide_eq_true_eq, decide_eq_true_eq, decide_eq_true_eq]
 refine ⟨hz, ⟨⟨h1, h2⟩, h3⟩, ⟨⟨k1, k2⟩, k3⟩, ?_⟩
 rw [fitV, if_pos (by unfold fits; omega), ← w64, ← w64]
 rw [wrap_fits (a.st + a.inn) (by unfold fits; omega)]
 rw [wrap_fits _ (by unfold fits; omega)]
 exact k4
/-- A deck's stock at first is right. -/
theorem rg_new (d : Dk) (hz : zchk d = 0) : rgS d (newA d) = true := by
 have hok := dchk_ok d (zchk_d d hz)
 have ha : 0 ≤ d.arms := by have := hok.arm; omega
 obtain ⟨l1, l2, l3, l4, l5⟩ := newA_len d hz
 refine P_rg d _ ⟨hz, ?_, rfl, ?_, rfl, (show (0 : Int) ≤ 0 ∧ (0 : Int) ≤ 1152921504606846976 by decide), (show (0 : Int) ≤ 0 ∧ (0 : Int) ≤ 1152921504606846976 by decide), ?_⟩
 ·refine rw_mk rfl rfl (fun i hi => ?_)
  have hc := (new_right d hz).1 _ (getD_mem' (newA d).c i ce0 hi)
  have hl : (newA d).l.getD i (0, 0, []) = (8, 0, []) := by
   show (List.replicate (wellN d) ((8, 0, []) : Int × Int × List Ch)).getD i (0, 0, []) = (8, 0, [])
   rw [List.getD_eq_getElem?_getD, List.getElem?_replicate, if_pos (by omega)]
   rfl
  have hcc : ((newA d).c.getD i ce0).c = 0 := by
   have : ∀ n, ∀ q ∈ newCn d.pl n, q.c = 0 := fun n q hq => by
    unfold newCn plC at hq
    rw [List.mem_flatMap] at hq
    obtain ⟨j, _, hq⟩ := hq
    rw [List.mem_map] at hq
    obtain ⟨i, _, rfl⟩ := hq
    rfl
   exact this _ _ (getD_mem' (newA d).c i ce0 hi)
  exact okW_mk hc rfl (by rw [hl]; rfl) rfl (by rw [hl, hcc])
 ·refine rt_yes (fun k hk => ?_)
  have hg : ∀ j, j < (newA d).t.length → (newA d).t.getD j (0, 0) = (1, 0) := fun j hj => by
   show (List.replicate (tipN d) ((1, 0) : Int × Int)).getD j (0, 0) = (1, 0)
   rw [List.getD_eq_getElem?_getD, List.getElem?_replicate, if_pos (by omega)]
   rfl
  have hb : hbB (newA d).t k 0 = false := by
   unfold hbB
   rw [List.any_eq_false]
   intro q hq
   have : q = (1, 0) := by
    have h1 : q ∈ List.replicate (tipN d) ((1, 0) : Int × Int) := List.mem_of_mem_take hq
    exact List.eq_of_mem_replicate h1
   rw [this]
   decide
  unfold okT
  rw [hg k hk]
  dsimp only
  rw [hb, decide_eq_true ha]
  decide
 ·show Two.sumL (volS (newA d).c) = Two.sumL (volS (newA d).c) + 0 - 0
  omega
end Go.Proofs.Ytacjonncakhhmaa

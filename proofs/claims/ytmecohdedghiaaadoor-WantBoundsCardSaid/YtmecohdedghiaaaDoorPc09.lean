/- What the cards of this seat share: the table out of a row; a request that came in; a world for the witness. -/
import Derived.Test.YtmecohdedghiaaaDoorPc08
import Derived.Test.YtmecohdedghiaaaDoorRows
import Derived.Test.YtmecohdedghiaaaDoorPc01
import Derived.ProofKit
import Derived.OpenShut
import Derived.ShutString
import Derived.ChangeMaps5
import Derived.Deep.Slices
import Derived.Lib.SmallJoins
import Derived.Carry
import Derived.ChangeSlices
import Derived.Test.YtmecohdedghiaaaDoorPc05
import Derived.OpenVars
import Derived.Test.YtmecohdedghiaaaDoorPc07
import Derived.Test.YtmecohdedghiaaaDoorCards
import Derived.Test.YtmecohdedghiaaaDoorTie
import Derived.Deep.DeepHandedRow
import Derived.Lib.LaidTab
namespace Go.Proofs.YtmecohdedghiaaaDoor
open Go.RowKit
set_option maxRecDepth 100000 in
set_option maxHeartbeats 4000000 in
theorem wantChecks_walk (d : Dk) (r : Rq) (w : World) (hd : d.In w w.heap.size) (hr : r.In w w.heap.size) (hT : Nn.Tab w) : Calls Tryd.prog 3 #[d.v, r.val] w fun e w' => e = .returned (.bool true) ∧ Below w.heap.size w w' := by
  obtain ⟨w0, hw0⟩ : ∃ w0, w0 = (w.alloc (.cells #[.slice d.bA d.bn d.bc, .slice d.pA d.pn d.pc, .slice d.rA d.rn d.rc, .int .i64 d.arms] 26)).alloc (.cells r.ob 30) := ⟨_, rfl⟩
  have HB0 := Lib.hid (show Below w.heap.size w w0 by rw [hw0]; exact Below.al (Below.al (Below.refl _ _) _) _)
  have HD0 := Lib.hid (hd.then HB0.out)
  have HR0 := Lib.hid (hr.then HB0.out)
  have HS0 := Lib.hid (show w0.heap.size = w.heap.size + 2 by rw [hw0]; simp)
  have HK0 := Lib.hid (show DkAt w0 w.heap.size d by rw [hw0]; exact (Cells4.new w _ _ _ _ _).below (Below.al (Below.refl _ _) _))
  have HQ0 := Lib.hid (show RqAt w0 (w.heap.size + 1) r by
    have h := Cells6.new (w.alloc (.cells #[.slice d.bA d.bn d.bc, .slice d.pA d.pn d.pc, .slice d.rA d.rn d.rc, .int .i64 d.arms] 26)) 30 (.int .i64 r.k) (.slice r.iA r.il.length r.ic) (.int .i64 r.a) (.int .i64 r.b) (.int .i64 r.u) (.int .u64 r.v)
    rw [World.size_alloc] at h
    rw [hw0]; exact h)
  have HT0 := Lib.hid (hT.below HB0.out)
  have HLA := Lib.hid (large15_any d r w0 HD0.out HR0.out)
  have HLV := Lib.hid (fun w h => lives15 w h)
  have HVO := Lib.hid (fun V (h : Below w0.heap.size w0 V) => volume_any r V hr.v (HT0.out.below h))
  have HRV := Lib.hid (fun V (h : Below w0.heap.size w0 V) => rvolume_any r V hr.v)
  have HCK := Lib.hid (fun V (h : Below w0.heap.size w0 V) => checkW_any d r V (HD0.out.then h) (HR0.out.then h) (HT0.out.below h))
  have HRC := Lib.hid (fun V (h : Below w0.heap.size w0 V) => rcheck15_any d r V (HD0.out.then h) (HR0.out.then h))
  generalize refV d r = V at *
  generalize voV r.v = m at *
  generalize voE r.v = n at *
  generalize large15 d r = lg at *
  clear hd hr hT
  cases lg
  case true =>
    go_enter Tryd.func3, Tryd.ntmps3
    go_wp2_with fail
    rw [← hw0]
    clear hw0
    refine HLA.out.mono ?_
    rintro e w1 ⟨rfl, hb1⟩
    have HB1 := Lib.hid hb1
    clear hb1
    go_wp2_with fail
    refine (HLV.out _ (HT0.out.below HB1.out)).mono ?_
    rintro e w2 ⟨rfl, hb2⟩
    go_wp2
    go_ret
    exact ⟨rfl, Below.call HB0.out (Below.call HB1.out hb2)⟩
  go_enter Tryd.func3, Tryd.ntmps3
  go_wp2_with fail
  rw [← hw0]
  clear hw0
  refine HLA.out.mono ?_
  rintro e w1 ⟨rfl, hb1⟩
  have HB1 := Lib.hid hb1
  obtain ⟨q0, q1, q2, q3, q4, q5, -⟩ := HQ0.out.below hb1
  obtain ⟨d0, d1, d2, d3, -⟩ := HK0.out.below hb1
  clear hb1
  go_wp2_with fail
  refine (HVO.out _ HB1.out).mono ?_
  rintro e w2 ⟨rfl, hb⟩
  have HB2 := Lib.hid (Below.call HB1.out hb)
  replace d0 := keep_cell hb d0
  replace d1 := keep_cell hb d1
  replace d2 := keep_cell hb d2
  replace d3 := keep_cell hb d3
  replace q0 := keep_cell hb q0
  replace q1 := keep_cell hb q1
  replace q2 := keep_cell hb q2
  replace q3 := keep_cell hb q3
  replace q4 := keep_cell hb q4
  replace q5 := keep_cell hb q5
  clear hb
  go_wp2_with fail
  refine (HRV.out _ HB2.out).mono ?_
  rintro e w3 ⟨rfl, hb⟩
  have HB3 := Lib.hid (Below.call HB2.out hb)
  replace d0 := keep_cell hb d0
  replace d1 := keep_cell hb d1
  replace d2 := keep_cell hb d2
  replace d3 := keep_cell hb d3
  replace q0 := keep_cell hb q0
  replace q1 := keep_cell hb q1
  replace q2 := keep_cell hb q2
  replace q3 := keep_cell hb q3
  replace q4 := keep_cell hb q4
  replace q5 := keep_cell hb q5
  clear hb
  go_wp2_with fail
  refine wp_region_held_drew (S := fun w' => w'.cell? ⟨w.heap.size, 0, none⟩ = some (.slice d.bA d.bn d.bc) ∧ w'.cell? ⟨w.heap.size, 1, none⟩ = some (.slice d.pA d.pn d.pc) ∧ w'.cell? ⟨w.heap.size, 2, none⟩ = some (.slice d.rA d.rn d.rc) ∧ w'.cell? ⟨w.heap.size, 3, none⟩ = some (.int .i64 d.arms) ∧ w'.cell? ⟨w.heap.size + 1, 0, none⟩ = some (.int .i64 r.k) ∧ w'.cell? ⟨w.heap.size + 1, 1, none⟩ = some (.slice r.iA r.il.length r.ic) ∧ w'.cell? ⟨w.heap.size + 1, 2, none⟩ = some (.int .i64 r.a) ∧ w'.cell? ⟨w.heap.size + 1, 3, none⟩ = some (.int .i64 r.b) ∧ w'.cell? ⟨w.heap.size + 1, 4, none⟩ = some (.int .i64 r.u) ∧ w'.cell? ⟨w.heap.size + 1, 5, none⟩ = some (.int .u64 r.v)) (by kernel_rfl) ?_ (fun hHeld => ?_)
  · exact ⟨d0, d1, d2, d3, q0, q1, q2, q3, q4, q5⟩
  have HBr := Lib.hid (show Below w0.heap.size w0 w3.drew from below_drewN HB3.out 1)
  clear d0 d1 d2 d3 q0 q1 q2 q3 q4 q5
  generalize w3.drew = wv at *
  refine wpAnyH_ready (rs := [0]) (by kernel_rfl) (by simp) ?_
  refine AllReadyH.cons (o := ⟨some 23, _, _, _, _, _⟩) rfl (fun K hK => ?_) AllReadyH.nil
  go_simp
  (with_reducible refine (HLV.out _ (HT0.out.below HBr.out)).mono ?_)
  rintro e wv ⟨rfl, hb⟩
  obtain ⟨s0, s1, s2, s3, s4, s5, s6, s7, s8, s9⟩ := hHeld
  have HBr := Lib.hid (Below.call HBr.out hb)
  replace s0 := keep_cell hb s0
  replace s1 := keep_cell hb s1
  replace s2 := keep_cell hb s2
  replace s3 := keep_cell hb s3
  replace s4 := keep_cell hb s4
  replace s5 := keep_cell hb s5
  replace s6 := keep_cell hb s6
  replace s7 := keep_cell hb s7
  replace s8 := keep_cell hb s8
  replace s9 := keep_cell hb s9
  clear hb
  go_wp2_with fail
  refine hK.out _ _ ⟨s0, s1, s2, s3, s4, s5, s6, s7, s8, s9⟩ (fun hHeld => ?_)
  clear hK K s0 s1 s2 s3 s4 s5 s6 s7 s8 s9
  (try simp only [Act.put, List.setIfInBounds_toArray, List.set_cons_zero, List.set_cons_succ])
  refine wpAnyH_take (i := 1) (oi := ⟨some 24, _, _, _, _, _⟩) (v := ?_) rfl (by kernel_rfl) (by kernel_rfl) (by kernel_rfl) (fun _ _ _ h => h) (Or.inl ⟨by kernel_rfl, ?_⟩) (by assumption) ?_
  rotate_left 1
  · ((intro w hSw; (try dsimp only at hSw); go_simp) <;> (try with_reducible rfl))
  (try simp only [Act.put, List.setIfInBounds_toArray, List.set_cons_zero, List.set_cons_succ])
  refine wpAnyH_take (i := 2) (oi := ⟨some 25, _, _, _, _, _⟩) (v := ?_) rfl (by kernel_rfl) (by kernel_rfl) (by kernel_rfl) (fun _ _ _ h => h) (Or.inl ⟨by kernel_rfl, ?_⟩) (by assumption) ?_
  rotate_left 1
  · ((intro w hSw; (try dsimp only at hSw); go_simp) <;> (try with_reducible rfl))
  (try simp only [Act.put, List.setIfInBounds_toArray, List.set_cons_zero, List.set_cons_succ])
  refine wpAnyH_take (i := 3) (oi := ⟨some 26, _, _, _, _, _⟩) (v := ?_) rfl (by kernel_rfl) (by kernel_rfl) (by kernel_rfl) (fun _ _ _ h => h) (Or.inl ⟨by kernel_rfl, ?_⟩) (by assumption) ?_
  rotate_left 1
  · ((intro w hSw; (try dsimp only at hSw); go_simp) <;> (try with_reducible rfl))
  (try simp only [Act.put, List.setIfInBounds_toArray, List.set_cons_zero, List.set_cons_succ])
  refine wpAnyH_take (i := 5) (oi := ⟨some 28, _, _, _, _, _⟩) (v := ?_) rfl (by kernel_rfl) (by kernel_rfl) (by kernel_rfl) (fun _ _ _ h => h) (Or.inl ⟨by kernel_rfl, ?_⟩) (by assumption) ?_
  rotate_left 1
  · ((intro w hSw; (try dsimp only at hSw); go_simp) <;> (try with_reducible rfl))
  (try simp only [Act.put, List.setIfInBounds_toArray, List.set_cons_zero, List.set_cons_succ])
  refine wpAnyH_take (i := 6) (oi := ⟨some 29, _, _, _, _, _⟩) (v := ?_) rfl (by kernel_rfl) (by kernel_rfl) (by kernel_rfl) (fun _ _ _ h => h) (Or.inl ⟨by kernel_rfl, ?_⟩) (by assumption) ?_
  rotate_left 1
  · ((intro w hSw; (try dsimp only at hSw); go_simp) <;> (try with_reducible rfl))
  (try simp only [Act.put, List.setIfInBounds_toArray, List.set_cons_zero, List.set_cons_succ])
  refine wpAnyH_ready (rs := [4]) (by kernel_rfl) (by simp) ?_
  refine AllReadyH.cons (o := ⟨some 27, _, _, _, _, _⟩) rfl (fun K hK => ?_) AllReadyH.nil
  go_simp
  (with_reducible refine (HCK.out _ HBr.out).mono ?_)
  rintro e wv ⟨rfl, hb⟩
  obtain ⟨s0, s1, s2, s3, s4, s5, s6, s7, s8, s9⟩ := hHeld
  have HBr := Lib.hid (Below.call HBr.out hb)
  replace s0 := keep_cell hb s0
  replace s1 := keep_cell hb s1
  replace s2 := keep_cell hb s2
  replace s3 := keep_cell hb s3
  replace s4 := keep_cell hb s4
  replace s5 := keep_cell hb s5
  replace s6 := keep_cell hb s6
  replace s7 := keep_cell hb s7
  replace s8 := keep_cell hb s8
  replace s9 := keep_cell hb s9
  clear hb
  go_wp2_with fail
  refine hK.out _ _ ⟨s0, s1, s2, s3, s4, s5, s6, s7, s8, s9⟩ (fun hHeld => ?_)
  clear hK K s0 s1 s2 s3 s4 s5 s6 s7 s8 s9
  (try simp only [Act.put, List.setIfInBounds_toArray, List.set_cons_zero, List.set_cons_succ])
  refine wpAnyH_ready (rs := [7]) (by kernel_rfl) (by simp) ?_
  refine AllReadyH.cons (o := ⟨some 30, _, _, _, _, _⟩) rfl (fun K hK => ?_) AllReadyH.nil
  go_simp
  (with_reducible refine (HRC.out _ HBr.out).mono ?_)
  rintro e wv ⟨rfl, hb⟩
  obtain ⟨s0, s1, s2, s3, s4, s5, s6, s7, s8, s9⟩ := hHeld
  have HBr := Lib.hid (Below.call HBr.out hb)
  replace s0 := keep_cell hb s0
  replace s1 := keep_cell hb s1
  replace s2 := keep_cell hb s2
  replace s3 := keep_cell hb s3
  replace s4 := keep_cell hb s4
  replace s5 := keep_cell hb s5
  replace s6 := keep_cell hb s6
  replace s7 := keep_cell hb s7
  replace s8 := keep_cell hb s8
  replace s9 := keep_cell hb s9
  clear hb
  go_wp2_with fail
  refine hK.out _ _ ⟨s0, s1, s2, s3, s4, s5, s6, s7, s8, s9⟩ (fun hHeld => ?_)
  clear hK K s0 s1 s2 s3 s4 s5 s6 s7 s8 s9
  (try simp only [Act.put, List.setIfInBounds_toArray, List.set_cons_zero, List.set_cons_succ])
  refine wpAnyH_ready (rs := [8]) (by kernel_rfl) (by simp) ?_
  refine AllReadyH.cons (o := ⟨some 31, _, _, _, _, _⟩) rfl (fun K hK => ?_) AllReadyH.nil
  go_simp
  (with_reducible refine (same15_any V V _).mono ?_)
  rintro e wv ⟨rfl, hb⟩
  simp only [decide_true]
  obtain ⟨s0, s1, s2, s3, s4, s5, s6, s7, s8, s9⟩ := hHeld
  have HBr := Lib.hid (Below.call HBr.out hb)
  replace s0 := keep_cell hb s0
  replace s1 := keep_cell hb s1
  replace s2 := keep_cell hb s2
  replace s3 := keep_cell hb s3
  replace s4 := keep_cell hb s4
  replace s5 := keep_cell hb s5
  replace s6 := keep_cell hb s6
  replace s7 := keep_cell hb s7
  replace s8 := keep_cell hb s8
  replace s9 := keep_cell hb s9
  clear hb
  go_wp2_with fail
  refine hK.out _ _ ⟨s0, s1, s2, s3, s4, s5, s6, s7, s8, s9⟩ (fun hHeld => ?_)
  clear hK K s0 s1 s2 s3 s4 s5 s6 s7 s8 s9
  (try simp only [Act.put, List.setIfInBounds_toArray, List.set_cons_zero, List.set_cons_succ])
  refine wpAnyH_take (i := 9) (oi := ⟨some 32, _, _, _, _, _⟩) (v := ?_) rfl (by kernel_rfl) (by kernel_rfl) (by kernel_rfl) (fun _ _ _ h => h) (Or.inl ⟨by kernel_rfl, ?_⟩) (by assumption) ?_
  rotate_left 1
  · ((intro w hSw; (try dsimp only at hSw); go_simp) <;> (try with_reducible rfl))
  (try simp only [Act.put, List.setIfInBounds_toArray, List.set_cons_zero, List.set_cons_succ])
  refine wpAnyH_take (i := 10) (oi := ⟨some 33, _, _, _, _, _⟩) (v := ?_) rfl (by kernel_rfl) (by kernel_rfl) (by kernel_rfl) (fun _ _ _ h => h) (Or.inl ⟨by kernel_rfl, ?_⟩) (by assumption) ?_
  rotate_left 1
  · ((intro w hSw; (try dsimp only at hSw); go_simp) <;> (try with_reducible rfl))
  (try simp only [Act.put, List.setIfInBounds_toArray, List.set_cons_zero, List.set_cons_succ])
  refine wpAnyH_take (i := 11) (oi := ⟨some 34, _, _, _, _, _⟩) (v := ?_) rfl (by kernel_rfl) (by kernel_rfl) (by kernel_rfl) (fun _ _ _ h => h) (Or.inl ⟨by kernel_rfl, ?_⟩) (by assumption) ?_
  rotate_left 1
  · ((intro w hSw; (try dsimp only at hSw); go_simp) <;> (try with_reducible rfl))
  (try simp only [Act.put, List.setIfInBounds_toArray, List.set_cons_zero, List.set_cons_succ])
  refine wpAnyH_take (i := 12) (oi := ⟨some 35, _, _, _, _, _⟩) (v := ?_) rfl (by kernel_rfl) (by kernel_rfl) (by kernel_rfl) (fun _ _ _ h => h) (Or.inl ⟨by kernel_rfl, ?_⟩) (by assumption) ?_
  rotate_left 1
  · ((intro w hSw; (try dsimp only at hSw); go_simp) <;> (try with_reducible rfl))
  (try simp only [Act.put, List.setIfInBounds_toArray, List.set_cons_zero, List.set_cons_succ])
  refine wpAnyH_take (i := 13) (oi := ⟨some 36, _, _, _, _, _⟩) (v := ?_) rfl (by kernel_rfl) (by kernel_rfl) (by kernel_rfl) (fun _ _ _ h => h) (Or.inl ⟨by kernel_rfl, ?_⟩) (by assumption) ?_
  rotate_left 1
  · ((intro w hSw; (try dsimp only at hSw); go_simp) <;> (try with_reducible rfl))
  (try simp only [Act.put, List.setIfInBounds_toArray, List.set_cons_zero, List.set_cons_succ])
  refine wpAnyH_take (i := 14) (oi := ⟨some 37, _, _, _, _, _⟩) (v := ?_) rfl (by kernel_rfl) (by kernel_rfl) (by kernel_rfl) (fun _ _ _ h => h) (Or.inl ⟨by kernel_rfl, ?_⟩) (by assumption) ?_
  rotate_left 1
  · ((intro w hSw; (try dsimp only at hSw); go_simp) <;> (try with_reducible rfl))
  (try simp only [Act.put, List.setIfInBounds_toArray, List.set_cons_zero, List.set_cons_succ])
  refine wpAnyH_take (i := 15) (oi := ⟨some 38, _, _, _, _, _⟩) (v := ?_) rfl (by kernel_rfl) (by kernel_rfl) (by kernel_rfl) (fun _ _ _ h => h) (Or.inl ⟨by kernel_rfl, ?_⟩) (by assumption) ?_
  rotate_left 1
  · ((intro w hSw; (try dsimp only at hSw); go_simp) <;> (try with_reducible rfl))
  (try simp only [Act.put, List.setIfInBounds_toArray, List.set_cons_zero, List.set_cons_succ])
  refine wpAnyH_take (i := 16) (oi := ⟨some 39, _, _, _, _, _⟩) (v := ?_) rfl (by kernel_rfl) (by kernel_rfl) (by kernel_rfl) (fun _ _ _ h => h) (Or.inl ⟨by kernel_rfl, ?_⟩) (by assumption) ?_
  rotate_left 1
  · ((intro w hSw; (try dsimp only at hSw); go_simp) <;> (try with_reducible rfl))
  (try simp only [Act.put, List.setIfInBounds_toArray, List.set_cons_zero, List.set_cons_succ])
  refine wpAnyH_take (i := 17) (oi := ⟨some 40, _, _, _, _, _⟩) (v := ?_) rfl (by kernel_rfl) (by kernel_rfl) (by kernel_rfl) (fun _ _ _ h => h) (Or.inl ⟨by kernel_rfl, ?_⟩) (by assumption) ?_
  rotate_left 1
  · ((intro w hSw; (try dsimp only at hSw); go_simp) <;> (try with_reducible rfl))
  (try simp only [Act.put, List.setIfInBounds_toArray, List.set_cons_zero, List.set_cons_succ])
  refine wpAnyH_take (i := 18) (oi := ⟨some 41, _, _, _, _, _⟩) (v := ?_) rfl (by kernel_rfl) (by kernel_rfl) (by kernel_rfl) (fun _ _ _ h => h) (Or.inl ⟨by kernel_rfl, ?_⟩) (by assumption) ?_
  rotate_left 1
  · ((intro w hSw; (try dsimp only at hSw); go_simp) <;> (try with_reducible rfl))
  (try simp only [Act.put, List.setIfInBounds_toArray, List.set_cons_zero, List.set_cons_succ])
  refine wpAnyH_take (i := 19) (oi := ⟨some 42, _, _, _, _, _⟩) (v := ?_) rfl (by kernel_rfl) (by kernel_rfl) (by kernel_rfl) (fun _ _ _ h => h) (Or.inl ⟨by kernel_rfl, ?_⟩) (by assumption) ?_
  rotate_left 1
  · ((intro w hSw; (try dsimp only at hSw); go_simp) <;> (try with_reducible rfl))
  (try simp only [Act.put, List.setIfInBounds_toArray, List.set_cons_zero, List.set_cons_succ])
  refine wpAnyH_take (i := 20) (oi := ⟨some 4, _, _, _, _, _⟩) (v := ?_) rfl (by kernel_rfl) (by kernel_rfl) (by kernel_rfl) (fun _ _ _ h => h) (Or.inl ⟨by kernel_rfl, ?_⟩) (by assumption) ?_
  rotate_left 1
  · ((intro w hSw; (try dsimp only at hSw); go_simp) <;> (try with_reducible rfl))
  (try simp only [Act.put, List.setIfInBounds_toArray, List.set_cons_zero, List.set_cons_succ])
  refine wpAnyH_done (by kernel_rfl) ?_ _
  go_wp2
  go_ret
  exact ⟨rfl, Below.call HB0.out HBr.out⟩
end Go.Proofs.YtmecohdedghiaaaDoor
namespace Go.Proofs.YtmecohdedghiaaaDoor
open Go.ChangeShapes Go.WideShapes Go.ChangeAt Go.RowKit Go.Deep
theorem own : ownKnob Tryd.prog.godebug = none := by kernel_rfl
theorem laidOut : laidOutB Tryd.prog = true := by kernel_rfl
theorem int_fits {n : Int} (h : (Lit.int .i64 n).wf = true) : fits n := by
  have : -9223372036854775808 ≤ n ∧ n ≤ 9223372036854775807 := by simpa [Lit.wf, IntKind.min, IntKind.max, IntKind.signed, IntKind.bits] using h
  exact this
theorem fl_fits {n : Nat} (h : (Lit.float .f64 n).wf = true) : n < 18446744073709551616 := by simpa [Lit.wf] using h
/-- A list that came in, whatever its elements are. -/
theorem Lk.opened {P : Program} {α : Type} {K : Lk P α} {H : Type} {enc : TypeId × Value → H} {w : World} (Q : α → Prop) (hcells : P.cellsOf K.E = K.n)
    (each : ∀ (fuel : Nat) (cs : List Value) (x : DataW H × List MemPlace), DataW.trod enc P w 0 (fun _ => true) true fuel K.E cs = some x → ∃ y : α, cs = K.cells y ∧ K.ok y ∧ Q y)
    {fuel : Nat} {cs : List Value} {x : DataW H × List MemPlace} (h : DataW.trod enc P w 0 (fun _ => true) true fuel K.S cs = some x) :
    ∃ v xs, cs = [v] ∧ K.IsL w w.heap.size v xs ∧ ∀ y ∈ xs, Q y := by
  rcases open_slice K.und h with ⟨rfl, _⟩ | ⟨a, len, cap, m, n, D, Pl, rfl, hb, hl, hm, hmm, rfl, hx⟩
  · exact ⟨_, [], rfl, IsL.nil _ _ _ _, fun y hy => by simp at hy⟩
  · rw [if_pos rfl] at hmm
    subst hmm
    have hm' : m ≤ 9223372036854775807 := by unfold maxLen at hm; omega
    rcases Nat.eq_zero_or_pos len with h0 | h0
    · subst h0
      exact ⟨_, [], rfl, IsL.nil _ _ _ _, fun y hy => by simp at hy⟩
    have hi : Inhabited α := ⟨K.dflt⟩
    obtain ⟨Y, hY⟩ := choose_lt (α := α) (n := len) (p := fun i y => K.ok y ∧ Q y ∧ ∀ j, j < K.n → w.cell? ((a.add (i * K.n)).add j) = (K.cells y)[j]?) (fun i hi => by
      obtain ⟨cs', h1, h2⟩ := hx i (by omega)
      rw [hcells] at h1
      obtain ⟨y, rfl, hy, hq⟩ := each _ _ _ h2
      obtain ⟨_, _, hcell⟩ := World.cells?_some h1
      exact ⟨y, hy, hq, hcell⟩)
    have hpos := K.pos
    obtain ⟨b, off, spot⟩ := a
    have h00 := (hY 0 h0).2.2 0 hpos
    obtain ⟨u0, hu0⟩ : ∃ u, (K.cells (Y 0))[0]? = some u := ⟨_, List.getElem?_eq_getElem (by rw [K.len]; exact hpos)⟩
    rw [hu0] at h00
    have hspot : spot = none := by simpa [Addr.add] using World.cell?_spot h00
    subst hspot
    have hlen : ((List.range len).map Y).length = len := by simp
    refine ⟨_, (List.range len).map Y, rfl, ⟨⟨some ⟨b, off, none⟩, m, by rw [hlen], by rw [hlen]; exact hl, fun _ => ⟨b, off, rfl, ?_, fun i hi j u hu => ?_⟩⟩, fun y hy => ?_, by rw [hlen]; omega⟩, fun y hy => ?_⟩
    · have e := World.block_lt_of_cell? w _ h00
      simpa [Addr.add] using e
    · rw [hlen] at hi
      have hj : j < K.n := by
        have := (List.getElem?_eq_some_iff.1 hu).1
        rw [K.len] at this
        exact this
      have e := (hY i hi).2.2 j hj
      rw [add_plain, add_plain] at e
      have hget : ((List.range len).map Y).getD i K.dflt = Y i := by
        rw [List.getD_eq_getElem?_getD, List.getElem?_map, List.getElem?_range hi]
        rfl
      rw [hget] at hu
      rw [← Nat.add_assoc, e, hu]
    · obtain ⟨i, hi, rfl⟩ := List.mem_map.1 hy
      exact (hY i (List.mem_range.1 hi)).1
    · obtain ⟨i, hi, rfl⟩ := List.mem_map.1 hy
      exact (hY i (List.mem_range.1 hi)).2.1
theorem trod_float {H : Type} {enc : TypeId × Value → H} {P : Program} {w : World} {base : Nat} {spare : Nat → Bool} {held : Bool} {fuel : Nat} {t : TypeId} {cs : List Value} {x : DataW H × List MemPlace} {k : FloatKind} (ht : P.underlying t = some (.float k)) (h : DataW.trod enc P w base spare held fuel t cs = some x) : ∃ n, cs = [.float k n] ∧ (Lit.float k n).wf = true := by
  cases fuel with
  | zero => simp [DataW.trod] at h
  | succ n =>
    unfold DataW.trod at h
    rw [ht] at h
    split at h <;> simp_all
end Go.Proofs.YtmecohdedghiaaaDoor
namespace Go.Proofs.YtmecohdedghiaaaDoor
open Go.ChangeShapes Go.WideShapes Go.ChangeAt Go.RowKit Go.Deep
set_option maxRecDepth 100000 in
theorem celi3 : Tryd.prog.cellsOf 3 = 1 := by kernel_rfl
set_option maxRecDepth 100000 in
theorem ints_reads : Tryd.prog.readableRec 27 = true := by kernel_rfl
set_option maxRecDepth 100000 in
theorem ints_row : 27 < Tryd.prog.types.size := of_decide_eq_true (by kernel_rfl)
set_option maxRecDepth 100000 in
/-- A struct's fields that came in, each read by itself. -/
theorem fieldz {H : Type} {enc : TypeId × Value → H} {w : World} {fuel : Nat} {t : TypeId} {fs : Array Field} {cs : List Value} {x : DataW H × List MemPlace} (ht : Tryd.prog.underlying t = some (.struct fs)) (h : DataW.trod enc Tryd.prog w 0 (fun _ => true) true fuel t cs = some x) :
    cs.length = Tryd.prog.cellsOf t ∧ ∃ n, ∀ (i : Nat) (f : Field), fs[i]? = some f → ∃ y, DataW.trod enc Tryd.prog w 0 (fun _ => true) true n f.type ((cs.drop f.offset).take (Tryd.prog.cellsOf f.type)) = some y := by
  obtain ⟨xs, n, _, _, hl, hlen, hf⟩ := DataW.trod_struct ht h
  refine ⟨hl, n, fun i f hi => ?_⟩
  have hi' : i < xs.length := by
    rw [hlen]
    exact (Array.getElem?_eq_some_iff.1 hi).1
  exact ⟨xs[i], by rw [hf i f hi, List.getElem?_eq_getElem hi']⟩
set_option maxRecDepth 100000 in
theorem one_int' {H : Type} {enc : TypeId × Value → H} {w : World} {n : Nat} {c : Value} (h : ∃ y, DataW.trod enc Tryd.prog w 0 (fun _ => true) true n 3 [c] = some y) : ∃ k, c = .int .i64 k ∧ fits k := by
  obtain ⟨y, hy⟩ := h
  obtain ⟨k, e, _, hw⟩ := DataW.trod_int Tryd.underlying3 hy
  simp only [List.cons.injEq, and_true] at e
  exact ⟨k, e, int_fits hw⟩
set_option maxRecDepth 100000 in
/-- A list of whole numbers that came in. -/
theorem open_ints' {H : Type} {enc : TypeId × Value → H} {w : World} {v : Value} {d : DataW H} {ps : List MemPlace} (hv : ∃ a len cap, v = .slice a len cap) (h : DataW.Trod enc Tryd.prog w 0 (fun _ => true) true 27 v d ps) : ∃ xs, KI.IsL w w.heap.size v xs := by
  obtain ⟨a0, len0, cap0, rfl⟩ := hv
  obtain ⟨fuel, hf⟩ := h
  have hf' : DataW.trod enc Tryd.prog w 0 (fun _ => true) true fuel 27 [Value.slice a0 len0 cap0] = some (d, ps) := by simpa [Value.cells] using hf
  obtain ⟨v, xs, h1, h2, _⟩ := Lk.opened (K := KI) (fun _ => True) celi3 (fun fuel cs x h => by
    obtain ⟨k, e, _, hw⟩ := DataW.trod_int Tryd.underlying3 h
    exact ⟨k, e, int_fits hw, trivial⟩) hf'
  simp only [List.cons.injEq, and_true] at h1
  subst h1
  exact ⟨xs, h2⟩
set_option maxRecDepth 100000 in
theorem cells28 : Tryd.prog.cellsOf 50 = 1 := by kernel_rfl
set_option maxRecDepth 100000 in
/-- A list of floats that came in. -/
theorem open_floats {H : Type} {enc : TypeId × Value → H} {w : World} {fuel : Nat} {cs : List Value} {x : DataW H × List MemPlace} (h : DataW.trod enc Tryd.prog w 0 (fun _ => true) true fuel 22 cs = some x) : ∃ v xs, cs = [v] ∧ KF.IsL w w.heap.size v xs := by
  obtain ⟨v, xs, h1, h2, _⟩ := Lk.opened (K := KF) (fun _ => True) cells28 (fun fuel cs x h => by
    obtain ⟨n, rfl, hw⟩ := trod_float Tryd.underlying50 h
    exact ⟨n, rfl, fl_fits hw, trivial⟩) h
  exact ⟨v, xs, h1, h2⟩
set_option maxRecDepth 100000 in
theorem cells3 : Tryd.prog.cellsOf 3 = 1 := by kernel_rfl
set_option maxRecDepth 100000 in
theorem cells61 : Tryd.prog.cellsOf 27 = 1 := by kernel_rfl
set_option maxRecDepth 100000 in
theorem cells22 : Tryd.prog.cellsOf 22 = 1 := by kernel_rfl
set_option maxRecDepth 100000 in
theorem cells41 : Tryd.prog.cellsOf 23 = 1 := by kernel_rfl
set_option maxRecDepth 100000 in
theorem cells42 : Tryd.prog.cellsOf 24 = 1 := by kernel_rfl
set_option maxRecDepth 100000 in
theorem cells44 : Tryd.prog.cellsOf 26 = 4 := by kernel_rfl
set_option maxRecDepth 100000 in
theorem cells63 : Tryd.prog.cellsOf 67 = 7 := by kernel_rfl
set_option maxRecDepth 100000 in
theorem cells72 : Tryd.prog.cellsOf 69 = 5 := by kernel_rfl
set_option maxRecDepth 100000 in
theorem deck_reads : Tryd.prog.readableRec 26 = true := by kernel_rfl
set_option maxRecDepth 100000 in
theorem deck_row : 26 < Tryd.prog.types.size := of_decide_eq_true (by kernel_rfl)
set_option maxRecDepth 100000 in
theorem one_float {H : Type} {enc : TypeId × Value → H} {w : World} {n : Nat} {c : Value} (h : ∃ y, DataW.trod enc Tryd.prog w 0 (fun _ => true) true n 50 [c] = some y) : ∃ k, c = .float .f64 k ∧ k < 18446744073709551616 := by
  obtain ⟨y, hy⟩ := h
  obtain ⟨k, e, hw⟩ := trod_float Tryd.underlying50 hy
  simp only [List.cons.injEq, and_true] at e
  exact ⟨k, e, fl_fits hw⟩
set_option maxRecDepth 100000 in
theorem one_ints {H : Type} {enc : TypeId × Value → H} {w : World} {n : Nat} {c : Value} (h : ∃ y, DataW.trod enc Tryd.prog w 0 (fun _ => true) true n 27 [c] = some y) : ∃ xs, KI.IsL w w.heap.size c xs := by
  obtain ⟨y, hy⟩ := h
  obtain ⟨v, xs, h1, h2, _⟩ := Lk.opened (K := KI) (fun _ => True) cells3 (fun fuel cs x h => by
    obtain ⟨k, e, _, hw⟩ := DataW.trod_int Tryd.underlying3 h
    exact ⟨k, e, int_fits hw, trivial⟩) hy
  simp only [List.cons.injEq, and_true] at h1
  subst h1
  exact ⟨xs, h2⟩
set_option maxRecDepth 100000 in
theorem open_plate {H : Type} {enc : TypeId × Value → H} {w : World} {fuel : Nat} {cs : List Value} {x : DataW H × List MemPlace} (h : DataW.trod enc Tryd.prog w 0 (fun _ => true) true fuel 67 cs = some x) :
    ∃ q : Pl, cs = KP.cells q ∧ KP.ok q ∧ KI.IsL w w.heap.size (.slice q.sA q.sn q.sc) q.st := by
  obtain ⟨hl, n, hf⟩ := fieldz Tryd.underlying67 h
  rw [cells63] at hl
  match cs, hl with
  | [c0, c1, c2, c3, c4, c5, c6], _ =>
    have g0 := hf 0 { name := "Rows", type := 3, offset := 0, embedded := false, tag := "", pkgPath := "", byteOffset := 0 } rfl
    have g1 := hf 1 { name := "Cols", type := 3, offset := 1, embedded := false, tag := "", pkgPath := "", byteOffset := 8 } rfl
    have g2 := hf 2 { name := "X", type := 50, offset := 2, embedded := false, tag := "", pkgPath := "", byteOffset := 16 } rfl
    have g3 := hf 3 { name := "Pitch", type := 50, offset := 3, embedded := false, tag := "", pkgPath := "", byteOffset := 24 } rfl
    have g4 := hf 4 { name := "Reach", type := 50, offset := 4, embedded := false, tag := "", pkgPath := "", byteOffset := 32 } rfl
    have g5 := hf 5 { name := "Cap", type := 3, offset := 5, embedded := false, tag := "", pkgPath := "", byteOffset := 40 } rfl
    have g6 := hf 6 { name := "Start", type := 27, offset := 6, embedded := false, tag := "", pkgPath := "", byteOffset := 48 } rfl
    simp only [cells3, cells28, cells61, List.drop_zero, List.drop_succ_cons, List.take_succ_cons, List.take_zero] at g0 g1 g2 g3 g4 g5 g6
    obtain ⟨k0, rfl, f0⟩ := one_int' g0
    obtain ⟨k1, rfl, f1⟩ := one_int' g1
    obtain ⟨k2, rfl, f2⟩ := one_float g2
    obtain ⟨k3, rfl, f3⟩ := one_float g3
    obtain ⟨k4, rfl, f4⟩ := one_float g4
    obtain ⟨k5, rfl, f5⟩ := one_int' g5
    obtain ⟨xs, hx⟩ := one_ints g6
    obtain ⟨A, cap, hv, _, _⟩ := hx.1
    subst hv
    exact ⟨⟨k0, k1, k2, k3, k4, k5, A, xs.length, cap, xs⟩, rfl, ⟨f0, f1, f2, f3, f4, f5⟩, hx⟩
set_option maxRecDepth 100000 in
theorem open_rack {H : Type} {enc : TypeId × Value → H} {w : World} {fuel : Nat} {cs : List Value} {x : DataW H × List MemPlace} (h : DataW.trod enc Tryd.prog w 0 (fun _ => true) true fuel 69 cs = some x) :
    ∃ q : Rk, cs = KR.cells q ∧ KR.ok q ∧ True := by
  obtain ⟨hl, n, hf⟩ := fieldz Tryd.underlying69 h
  rw [cells72] at hl
  match cs, hl with
  | [c0, c1, c2, c3, c4], _ =>
    have g0 := hf 0 { name := "Rows", type := 3, offset := 0, embedded := false, tag := "", pkgPath := "", byteOffset := 0 } rfl
    have g1 := hf 1 { name := "Cols", type := 3, offset := 1, embedded := false, tag := "", pkgPath := "", byteOffset := 8 } rfl
    have g2 := hf 2 { name := "X", type := 50, offset := 2, embedded := false, tag := "", pkgPath := "", byteOffset := 16 } rfl
    have g3 := hf 3 { name := "Pitch", type := 50, offset := 3, embedded := false, tag := "", pkgPath := "", byteOffset := 24 } rfl
    have g4 := hf 4 { name := "Reach", type := 50, offset := 4, embedded := false, tag := "", pkgPath := "", byteOffset := 32 } rfl
    simp only [cells3, cells28, List.drop_zero, List.drop_succ_cons, List.take_succ_cons, List.take_zero] at g0 g1 g2 g3 g4
    obtain ⟨k0, rfl, f0⟩ := one_int' g0
    obtain ⟨k1, rfl, f1⟩ := one_int' g1
    obtain ⟨k2, rfl, f2⟩ := one_float g2
    obtain ⟨k3, rfl, f3⟩ := one_float g3
    obtain ⟨k4, rfl, f4⟩ := one_float g4
    exact ⟨⟨k0, k1, k2, k3, k4⟩, rfl, ⟨f0, f1, f2, f3, f4⟩, trivial⟩
set_option maxRecDepth 100000 in
/-- A deck that came in. -/
theorem open_deck {H : Type} {enc : TypeId × Value → H} {W w : World} {r : Reach} {base : Nat} {v : Value} {d : DataW H} {ps : List MemPlace} (hv : Value.okWide Tryd.prog W r base 26 v) (h : DataW.Trod enc Tryd.prog w 0 (fun _ => true) true 26 v d ps) : ∃ D : Dk, v = D.v ∧ D.In w w.heap.size := by
  obtain ⟨ca, rfl, hca⟩ := okWide_struct Tryd.underlying26 hv
  obtain ⟨fuel, hf0⟩ := h
  obtain ⟨hl, n, hf⟩ := fieldz Tryd.underlying26 hf0
  have hcs : (Value.agg ca).cells = ca := by simp [Value.cells]
  rw [hcs] at hl hf
  rw [cells44] at hl
  match ca, hl with
  | ⟨[c0, c1, c2, c3]⟩, _ =>
    have g0 := hf 0 { name := "Borders", type := 22, offset := 0, embedded := false, tag := "", pkgPath := "", byteOffset := 0 } rfl
    have g1 := hf 1 { name := "Plates", type := 23, offset := 1, embedded := false, tag := "", pkgPath := "", byteOffset := 24 } rfl
    have g2 := hf 2 { name := "Racks", type := 24, offset := 2, embedded := false, tag := "", pkgPath := "", byteOffset := 48 } rfl
    have g3 := hf 3 { name := "Arms", type := 3, offset := 3, embedded := false, tag := "", pkgPath := "", byteOffset := 72 } rfl
    simp only [cells3, cells22, cells41, cells42, List.drop_zero, List.drop_succ_cons, List.take_succ_cons, List.take_zero] at g0 g1 g2 g3
    obtain ⟨k3, rfl, f3⟩ := one_int' g3
    obtain ⟨y0, e0⟩ := g0
    obtain ⟨y1, e1⟩ := g1
    obtain ⟨y2, e2⟩ := g2
    obtain ⟨v0, bl, a0, b0⟩ := open_floats e0
    obtain ⟨v1, pl, a1, b1, q1⟩ := Lk.opened (K := KP) (fun q => KI.IsL w w.heap.size (.slice q.sA q.sn q.sc) q.st) cells63 (fun fuel cs x h => open_plate h) e1
    obtain ⟨v2, rl, a2, b2, _⟩ := Lk.opened (K := KR) (fun _ => True) cells72 (fun fuel cs x h => open_rack h) e2
    have z0 : c0 = v0 := by simpa using a0
    have z1 : c1 = v1 := by simpa using a1
    have z2 : c2 = v2 := by simpa using a2
    subst z0 z1 z2
    obtain ⟨A0, m0, h0, _, _⟩ := b0.1
    obtain ⟨A1, m1, h1, _, _⟩ := b1.1
    obtain ⟨A2, m2, h2, _, _⟩ := b2.1
    subst h0 h1 h2
    exact ⟨⟨A0, bl.length, m0, bl, A1, pl.length, m1, pl, A2, rl.length, m2, rl, k3⟩, rfl, ⟨b0, b1, b2, q1, f3⟩⟩
end Go.Proofs.YtmecohdedghiaaaDoor
namespace Go.Proofs.YtmecohdedghiaaaDoor
open Go.ChangeShapes Go.WideShapes Go.ChangeAt Go.RowKit Go.Deep
set_option maxRecDepth 100000 in
theorem gTab : Tryd.prog.globalNamed "math/bits.deBruijn64tab" = some 1 := by kernel_rfl
set_option maxRecDepth 100000 in
theorem gTabType : (Tryd.prog.globals[1]?).map (·.type) = some 115 := by kernel_rfl
set_option maxRecDepth 100000 in
theorem cellsTab : Tryd.prog.cellsOf 115 = 64 := by kernel_rfl
set_option maxRecDepth 100000 in
theorem cellsU8 : Tryd.prog.cellsOf 5 = 1 := by kernel_rfl
/-- The list of every row of this seat. -/
def tabList : List (String × DataW Unit) := [("math/bits.deBruijn64tab", Rows.laid_math_bits_deBruijn64tab)]
theorem table {W : World} (h : laidMetH Tryd.prog tabList W) : Lib.TabIs Tryd.prog W "math/bits.deBruijn64tab" .u8 (Lib.deBruijn64tab.map Int.ofNat) :=
  Lib.tabIs_of_head (rest := []) gTab gTabType Tryd.underlying115 Tryd.underlying5 cellsU8 cellsTab h
theorem tab {W : World} (h : laidMetH Tryd.prog tabList W) : Nn.Tab W := fun j hj => by
  have hl : Lib.deBruijn64tab.length = 64 := rfl
  have e := (table h).cell gTab j (by rw [List.length_map, hl]; exact hj)
  rw [e, List.getD_eq_getElem?_getD, List.getElem?_map, List.getD_eq_getElem?_getD]
  rw [List.getElem?_eq_getElem (by rw [hl]; exact hj)]
  rfl
/-- A world for the witness: the settled one, the table holding what its initialiser lays. -/
noncomputable def laidWorld (os : Os) : World :=
  { World.holding Tryd.prog os ⟨#[], #[], []⟩ with heap := (World.holding Tryd.prog os ⟨#[], #[], []⟩).heap.modify 1 fun
      | .cells _ t frozen => .cells (Lib.deBruijn64tab.map fun n => Value.int .u8 (Int.ofNat n)).toArray t frozen
      | o => o }
set_option maxRecDepth 100000 in
theorem req_reads : Tryd.prog.readableRec 30 = true := by kernel_rfl
set_option maxRecDepth 100000 in
theorem req_row : 30 < Tryd.prog.types.size := of_decide_eq_true (by kernel_rfl)
set_option maxRecDepth 100000 in
theorem cellsRq : Tryd.prog.cellsOf 30 = 6 := by kernel_rfl
set_option maxRecDepth 100000 in
theorem cellsU64 : Tryd.prog.cellsOf 28 = 1 := by kernel_rfl
set_option maxRecDepth 100000 in
theorem one_u64 {H : Type} {enc : TypeId × Value → H} {w : World} {n : Nat} {c : Value} (h : ∃ y, DataW.trod enc Tryd.prog w 0 (fun _ => true) true n 28 [c] = some y) : ∃ k : Nat, c = .int .u64 k ∧ k < 18446744073709551616 := by
  obtain ⟨y, hy⟩ := h
  obtain ⟨k, e, _, hw⟩ := DataW.trod_int Tryd.underlying28 hy
  simp only [List.cons.injEq, and_true] at e
  have hk : 0 ≤ k ∧ k ≤ 18446744073709551615 := by simpa [Lit.wf, IntKind.min, IntKind.max, IntKind.signed, IntKind.bits] using hw
  refine ⟨k.toNat, ?_, by omega⟩
  rw [e, Int.toNat_of_nonneg hk.1]
set_option maxRecDepth 100000 in
/-- A request that came in. -/
theorem open_req {H : Type} {enc : TypeId × Value → H} {W w : World} {r : Reach} {base : Nat} {v : Value} {d : DataW H} {ps : List MemPlace} (hv : Value.okWide Tryd.prog W r base 30 v) (h : DataW.Trod enc Tryd.prog w 0 (fun _ => true) true 30 v d ps) : ∃ R : Rq, v = R.val ∧ R.In w w.heap.size := by
  obtain ⟨ca, rfl, hca⟩ := okWide_struct Tryd.underlying30 hv
  obtain ⟨fuel, hf0⟩ := h
  obtain ⟨hl, n, hf⟩ := fieldz Tryd.underlying30 hf0
  have hcs : (Value.agg ca).cells = ca := by simp [Value.cells]
  rw [hcs] at hl hf
  rw [cellsRq] at hl
  match ca, hl with
  | ⟨[c0, c1, c2, c3, c4, c5]⟩, _ =>
    have g0 := hf 0 { name := "Kind", type := 3, offset := 0, embedded := false, tag := "", pkgPath := "", byteOffset := 0 } rfl
    have g1 := hf 1 { name := "Ids", type := 27, offset := 1, embedded := false, tag := "", pkgPath := "", byteOffset := 8 } rfl
    have g2 := hf 2 { name := "A", type := 3, offset := 2, embedded := false, tag := "", pkgPath := "", byteOffset := 32 } rfl
    have g3 := hf 3 { name := "B", type := 3, offset := 3, embedded := false, tag := "", pkgPath := "", byteOffset := 40 } rfl
    have g4 := hf 4 { name := "Ver", type := 3, offset := 4, embedded := false, tag := "", pkgPath := "", byteOffset := 48 } rfl
    have g5 := hf 5 { name := "Vol", type := 28, offset := 5, embedded := false, tag := "", pkgPath := "", byteOffset := 56 } rfl
    simp only [cells3, cells61, cellsU64, List.drop_zero, List.drop_succ_cons, List.take_succ_cons, List.take_zero] at g0 g1 g2 g3 g4 g5
    obtain ⟨k0, rfl, f0⟩ := one_int' g0
    obtain ⟨xs, hx⟩ := one_ints g1
    obtain ⟨k2, rfl, f2⟩ := one_int' g2
    obtain ⟨k3, rfl, f3⟩ := one_int' g3
    obtain ⟨k4, rfl, f4⟩ := one_int' g4
    obtain ⟨k5, rfl, f5⟩ := one_u64 g5
    obtain ⟨A, c, rfl, _⟩ := hx.shape
    exact ⟨⟨k0, A, c, xs, k2, k3, k4, k5⟩, rfl, ⟨hx, f0, f2, f3, f4, f5⟩⟩
end Go.Proofs.YtmecohdedghiaaaDoor

/- What all proofs of this seat's statements share: the set-up, and how a list that came in is opened. -/
import Derived.Test.YtacjonncakhhmaaPb38
import Derived.Test.YtacjonncakhhmaaPb40
import Derived.Test.YtacjonncakhhmaaPb19
import Derived.Test.YtacjonncakhhmaaRows
import Derived.Test.YtacjonncakhhmaaPb02
import Derived.ProofKit
import Derived.OpenShut
import Derived.ShutString
import Derived.ChangeMaps5
import Derived.Deep.Slices
import Derived.Lib.SmallJoins
import Derived.Carry
import Derived.ChangeSlices
namespace Go.Proofs.Ytacjonncakhhmaa
open Go.RowKit
set_option maxRecDepth 100000 in
set_option maxHeartbeats 4000000 in
theorem stockTells_walk (d : Dk) (s : Stk) (id b' : Int) (w : World) (hd : d.In w w.heap.size) (hs : s.In w w.heap.size) (hid : fits id) : Calls Try.prog 4 #[d.v, s.v, .int .i64 id, .int .i64 b'] w fun e w' => e = .returned (.bool true) ∧ Below w.heap.size w w' := by
 obtain ⟨w0, hw0⟩ : ∃ w0, w0 = (w.alloc (.cells #[.slice d.bA d.bn d.bc, .slice d.pA d.pn d.pc, .slice d.rA d.rn d.rc, .int .i64 d.arms] 26)).alloc (.cells #[.slice s.cA s.cl.length s.cc, .slice s.lA s.ll.length s.lc, .slice s.tA s.tl.length s.tc, .int .i64 s.st, .int .i64 s.inn, .int .i64 s.out] 33) := ⟨_, rfl⟩
 have HB0 := Lib.hid (show Below w.heap.size w w0 by rw [hw0]; exact Below.al (Below.al (Below.refl _ _) _) _)
 have HD0 := Lib.hid (hd.then HB0.out)
 have HS0 := Lib.hid (hs.then HB0.out)
 obtain ⟨Gd, hGd⟩ : ∃ Gd, Gd = w.heap.size := ⟨_, rfl⟩
 obtain ⟨Gs, hGs⟩ : ∃ Gs, Gs = w.heap.size + 1 := ⟨_, rfl⟩
 have HK := Lib.hid (show DkAt w0 Gd d by rw [hw0, hGd]; exact (Cells4.new w _ _ _ _ _).below (Below.al (Below.refl _ _) _))
 have HT := Lib.hid (show SkAt w0 Gs s by
  have e : (w.alloc (.cells #[.slice d.bA d.bn d.bc, .slice d.pA d.pn d.pc, .slice d.rA d.rn d.rc, .int .i64 d.arms] 26)).heap.size = w.heap.size + 1 := by simp
  rw [hw0, hGs, ← e]
  exact Cells6.new (w.alloc (.cells #[.slice d.bA d.bn d.bc, .slice d.pA d.pn d.pc, .slice d.rA d.rn d.rc, .int .i64 d.arms] 26)) 33 _ _ _ _ _ _)
 have HLD := Lib.hid (fun (V : World) (h : Below w0.heap.size w0 V) => large_any d V (HD0.out.then h))
 have HLS := Lib.hid (fun (V : World) (h : Below w0.heap.size w0 V) => large_s s V (HS0.out.then h))
 have HLV := Lib.hid (fun (V : World) => lives13 V)
 have HK1 := Lib.hid (fun (V : World) (h : Below w0.heap.size w0 V) => look_any d s id V (HD0.out.then h) (HS0.out.then h) hid)
 have HK2 := Lib.hid (fun (V : World) (h : Below w0.heap.size w0 V) => rlook_any d s id V (HD0.out.then h) (HS0.out.then h))
 have HH1 := Lib.hid (fun (V : World) (h : Below w0.heap.size w0 V) => hand_any d s b' V (HD0.out.then h) (HS0.out.then h))
 have HH2 := Lib.hid (fun (V : World) (h : Below w0.heap.size w0 V) => rhand_any d s b' V (HD0.out.then h) (HS0.out.then h))
 have HT1 := Lib.hid (show laB s.ab = false → ∀ (V : World), Below w0.heap.size w0 V → Calls Try.prog 21 #[s.v] V fun e w' => e = .returned (totV s.cl) ∧ Below V.heap.size V w' from fun hl V h => total_any s V (HS0.out.then h) (by have h1 := (la_no hl).1; have e : s.ab.c.length = s.cl.length := rfl; omega))
 have HT2 := Lib.hid (show laB s.ab = false → ∀ (V : World), Below w0.heap.size w0 V → Calls Try.prog 22 #[s.v] V fun e w' => e = .returned (totV s.cl) ∧ Below V.heap.size V w' from fun hl V h => rtotal_any s V (HS0.out.then h) (by have h1 := (la_no hl).1; have e : s.ab.c.length = s.cl.length := rfl; omega))
 have HRG := Lib.hid (fun w h1 h2 => right_s d s w h1 h2)
 have HRR := Lib.hid (fun w h1 h2 => rright_s d s w h1 h2)
 generalize laB s.ab = ls at *
 generalize largeB d = lb at *
 generalize rgS d s.ab = rg at *
 obtain ⟨⟨⟨ca, cb, cv⟩, ce⟩, hlk⟩ : ∃ x, lkV d s.ab id = x := ⟨_, rfl⟩
 rw [hlk] at HK1 HK2
 obtain ⟨⟨ha, hb0⟩, hha⟩ : ∃ x, haV d s.ab b' = x := ⟨_, rfl⟩
 rw [hha] at HH1 HH2
 unfold totV at HT1 HT2
 generalize fitV (Two.sumL (volS s.cl)) = tx at *
 generalize fitE (Two.sumL (volS s.cl)) = ty at *
 dsimp only at HK1 HK2 HH1 HH2
 obtain ⟨d0, d1, d2, d3, -⟩ := HK.out
 obtain ⟨t0, t1, t2, t3, t4, t5, -⟩ := HT.out
 rw [hw0, hGd] at d0 d1 d2 d3
 rw [hw0, hGs] at t0 t1 t2 t3 t4 t5
 clear hlk hha hd hs hid
 go_enter Try.func4, Try.ntmps4
 go_wp2_with fail
 rw [← hw0]
 --CUT1
 try rw [← hGs]
 try rw [← hGd]
 clear hw0 hGd hGs d0 d1 d2 d3 t0 t1 t2 t3 t4 t5
 refine (HLD.out w0 (Below.refl _ _)).mono ?_
 rintro e w1 ⟨rfl, hb1⟩
 have HB1 := Lib.hid hb1
 clear hb1
 cases lb
 case true =>
  go_wp2_with fail
  refine (HLV.out w1).mono ?_
  rintro e w2 ⟨rfl, hb2⟩
  have HB2 := Lib.hid (Below.call HB0.out (Below.call HB1.out hb2))
  clear hb2
  go_wp2
  go_ret
  exact ⟨rfl, HB2.out⟩
 obtain ⟨t0, t1, t2, t3, t4, t5, -⟩ := HT.out.below HB1.out
 go_wp2_with fail
 refine (HLS.out w1 HB1.out).mono ?_
 rintro e w2 ⟨rfl, hb2⟩
 have HB2 := Lib.hid (Below.call HB1.out hb2)
 clear hb2 t0 t1 t2 t3 t4 t5 HB1
 cases ls
 case true =>
  go_wp2_with fail
  refine (HLV.out w2).mono ?_
  rintro e w3 ⟨rfl, hb3⟩
  have HB3 := Lib.hid (Below.call HB0.out (Below.call HB2.out hb3))
  clear hb3
  go_wp2
  go_ret
  exact ⟨rfl, HB3.out⟩
 have HX1 := Lib.hid (HT1.out (by simp))
 have HX2 := Lib.hid (HT2.out (by simp))
 obtain ⟨t0, t1, t2, t3, t4, t5, -⟩ := HT.out.below HB2.out
 obtain ⟨d0, d1, d2, d3, -⟩ := HK.out.below HB2.out
 go_wp2_with fail
 --CUT2
 refine (HK1.out w2 HB2.out).mono ?_
 rintro e w3 ⟨rfl, hb3⟩
 obtain ⟨v3, hv3⟩ : ∃ v3, v3 = w3.alloc (.cells #[.int .i64 ca, .int .i64 cb, .int .i64 cv] 41) := ⟨_, rfl⟩
 have hba := Below.al hb3 (.cells #[.int .i64 ca, .int .i64 cb, .int .i64 cv] 41)
 rw [← hv3] at hba
 have HB3 := Lib.hid (Below.call HB2.out hba)
 have HC3 := Lib.hid (show Cells3 v3 w3.heap.size (.int .i64 ca) (.int .i64 cb) (.int .i64 cv) by rw [hv3]; exact Cells3.new w3 _ _ _ _)
 clear hb3 hba t0 t1 t2 t3 t4 t5 d0 d1 d2 d3 HB2
 obtain ⟨t0, t1, t2, t3, t4, t5, -⟩ := HT.out.below HB3.out
 obtain ⟨d0, d1, d2, d3, -⟩ := HK.out.below HB3.out
 rw [hv3] at t0 t1 t2 t3 t4 t5 d0 d1 d2 d3
 go_wp2_with fail
 rw [← hv3]
 clear hv3 t0 t1 t2 t3 t4 t5 d0 d1 d2 d3
 generalize w3.heap.size = G1 at *
 refine (HK2.out v3 HB3.out).mono ?_
 rintro e w4 ⟨rfl, hb4⟩
 obtain ⟨v4, hv4⟩ : ∃ v4, v4 = w4.alloc (.cells #[.int .i64 ca, .int .i64 cb, .int .i64 cv] 41) := ⟨_, rfl⟩
 have hba := Below.al hb4 (.cells #[.int .i64 ca, .int .i64 cb, .int .i64 cv] 41)
 rw [← hv4] at hba
 have HB4 := Lib.hid (Below.call HB3.out hba)
 have HC4 := Lib.hid (show Cells3 v4 w4.heap.size (.int .i64 ca) (.int .i64 cb) (.int .i64 cv) by rw [hv4]; exact Cells3.new w4 _ _ _ _)
 have HE4 := Lib.hid (HC3.out.below hba)
 clear hb4 hba HB3 HC3
 obtain ⟨t0, t1, t2, t3, t4, t5, -⟩ := HT.out.below HB4.out
 obtain ⟨d0, d1, d2, d3, -⟩ := HK.out.below HB4.out
 rw [hv4] at t0 t1 t2 t3 t4 t5 d0 d1 d2 d3
 go_wp2_with fail
 rw [← hv4]
 clear hv4 t0 t1 t2 t3 t4 t5 d0 d1 d2 d3
 generalize w4.heap.size = G2 at *
 --CUT3
 refine (HH1.out v4 HB4.out).mono ?_
 rintro e w5 ⟨rfl, hb5⟩
 have HB5 := Lib.hid (Below.call HB4.out hb5)
 have HC5 := Lib.hid (HC4.out.below hb5)
 have HE5 := Lib.hid (HE4.out.below hb5)
 clear hb5 HC4 HE4 HB4
 obtain ⟨t0, t1, t2, t3, t4, t5, -⟩ := HT.out.below HB5.out
 obtain ⟨d0, d1, d2, d3, -⟩ := HK.out.below HB5.out
 go_wp2_with fail
 clear t0 t1 t2 t3 t4 t5 d0 d1 d2 d3
 refine (HH2.out w5 HB5.out).mono ?_
 rintro e w6 ⟨rfl, hb6⟩
 have HB6 := Lib.hid (Below.call HB5.out hb6)
 have HC6 := Lib.hid (HC5.out.below hb6)
 have HE6 := Lib.hid (HE5.out.below hb6)
 clear hb6 HC5 HE5 HB5
 obtain ⟨t0, t1, t2, t3, t4, t5, -⟩ := HT.out.below HB6.out
 go_wp2_with fail
 clear t0 t1 t2 t3 t4 t5
 refine (HX1.out w6 HB6.out).mono ?_
 rintro e w7 ⟨rfl, hb7⟩
 have HB7 := Lib.hid (Below.call HB6.out hb7)
 have HC7 := Lib.hid (HC6.out.below hb7)
 have HE7 := Lib.hid (HE6.out.below hb7)
 clear hb7 HC6 HE6 HB6
 obtain ⟨t0, t1, t2, t3, t4, t5, -⟩ := HT.out.below HB7.out
 go_wp2_with fail
 clear t0 t1 t2 t3 t4 t5
 refine (HX2.out w7 HB7.out).mono ?_
 rintro e wz ⟨rfl, hb8⟩
 have HBZ := Lib.hid (Below.call HB7.out hb8)
 have HCZ := Lib.hid (HC7.out.below hb8)
 have HEZ := Lib.hid (HE7.out.below hb8)
 clear hb8 HC7 HE7 HB7
 have HDZ := Lib.hid (HD0.out.then HBZ.out)
 have HSZ := Lib.hid (HS0.out.then HBZ.out)
 have HS9 := Lib.hid (show ∀ W, Below wz.heap.size wz W → W.cell? ⟨Gd, 0, none⟩ = some (Value.slice d.bA d.bn d.bc) ∧ W.cell? ⟨Gd, 1, none⟩ = some (Value.slice d.pA d.pn d.pc) ∧ W.cell? ⟨Gd, 2, none⟩ = some (Value.slice d.rA d.rn d.rc) ∧ W.cell? ⟨Gd, 3, none⟩ = some (.int .i64 d.arms) ∧ W.cell? ⟨Gs, 0, none⟩ = some (Value.slice s.cA s.cl.length s.cc) ∧ W.cell? ⟨Gs, 1, none⟩ = some (Value.slice s.lA s.ll.length s.lc) ∧ W.cell? ⟨Gs, 2, none⟩ = some (Value.slice s.tA s.tl.length s.tc) ∧ W.cell? ⟨Gs, 3, none⟩ = some (.int .i64 s.st) ∧ W.cell? ⟨Gs, 4, none⟩ = some (.int .i64 s.inn) ∧ W.cell? ⟨Gs, 5, none⟩ = some (.int .i64 s.out) ∧ W.cell? ⟨G1, 0, none⟩ = some (.int .i64 ca) ∧ W.cell? ⟨G1, 1, none⟩ = some (.int .i64 cb) ∧ W.cell? ⟨G1, 2, none⟩ = some (.int .i64 cv) ∧ W.cell? ⟨G2, 0, none⟩ = some (.int .i64 ca) ∧ W.cell? ⟨G2, 1, none⟩ = some (.int .i64 cb) ∧ W.cell? ⟨G2, 2, none⟩ = some (.int .i64 cv) from fun W h => by
  obtain ⟨d0, d1, d2, d3, -⟩ := HK.out.below (HBZ.out.trans (h.mono HBZ.out.size))
  obtain ⟨t0, t1, t2, t3, t4, t5, -⟩ := HT.out.below (HBZ.out.trans (h.mono HBZ.out.size))
  obtain ⟨a0, a1, a2, -⟩ := HEZ.out.below h
  obtain ⟨b0, b1, b2, -⟩ := HCZ.out.below h
  exact ⟨d0, d1, d2, d3, t0, t1, t2, t3, t4, t5, a0, a1, a2, b0, b1, b2⟩)
 go_upto_region 9 with fail
 --CUT4
 refine wp_region_held_drew (S := fun w' => w'.cell? ⟨Gd, 0, none⟩ = some (Value.slice d.bA d.bn d.bc) ∧ w'.cell? ⟨Gd, 1, none⟩ = some (Value.slice d.pA d.pn d.pc) ∧ w'.cell? ⟨Gd, 2, none⟩ = some (Value.slice d.rA d.rn d.rc) ∧ w'.cell? ⟨Gd, 3, none⟩ = some (.int .i64 d.arms) ∧ w'.cell? ⟨Gs, 0, none⟩ = some (Value.slice s.cA s.cl.length s.cc) ∧ w'.cell? ⟨Gs, 1, none⟩ = some (Value.slice s.lA s.ll.length s.lc) ∧ w'.cell? ⟨Gs, 2, none⟩ = some (Value.slice s.tA s.tl.length s.tc) ∧ w'.cell? ⟨Gs, 3, none⟩ = some (.int .i64 s.st) ∧ w'.cell? ⟨Gs, 4, none⟩ = some (.int .i64 s.inn) ∧ w'.cell? ⟨Gs, 5, none⟩ = some (.int .i64 s.out) ∧ w'.cell? ⟨G1, 0, none⟩ = some (.int .i64 ca) ∧ w'.cell? ⟨G1, 1, none⟩ = some (.int .i64 cb) ∧ w'.cell? ⟨G1, 2, none⟩ = some (.int .i64 cv) ∧ w'.cell? ⟨G2, 0, none⟩ = some (.int .i64 ca) ∧ w'.cell? ⟨G2, 1, none⟩ = some (.int .i64 cb) ∧ w'.cell? ⟨G2, 2, none⟩ = some (.int .i64 cv)) (by kernel_rfl) ?_ (fun hHeld => ?_)
 ·exact HS9.out _ (Below.refl _ _).drew
 have BC0 := Lib.hid (show Below wz.heap.size wz wz.drew from (Below.refl _ _).drew)
 generalize wz.drew = y0 at *
 refine wpAnyH_ready (rs := [0]) (by kernel_rfl) (by simp) ?_
 refine AllReadyH.cons (o := ⟨some 66, _, _, _, _, _⟩) rfl (fun K hK => ?_) AllReadyH.nil
 go_simp
 refine (HLV.out _).mono ?_
 rintro e y1 ⟨rfl, hb⟩
 have BC1 := Lib.hid (BC0.out.trans (hb.mono BC0.out.size))
 clear hb BC0 hHeld
 go_wp2_with fail
 refine hK.out _ _ (HS9.out _ BC1.out) (fun hHeld => ?_)
 clear hK K
 (try simp only [Act.put, List.setIfInBounds_toArray, List.set_cons_zero, List.set_cons_succ])
 refine wpAnyH_take (i := 1) (oi := ⟨some 67, _, _, _, _, _⟩) (v := ?_) rfl (by kernel_rfl) (by kernel_rfl) (by kernel_rfl) (fun _ _ _ h => h) (Or.inl ⟨by kernel_rfl, ?_⟩) (by assumption) ?_
 rotate_left 1
 ·((intro w hSw; (try dsimp only at hSw); go_simp) <;> (try with_reducible rfl))
 (try simp only [Act.put, List.setIfInBounds_toArray, List.set_cons_zero, List.set_cons_succ])
 refine wpAnyH_take (i := 2) (oi := ⟨some 68, _, _, _, _, _⟩) (v := ?_) rfl (by kernel_rfl) (by kernel_rfl) (by kernel_rfl) (fun _ _ _ h => h) (Or.inl ⟨by kernel_rfl, ?_⟩) (by assumption) ?_
 rotate_left 1
 ·((intro w hSw; (try dsimp only at hSw); go_simp) <;> (try with_reducible rfl))
 (try simp only [Act.put, List.setIfInBounds_toArray, List.set_cons_zero, List.set_cons_succ])
 refine wpAnyH_take (i := 3) (oi := ⟨some 69, _, _, _, _, _⟩) (v := ?_) rfl (by kernel_rfl) (by kernel_rfl) (by kernel_rfl) (fun _ _ _ h => h) (Or.inl ⟨by kernel_rfl, ?_⟩) (by assumption) ?_
 rotate_left 1
 ·((intro w hSw; (try dsimp only at hSw); go_simp) <;> (try with_reducible rfl))
 (try simp only [Act.put, List.setIfInBounds_toArray, List.set_cons_zero, List.set_cons_succ])
 refine wpAnyH_take (i := 5) (oi := ⟨some 71, _, _, _, _, _⟩) (v := ?_) rfl (by kernel_rfl) (by kernel_rfl) (by kernel_rfl) (fun _ _ _ h => h) (Or.inl ⟨by kernel_rfl, ?_⟩) (by assumption) ?_
 rotate_left 1
 ·((intro w hSw; (try dsimp only at hSw); go_simp) <;> (try with_reducible rfl))
 (try simp only [Act.put, List.setIfInBounds_toArray, List.set_cons_zero, List.set_cons_succ])
 refine wpAnyH_take (i := 6) (oi := ⟨some 72, _, _, _, _, _⟩) (v := ?_) rfl (by kernel_rfl) (by kernel_rfl) (by kernel_rfl) (fun _ _ _ h => h) (Or.inl ⟨by kernel_rfl, ?_⟩) (by assumption) ?_
 rotate_left 1
 ·((intro w hSw; (try dsimp only at hSw); go_simp) <;> (try with_reducible rfl))
 (try simp only [Act.put, List.setIfInBounds_toArray, List.set_cons_zero, List.set_cons_succ])
 refine wpAnyH_ready (rs := [4]) (by kernel_rfl) (by simp) ?_
 refine AllReadyH.cons (o := ⟨some 70, _, _, _, _, _⟩) rfl (fun K hK => ?_) AllReadyH.nil
 go_simp
 refine (HRG.out _ (HDZ.out.then BC1.out) (HSZ.out.then BC1.out)).mono ?_
 rintro e y2 ⟨rfl, hb⟩
 have BC2 := Lib.hid (BC1.out.trans (hb.mono BC1.out.size))
 clear hb BC1 hHeld
 go_wp2_with fail
 refine hK.out _ _ (HS9.out _ BC2.out) (fun hHeld => ?_)
 clear hK K
 (try simp only [Act.put, List.setIfInBounds_toArray, List.set_cons_zero, List.set_cons_succ])
 refine wpAnyH_ready (rs := [7]) (by kernel_rfl) (by simp) ?_
 refine AllReadyH.cons (o := ⟨some 73, _, _, _, _, _⟩) rfl (fun K hK => ?_) AllReadyH.nil
 go_simp
 refine (HRR.out _ (HDZ.out.then BC2.out) (HSZ.out.then BC2.out)).mono ?_
 rintro e y3 ⟨rfl, hb⟩
 have BC3 := Lib.hid (BC2.out.trans (hb.mono BC2.out.size))
 clear hb BC2 hHeld
 go_wp2_with fail
 refine hK.out _ _ (HS9.out _ BC3.out) (fun hHeld => ?_)
 clear hK K
 (try simp only [Act.put, List.setIfInBounds_toArray, List.set_cons_zero, List.set_cons_succ])
 refine wpAnyH_take (i := 8) (oi := ⟨some 74, _, _, _, _, _⟩) (v := ?_) rfl (by kernel_rfl) (by kernel_rfl) (by kernel_rfl) (fun _ _ _ h => h) (Or.inl ⟨by kernel_rfl, ?_⟩) (by assumption) ?_
 rotate_left 1
 ·((intro w hSw; (try dsimp only at hSw); go_simp) <;> (try with_reducible rfl))
 (try simp only [Act.put, List.setIfInBounds_toArray, List.set_cons_zero, List.set_cons_succ])
 refine wpAnyH_take (i := 9) (oi := ⟨some 75, _, _, _, _, _⟩) (v := ?_) rfl (by kernel_rfl) (by kernel_rfl) (by kernel_rfl) (fun _ _ _ h => h) (Or.inl ⟨by kernel_rfl, ?_⟩) (by assumption) ?_
 rotate_left 1
 ·((intro w hSw; (try dsimp only at hSw); go_simp) <;> (try with_reducible rfl))
 (try simp only [Act.put, List.setIfInBounds_toArray, List.set_cons_zero, List.set_cons_succ])
 refine wpAnyH_take (i := 10) (oi := ⟨some 76, _, _, _, _, _⟩) (v := ?_) rfl (by kernel_rfl) (by kernel_rfl) (by kernel_rfl) (fun _ _ _ h => h) (Or.inl ⟨by kernel_rfl, ?_⟩) (by assumption) ?_
 rotate_left 1
 ·((intro w hSw; (try dsimp only at hSw); go_simp) <;> (try with_reducible rfl))
 (try simp only [Act.put, List.setIfInBounds_toArray, List.set_cons_zero, List.set_cons_succ])
 refine wpAnyH_take (i := 11) (oi := ⟨some 77, _, _, _, _, _⟩) (v := ?_) rfl (by kernel_rfl) (by kernel_rfl) (by kernel_rfl) (fun _ _ _ h => h) (Or.inl ⟨by kernel_rfl, ?_⟩) (by assumption) ?_
 rotate_left 1
 ·((intro w hSw; (try dsimp only at hSw); go_simp) <;> (try with_reducible rfl))
 (try simp only [Act.put, List.setIfInBounds_toArray, List.set_cons_zero, List.set_cons_succ])
 refine wpAnyH_take (i := 12) (oi := ⟨some 78, _, _, _, _, _⟩) (v := ?_) rfl (by kernel_rfl) (by kernel_rfl) (by kernel_rfl) (fun _ _ _ h => h) (Or.inl ⟨by kernel_rfl, ?_⟩) (by assumption) ?_
 rotate_left 1
 ·((intro w hSw; (try dsimp only at hSw); go_simp) <;> (try with_reducible rfl))
 (try simp only [Act.put, List.setIfInBounds_toArray, List.set_cons_zero, List.set_cons_succ])
 refine wpAnyH_take (i := 13) (oi := ⟨some 79, _, _, _, _, _⟩) (v := ?_) rfl (by kernel_rfl) (by kernel_rfl) (by kernel_rfl) (fun _ _ _ h => h) (Or.inl ⟨by kernel_rfl, ?_⟩) (by assumption) ?_
 rotate_left 1
 ·((intro w hSw; (try dsimp only at hSw); go_simp) <;> (try with_reducible rfl))
 (try simp only [Act.put, List.setIfInBounds_toArray, List.set_cons_zero, List.set_cons_succ])
 refine wpAnyH_take (i := 14) (oi := ⟨some 80, _, _, _, _, _⟩) (v := ?_) rfl (by kernel_rfl) (by kernel_rfl) (by kernel_rfl) (fun _ _ _ h => h) (Or.inl ⟨by kernel_rfl, ?_⟩) (by assumption) ?_
 rotate_left 1
 ·((intro w hSw; (try dsimp only at hSw); go_simp) <;> (try with_reducible rfl))
 (try simp only [Act.put, List.setIfInBounds_toArray, List.set_cons_zero, List.set_cons_succ])
 refine wpAnyH_take (i := 15) (oi := ⟨some 81, _, _, _, _, _⟩) (v := ?_) rfl (by kernel_rfl) (by kernel_rfl) (by kernel_rfl) (fun _ _ _ h => h) (Or.inl ⟨by kernel_rfl, ?_⟩) (by assumption) ?_
 rotate_left 1
 ·((intro w hSw; (try dsimp only at hSw); go_simp) <;> (try with_reducible rfl))
 (try simp only [Act.put, List.setIfInBounds_toArray, List.set_cons_zero, List.set_cons_succ])
 refine wpAnyH_take (i := 16) (oi := ⟨some 82, _, _, _, _, _⟩) (v := ?_) rfl (by kernel_rfl) (by kernel_rfl) (by kernel_rfl) (fun _ _ _ h => h) (Or.inl ⟨by kernel_rfl, ?_⟩) (by assumption) ?_
 rotate_left 1
 ·((intro w hSw; (try dsimp only at hSw); go_simp) <;> (try with_reducible rfl))
 (try simp only [Act.put, List.setIfInBounds_toArray, List.set_cons_zero, List.set_cons_succ])
 refine wpAnyH_take (i := 17) (oi := ⟨some 83, _, _, _, _, _⟩) (v := ?_) rfl (by kernel_rfl) (by kernel_rfl) (by kernel_rfl) (fun _ _ _ h => h) (Or.inl ⟨by kernel_rfl, ?_⟩) (by assumption) ?_
 rotate_left 1
 ·((intro w hSw; (try dsimp only at hSw); go_simp) <;> (try with_reducible rfl))
 (try simp only [Act.put, List.setIfInBounds_toArray, List.set_cons_zero, List.set_cons_succ])
 refine wpAnyH_take (i := 18) (oi := ⟨some 84, _, _, _, _, _⟩) (v := ?_) rfl (by kernel_rfl) (by kernel_rfl) (by kernel_rfl) (fun _ _ _ h => h) (Or.inl ⟨by kernel_rfl, ?_⟩) (by assumption) ?_
 rotate_left 1
 ·((intro w hSw; (try dsimp only at hSw); go_simp) <;> (try with_reducible rfl))
 (try simp only [Act.put, List.setIfInBounds_toArray, List.set_cons_zero, List.set_cons_succ])
 refine wpAnyH_take (i := 19) (oi := ⟨some 85, _, _, _, _, _⟩) (v := ?_) rfl (by kernel_rfl) (by kernel_rfl) (by kernel_rfl) (fun _ _ _ h => h) (Or.inl ⟨by kernel_rfl, ?_⟩) (by assumption) ?_
 rotate_left 1
 ·((intro w hSw; (try dsimp only at hSw); go_simp) <;> (try with_reducible rfl))
 (try simp only [Act.put, List.setIfInBounds_toArray, List.set_cons_zero, List.set_cons_succ])
 refine wpAnyH_take (i := 20) (oi := ⟨some 86, _, _, _, _, _⟩) (v := ?_) rfl (by kernel_rfl) (by kernel_rfl) (by kernel_rfl) (fun _ _ _ h => h) (Or.inl ⟨by kernel_rfl, ?_⟩) (by assumption) ?_
 rotate_left 1
 ·((intro w hSw; (try dsimp only at hSw); go_simp) <;> (try with_reducible rfl))
 (try simp only [Act.put, List.setIfInBounds_toArray, List.set_cons_zero, List.set_cons_succ])
 refine wpAnyH_take (i := 21) (oi := ⟨some 87, _, _, _, _, _⟩) (v := ?_) rfl (by kernel_rfl) (by kernel_rfl) (by kernel_rfl) (fun _ _ _ h => h) (Or.inl ⟨by kernel_rfl, ?_⟩) (by assumption) ?_
 rotate_left 1
 ·((intro w hSw; (try dsimp only at hSw); go_simp) <;> (try with_reducible rfl))
 (try simp only [Act.put, List.setIfInBounds_toArray, List.set_cons_zero, List.set_cons_succ])
 refine wpAnyH_take (i := 22) (oi := ⟨some 88, _, _, _, _, _⟩) (v := ?_) rfl (by kernel_rfl) (by kernel_rfl) (by kernel_rfl) (fun _ _ _ h => h) (Or.inl ⟨by kernel_rfl, ?_⟩) (by assumption) ?_
 rotate_left 1
 ·((intro w hSw; (try dsimp only at hSw); go_simp) <;> (try with_reducible rfl))
 (try simp only [Act.put, List.setIfInBounds_toArray, List.set_cons_zero, List.set_cons_succ])
 refine wpAnyH_take (i := 23) (oi := ⟨some 89, _, _, _, _, _⟩) (v := ?_) rfl (by kernel_rfl) (by kernel_rfl) (by kernel_rfl) (fun _ _ _ h => h) (Or.inl ⟨by kernel_rfl, ?_⟩) (by assumption) ?_
 rotate_left 1
 ·((intro w hSw; (try dsimp only at hSw); go_simp) <;> (try with_reducible rfl))
 (try simp only [Act.put, List.setIfInBounds_toArray, List.set_cons_zero, List.set_cons_succ])
 refine wpAnyH_take (i := 24) (oi := ⟨some 90, _, _, _, _, _⟩) (v := ?_) rfl (by kernel_rfl) (by kernel_rfl) (by kernel_rfl) (fun _ _ _ h => h) (Or.inl ⟨by kernel_rfl, ?_⟩) (by assumption) ?_
 rotate_left 1
 ·((intro w hSw; (try dsimp only at hSw); go_simp) <;> (try with_reducible rfl))
 (try simp only [Act.put, List.setIfInBounds_toArray, List.set_cons_zero, List.set_cons_succ])
 refine wpAnyH_take (i := 25) (oi := ⟨some 91, _, _, _, _, _⟩) (v := ?_) rfl (by kernel_rfl) (by kernel_rfl) (by kernel_rfl) (fun _ _ _ h => h) (Or.inl ⟨by kernel_rfl, ?_⟩) (by assumption) ?_
 rotate_left 1
 ·((intro w hSw; (try dsimp only at hSw); go_simp) <;> (try with_reducible rfl))
 (try simp only [Act.put, List.setIfInBounds_toArray, List.set_cons_zero, List.set_cons_succ])
 refine wpAnyH_take (i := 26) (oi := ⟨some 92, _, _, _, _, _⟩) (v := ?_) rfl (by kernel_rfl) (by kernel_rfl) (by kernel_rfl) (fun _ _ _ h => h) (Or.inl ⟨by kernel_rfl, ?_⟩) (by assumption) ?_
 rotate_left 1
 ·((intro w hSw; (try dsimp only at hSw); go_simp) <;> (try with_reducible rfl))
 (try simp only [Act.put, List.setIfInBounds_toArray, List.set_cons_zero, List.set_cons_succ])
 refine wpAnyH_take (i := 27) (oi := ⟨some 93, _, _, _, _, _⟩) (v := ?_) rfl (by kernel_rfl) (by kernel_rfl) (by kernel_rfl) (fun _ _ _ h => h) (Or.inl ⟨by kernel_rfl, ?_⟩) (by assumption) ?_
 rotate_left 1
 ·((intro w hSw; (try dsimp only at hSw); go_simp) <;> (try with_reducible rfl))
 (try simp only [Act.put, List.setIfInBounds_toArray, List.set_cons_zero, List.set_cons_succ])
 refine wpAnyH_take (i := 28) (oi := ⟨some 94, _, _, _, _, _⟩) (v := ?_) rfl (by kernel_rfl) (by kernel_rfl) (by kernel_rfl) (fun _ _ _ h => h) (Or.inl ⟨by kernel_rfl, ?_⟩) (by assumption) ?_
 rotate_left 1
 ·((intro w hSw; (try dsimp only at hSw); go_simp) <;> (try with_reducible rfl))
 (try simp only [Act.put, List.setIfInBounds_toArray, List.set_cons_zero, List.set_cons_succ])
 refine wpAnyH_take (i := 29) (oi := ⟨some 95, _, _, _, _, _⟩) (v := ?_) rfl (by kernel_rfl) (by kernel_rfl) (by kernel_rfl) (fun _ _ _ h => h) (Or.inl ⟨by kernel_rfl, ?_⟩) (by assumption) ?_
 rotate_left 1
 ·((intro w hSw; (try dsimp only at hSw); go_simp) <;> (try with_reducible rfl))
 (try simp only [Act.put, List.setIfInBounds_toArray, List.set_cons_zero, List.set_cons_succ])
 refine wpAnyH_take (i := 30) (oi := ⟨some 96, _, _, _, _, _⟩) (v := ?_) rfl (by kernel_rfl) (by kernel_rfl) (by kernel_rfl) (fun _ _ _ h => h) (Or.inl ⟨by kernel_rfl, ?_⟩) (by assumption) ?_
 rotate_left 1
 ·((intro w hSw; (try dsimp only at hSw); go_simp) <;> (try with_reducible rfl))
 (try simp only [Act.put, List.setIfInBounds_toArray, List.set_cons_zero, List.set_cons_succ])
 refine wpAnyH_take (i := 31) (oi := ⟨some 97, _, _, _, _, _⟩) (v := ?_) rfl (by kernel_rfl) (by kernel_rfl) (by kernel_rfl) (fun _ _ _ h => h) (Or.inl ⟨by kernel_rfl, ?_⟩) (by assumption) ?_
 rotate_left 1
 ·((intro w hSw; (try dsimp only at hSw); go_simp) <;> (try with_reducible rfl))
 (try simp only [Act.put, List.setIfInBounds_toArray, List.set_cons_zero, List.set_cons_succ])
 refine wpAnyH_take (i := 32) (oi := ⟨some 98, _, _, _, _, _⟩) (v := ?_) rfl (by kernel_rfl) (by kernel_rfl) (by kernel_rfl) (fun _ _ _ h => h) (Or.inl ⟨by kernel_rfl, ?_⟩) (by assumption) ?_
 rotate_left 1
 ·((intro w hSw; (try dsimp only at hSw); go_simp) <;> (try with_reducible rfl))
 (try simp only [Act.put, List.setIfInBounds_toArray, List.set_cons_zero, List.set_cons_succ])
 refine wpAnyH_take (i := 33) (oi := ⟨some 99, _, _, _, _, _⟩) (v := ?_) rfl (by kernel_rfl) (by kernel_rfl) (by kernel_rfl) (fun _ _ _ h => h) (Or.inl ⟨by kernel_rfl, ?_⟩) (by assumption) ?_
 rotate_left 1
 ·((intro w hSw; (try dsimp only at hSw); go_simp) <;> (try with_reducible rfl))
 (try simp only [Act.put, List.setIfInBounds_toArray, List.set_cons_zero, List.set_cons_succ])
 refine wpAnyH_take (i := 34) (oi := ⟨some 100, _, _, _, _, _⟩) (v := ?_) rfl (by kernel_rfl) (by kernel_rfl) (by kernel_rfl) (fun _ _ _ h => h) (Or.inl ⟨by kernel_rfl, ?_⟩) (by assumption) ?_
 rotate_left 1
 ·((intro w hSw; (try dsimp only at hSw); go_simp) <;> (try with_reducible rfl))
 (try simp only [Act.put, List.setIfInBounds_toArray, List.set_cons_zero, List.set_cons_succ])
 refine wpAnyH_take (i := 35) (oi := ⟨some 101, _, _, _, _, _⟩) (v := ?_) rfl (by kernel_rfl) (by kernel_rfl) (by kernel_rfl) (fun _ _ _ h => h) (Or.inl ⟨by kernel_rfl, ?_⟩) (by assumption) ?_
 rotate_left 1
 ·((intro w hSw; (try dsimp only at hSw); go_simp) <;> (try with_reducible rfl))
 (try simp only [Act.put, List.setIfInBounds_toArray, List.set_cons_zero, List.set_cons_succ])
 refine wpAnyH_take (i := 36) (oi := ⟨some 102, _, _, _, _, _⟩) (v := ?_) rfl (by kernel_rfl) (by kernel_rfl) (by kernel_rfl) (fun _ _ _ h => h) (Or.inl ⟨by kernel_rfl, ?_⟩) (by assumption) ?_
 rotate_left 1
 ·((intro w hSw; (try dsimp only at hSw); go_simp) <;> (try with_reducible rfl))
 (try simp only [Act.put, List.setIfInBounds_toArray, List.set_cons_zero, List.set_cons_succ])
 refine wpAnyH_take (i := 37) (oi := ⟨some 103, _, _, _, _, _⟩) (v := ?_) rfl (by kernel_rfl) (by kernel_rfl) (by kernel_rfl) (fun _ _ _ h => h) (Or.inl ⟨by kernel_rfl, ?_⟩) (by assumption) ?_
 rotate_left 1
 ·((intro w hSw; (try dsimp only at hSw); go_simp) <;> (try with_reducible rfl))
 (try simp only [Act.put, List.setIfInBounds_toArray, List.set_cons_zero, List.set_cons_succ])
 refine wpAnyH_take (i := 38) (oi := ⟨some 104, _, _, _, _, _⟩) (v := ?_) rfl (by kernel_rfl) (by kernel_rfl) (by kernel_rfl) (fun _ _ _ h => h) (Or.inl ⟨by kernel_rfl, ?_⟩) (by assumption) ?_
 rotate_left 1
 ·((intro w hSw; (try dsimp only at hSw); go_simp) <;> (try with_reducible rfl))
 (try simp only [Act.put, List.setIfInBounds_toArray, List.set_cons_zero, List.set_cons_succ])
 refine wpAnyH_take (i := 39) (oi := ⟨some 105, _, _, _, _, _⟩) (v := ?_) rfl (by kernel_rfl) (by kernel_rfl) (by kernel_rfl) (fun _ _ _ h => h) (Or.inl ⟨by kernel_rfl, ?_⟩) (by assumption) ?_
 rotate_left 1
 ·((intro w hSw; (try dsimp only at hSw); go_simp) <;> (try with_reducible rfl))
 (try simp only [Act.put, List.setIfInBounds_toArray, List.set_cons_zero, List.set_cons_succ])
 refine wpAnyH_take (i := 40) (oi := ⟨some 8, _, _, _, _, _⟩) (v := ?_) rfl (by kernel_rfl) (by kernel_rfl) (by kernel_rfl) (fun _ _ _ h => h) (Or.inl ⟨by kernel_rfl, ?_⟩) (by assumption) ?_
 rotate_left 1
 ·((intro w hSw; (try dsimp only at hSw); go_simp) <;> (try with_reducible rfl))
 (try simp only [Act.put, List.setIfInBounds_toArray, List.set_cons_zero, List.set_cons_succ])
 refine wpAnyH_done (by kernel_rfl) ?_ _
 clear hHeld
 go_wp2
 go_ret
 exact ⟨rfl, Below.call HB0.out (Below.call HBZ.out BC3.out)⟩
end Go.Proofs.Ytacjonncakhhmaa
namespace Go.Proofs.Ytacjonncakhhmaa
open Go.ChangeShapes Go.WideShapes Go.ChangeAt Go.RowKit Go.Deep
theorem own : ownKnob Try.prog.godebug = none := by kernel_rfl
theorem laidOut : laidOutB Try.prog = true := by kernel_rfl
theorem int_fits {n : Int} (h : (Lit.int .i64 n).wf = true) : fits n := by
 have : -9223372036854775808 ≤ n ∧ n ≤ 9223372036854775807 := by simpa [Lit.wf, IntKind.min, IntKind.max, IntKind.signed, IntKind.bits] using h
 exact this
theorem fl_fits {n : Nat} (h : (Lit.float .f64 n).wf = true) : n < 18446744073709551616 := by simpa [Lit.wf] using h
/-- A list that came in, whatever its elements are. -/
theorem Lk.opened {P : Program} {α : Type} {K : Lk P α} {H : Type} {enc : TypeId × Value → H} {w : World} (Q : α → Prop) (hcells : P.cellsOf K.E = K.n)
  (each : ∀ (fuel : Nat) (cs : List Value) (x : DataW H × List MemPlace), DataW.trod enc P w 0 (fun _ => true) true fuel K.E cs = some x → ∃ y : α, cs = K.cells y ∧ K.ok y ∧ Q y)
  {fuel : Nat} {cs : List Value} {x : DataW H × List MemPlace} (h : DataW.trod enc P w 0 (fun _ => true) true fuel K.S cs = some x) :
  ∃ v xs, cs = [v] ∧ K.IsL w w.heap.size v xs ∧ ∀ y ∈ xs, Q y := by
 rcases open_slice K.und h with ⟨rfl, _⟩ | ⟨a, len, cap, m, n, D, Pl, rfl, hb, hl, hm, hmm, rfl, hx⟩
 ·exact ⟨_, [], rfl, IsL.nil _ _ _ _, fun y hy => by simp at hy⟩
 ·rw [if_pos rfl] at hmm
  subst hmm
  have hm' : m ≤ 9223372036854775807 := by unfold maxLen at hm; omega
  rcases Nat.eq_zero_or_pos len with h0 | h0
  ·subst h0
   exact ⟨_, [], rfl, IsL.nil _ _ _ _, fun y hy => by simp at hy⟩
  have hi : Inhabited α := ⟨K.dflt⟩
  obtain ⟨Y, hY⟩ := choose_lt (α := α) (n := len) (p := fun i y => K.ok y ∧ Q y ∧ ∀ j, j < K.n → w.cell? ((a.add (i * K.n)).add j) = (K.cells y)[j]?) (fun i hi => by
   obtain ⟨cs', h1, h2⟩ := hx i (by omega)
   rw [hcells] at h1
   obtain ⟨y, rfl, hy, hq⟩ := each _ _ _ h2
   obtain ⟨_, _, hcell⟩ := World.cells?_some h1
   exact ⟨y, hy, hq, hcell⟩)
  have hpos := K.pos
  obtain ⟨b, off, spot⟩ := a
  have h00 := (hY 0 h0).2.2 0 hpos
  obtain ⟨u0, hu0⟩ : ∃ u, (K.cells (Y 0))[0]? = some u := ⟨_, List.getElem?_eq_getElem (by rw [K.len]; exact hpos)⟩
  rw [hu0] at h00
  have hspot : spot = none := by simpa [Addr.add] using World.cell?_spot h00
  subst hspot
  have hlen : ((List.range len).map Y).length = len := by simp
  refine ⟨_, (List.range len).map Y, rfl, ⟨⟨some ⟨b, off, none⟩, m, by rw [hlen], by rw [hlen]; exact hl, fun _ => ⟨b, off, rfl, ?_, fun i hi j u hu => ?_⟩⟩, fun y hy => ?_, by rw [hlen]; omega⟩, fun y hy => ?_⟩
  ·have e := World.block_lt_of_cell? w _ h00
   simpa [Addr.add] using e
  ·rw [hlen] at hi
   have hj : j < K.n := by
    have := (List.getElem?_eq_some_iff.1 hu).1
    rw [K.len] at this
    exact this
   have e := (hY i hi).2.2 j hj
   rw [add_plain, add_plain] at e
   have hget : ((List.range len).map Y).getD i K.dflt = Y i := by
    rw [List.getD_eq_getElem?_getD, List.getElem?_map, List.getElem?_range hi]
    rfl
   rw [hget] at hu
   rw [← Nat.add_assoc, e, hu]
  ·obtain ⟨i, hi, rfl⟩ := List.mem_map.1 hy
   exact (hY i (List.mem_range.1 hi)).1
  ·obtain ⟨i, hi, rfl⟩ := List.mem_map.1 hy
   exact (hY i (List.mem_range.1 hi)).2.1
theorem trod_float {H : Type} {enc : TypeId × Value → H} {P : Program} {w : World} {base : Nat} {spare : Nat → Bool} {held : Bool} {fuel : Nat} {t : TypeId} {cs : List Value} {x : DataW H × List MemPlace} {k : FloatKind} (ht : P.underlying t = some (.float k)) (h : DataW.trod enc P w base spare held fuel t cs = some x) : ∃ n, cs = [.float k n] ∧ (Lit.float k n).wf = true := by
 cases fuel with
 | zero => simp [DataW.trod] at h
 | succ n =>
  unfold DataW.trod at h
  rw [ht] at h
  split at h <;> simp_all
end Go.Proofs.Ytacjonncakhhmaa

/- Stocks: the law of all that arms do. -/
import Derived.Test.YtacjonncakhhmaaPc36
import Derived.Test.YtacjonncakhhmaaPc37
import Derived.Test.YtacjonncakhhmaaPc38
import Derived.Test.YtacjonncakhhmaaPc17
import Derived.Test.YtacjonncakhhmaaPc22
import Derived.Deep.CutRange
namespace Go.Proofs.Ytacjonncakhhmaa
open Go.RowKit
theorem runs_facts {d : Dk} {a : Ab} (h : rgS d a = true) : fits (Two.sumL (volS a.c)) ∧ Two.sumL (volS a.c) = Go.RowKit.wrap64 (Go.RowKit.wrap64 (a.st + a.inn) - a.out) ∧ a.c.length ≤ 384 ∧ (0 ≤ a.inn ∧ a.inn ≤ 1152921504606846976) ∧ (0 ≤ a.out ∧ a.out ≤ 1152921504606846976) ∧ ∀ m, m < a.c.length → 0 ≤ (a.c.getD m ce0).b ∧ (a.c.getD m ce0).b ≤ capV d m := by
 have P := rg_P d a h
 have hl := newA_len d P.z
 have hw := rw_parts P.w
 have hs := sum_small (rw_all P.w) (by omega)
 have hn := sum_small (new_right d P.z).1 (new_right d P.z).2
 have hst : (newA d).st = Two.sumL (volS (newA d).c) := rfl
 have p1 := P.st
 have p2 := P.s
 have p3 := P.i
 have p4 := P.o
 refine ⟨by unfold fits; omega, ?_, by omega, p3, p4, fun m hm => ?_⟩
 ·rw [← w64, ← w64, wrap_fits (a.st + a.inn) (by unfold fits; omega), wrap_fits _ (by unfold fits; omega)]
  exact p2
 ·obtain ⟨q1, q2, -, -, -⟩ := okW_parts (hw.2.2 m hm)
  rw [cap_new d P.z m (by omega), ← q2]
  unfold Cel.Ce.Right at q1
  omega
theorem flow_wrap {a b c : Int} (h : c = a + b) (hc : 0 ≤ c ∧ c ≤ 1152921504606846976) : Go.RowKit.wrap64 (a + b) = c := by rw [← h]; exact wrap64_fits _ (by unfold fits; omega)
set_option maxRecDepth 100000 in
set_option maxHeartbeats 4000000 in
theorem stockRuns_walk (d : Dk) (v : Value) (l : List Opp) (w : World) (hd : d.In w w.heap.size) (hl : KO.IsL w w.heap.size v l) : Calls Try.prog 5 #[d.v, v] w fun e w' => e = .returned (.bool true) ∧ Below w.heap.size w w' := by
 obtain ⟨lA, lc, rfl, -⟩ := hl.shape
 obtain ⟨w0, hw0⟩ : ∃ w0, w0 = w.alloc (.cells #[.slice d.bA d.bn d.bc, .slice d.pA d.pn d.pc, .slice d.rA d.rn d.rc, .int .i64 d.arms] 26) := ⟨_, rfl⟩
 have HB0 := Lib.hid (show Below w.heap.size w w0 by rw [hw0]; exact Below.al (Below.refl _ _) _)
 have HD0 := Lib.hid (hd.then HB0.out)
 have HL0 := Lib.hid (hl.then HB0.out)
 have hl9 := hl.2.2
 obtain ⟨Gd, hGd⟩ : ∃ Gd, Gd = w.heap.size := ⟨_, rfl⟩
 have HK := Lib.hid (show DkAt w0 Gd d by rw [hw0, hGd]; exact Cells4.new w _ _ _ _ _)
 have HLD := Lib.hid (fun (V : World) (h : Below w0.heap.size w0 V) => large_any d V (HD0.out.then h))
 have HCH := Lib.hid (fun (V : World) (h : Below w0.heap.size w0 V) => rzcheck_any d V (HD0.out.then h))
 have HLV := Lib.hid (fun (V : World) => lives13 V)
 have HNW := Lib.hid (fun (V : World) (h : Below w0.heap.size w0 V) => new_any d V (HD0.out.then h))
 have HRN := Lib.hid (rg_new d)
 have HRG := Lib.hid (fun (s : Stk) w h1 h2 => right_s d s w h1 h2)
 have HOPR := Lib.hid (fun a o h => @op_right d a o h)
 have HRF := Lib.hid (fun a h => @runs_facts d a h)
 have HSM := Lib.hid (fun (t : Stk) (h : t.ab = ab0) w h1 => same_s t stk0 (h.trans rfl) w h1 (stk0_in _ _))
 obtain ⟨z, hz⟩ : ∃ z, zchk d = z := ⟨_, rfl⟩
 rw [hz] at HCH HNW HRN
 generalize largeB d = lb9 at *
 obtain ⟨d0, d1, d2, d3, -⟩ := HK.out
 rw [hw0, hGd] at d0 d1 d2 d3
 clear hd hl hz
 go_enter Try.func5, Try.ntmps5
 go_wp2_with fail
 rw [← hw0]
 try rw [← hGd]
 --CUT1
 clear hw0 hGd d0 d1 d2 d3
 refine (HLD.out w0 (Below.refl _ _)).mono ?_
 rintro e w1 ⟨rfl, hb1⟩
 have HB1 := Lib.hid hb1
 clear hb1
 cases lb9
 case true =>
  go_wp2_with fail
  refine (HLV.out w1).mono ?_
  rintro e w2 ⟨rfl, hb2⟩
  have HB2 := Lib.hid (Below.call HB0.out (Below.call HB1.out hb2))
  clear hb2
  go_wp2
  go_ret
  exact ⟨rfl, HB2.out⟩
 obtain ⟨d0, d1, d2, d3, -⟩ := HK.out.below HB1.out
 go_wp2_with fail
 refine (HCH.out w1 HB1.out).mono ?_
 rintro e w2 ⟨rfl, hb2⟩
 have HB2 := Lib.hid (Below.call HB1.out hb2)
 clear hb2 d0 d1 d2 d3 HB1
 by_cases h0 : z = 0
 case neg =>
  have h0b : (z != 0) = true := by simpa using h0
  clear h0
  go_wp2_with fail
  refine (HLV.out w2).mono ?_
  rintro e w3 ⟨rfl, hb3⟩
  have HB3 := Lib.hid (Below.call HB0.out (Below.call HB2.out hb3))
  clear hb3
  go_wp2
  go_ret
  exact ⟨rfl, HB3.out⟩
 have HRN2 := Lib.hid (HRN.out h0)
 subst h0
 by_cases h60 : 60 < l.length
 ·have h60i : (60 : Int) < l.length := by omega
  clear h60
  go_wp2_with fail
  refine (HLV.out w2).mono ?_
  rintro e w3 ⟨rfl, hb3⟩
  have HB3 := Lib.hid (Below.call HB0.out (Below.call HB2.out hb3))
  clear hb3
  go_wp2
  go_ret
  exact ⟨rfl, HB3.out⟩
 have h60i : ¬ (60 : Int) < l.length := by omega
 obtain ⟨d0, d1, d2, d3, -⟩ := HK.out.below HB2.out
 go_wp2_with fail
 clear d0 d1 d2 d3 h60i h60
 refine (HNW.out w2 HB2.out).mono ?_
 rintro e w3 ⟨s0, rfl, hi3, ha3, hb3⟩
 have ha3 : s0.ab = newA d := by simpa using ha3
 obtain ⟨v3, hv3⟩ : ∃ v3, v3 = w3.alloc (.cells #[.slice s0.cA s0.cl.length s0.cc, .slice s0.lA s0.ll.length s0.lc, .slice s0.tA s0.tl.length s0.tc, .int .i64 s0.st, .int .i64 s0.inn, .int .i64 s0.out] 33) := ⟨_, rfl⟩
 have hba := Below.al hb3 (.cells #[.slice s0.cA s0.cl.length s0.cc, .slice s0.lA s0.ll.length s0.lc, .slice s0.tA s0.tl.length s0.tc, .int .i64 s0.st, .int .i64 s0.inn, .int .i64 s0.out] 33)
 rw [← hv3] at hba
 have HB3 := Lib.hid (show Below w0.heap.size w0 v3 from Below.call HB2.out hba)
 have HI3 := Lib.hid (hi3.then (show Below w3.heap.size w3 v3 by rw [hv3]; exact Below.al (Below.refl _ _) _))
 have HS3 := Lib.hid (show SkAt v3 w3.heap.size s0 by rw [hv3]; exact Cells6.new w3 _ _ _ _ _ _ _)
 have HG5 := Lib.hid (show w0.heap.size ≤ w3.heap.size from Nat.le_trans HB2.out.size hb3.size)
 have HR3 := Lib.hid (show rgS d s0.ab = true by rw [ha3]; exact HRN2.out)
 have HZ3 := Lib.hid (show s0.inn = 0 ∧ s0.out = 0 from ⟨congrArg Ab.inn ha3, congrArg Ab.out ha3⟩)
 clear hi3 ha3 hb3 hba HRN HRN2 HB2
 go_wp2_with fail
 rw [← hv3]
 generalize hG5 : w3.heap.size = G5 at *
 refine (HLV.out v3).mono ?_
 rintro e v4 ⟨rfl, hb4⟩
 have HB4 := Lib.hid (Below.call HB3.out hb4)
 have HI4 := Lib.hid (HI3.out.then hb4)
 have HS4 := Lib.hid (HS3.out.below hb4)
 clear hb4 HB3 HI3 HS3 hv3 hG5
 obtain ⟨a0, a1, a2, a3, a4, a5, -⟩ := HS4.out
 obtain ⟨F, hF⟩ : ∃ F, s0.st = F := ⟨_, rfl⟩
 rw [hF] at a3
 have HFF := Lib.hid hF
 clear hF
 go_wp2_with fail
 --CUT2
 clear a0 a1 a2 a3 a4 a5
 go_loopw [8, 9, 10] (fun vi vo i wr => ∃ (k : Nat) (s : Stk), i = .int .i64 k ∧ k ≤ l.length ∧ vi = .int .i64 s.inn ∧ vo = .int .i64 s.out ∧ Hid (SkAt wr G5 s) ∧ Hid (s.In wr wr.heap.size) ∧ Hid (rgS d s.ab = true ∧ s.st = F) ∧ Hid (Below w0.heap.size w0 wr)) (fun _ _ i _ => l.length - (intOf i).toNat)
 case atStart => exact ⟨0, s0, rfl, Nat.zero_le _, by rw [HZ3.out.1], by rw [HZ3.out.2], HS4, HI4, Lib.hid ⟨HR3.out, HFF.out⟩, HB4⟩
 case round =>
  clear HS4 HI4 HR3 HFF HZ3 HB4
  obtain ⟨k, s, rfl, hk, rfl, rfl, hsk, hsi, hrf, hb⟩ := hrel
  have HSK := Lib.hid hsk.out
  have HSI := Lib.hid hsi.out
  have HRS := Lib.hid hrf.out.1
  have HSF := Lib.hid hrf.out.2
  have HBR := Lib.hid hb.out
  clear hsk hsi hrf hb
  by_cases hlt : k < l.length
  ·obtain ⟨lb, lo, rfl, hlb, hlc, hcell⟩ := op_cells (HL0.out.then HBR.out) (by omega)
   obtain ⟨e0, e1, e2, e3, e4⟩ := hcell k hlt
   have HOF := Lib.hid (HL0.out.2.1 _ (getD_mem' l k op0 hlt))
   have HLC := Lib.hid (show ∀ W, Below w0.heap.size w0 W → W.cell? ⟨lb, lo + k * 5, none⟩ = some (.int .i64 (l.getD k op0).k) ∧ W.cell? ⟨lb, lo + k * 5 + 4, none⟩ = some (.int .i64 (l.getD k op0).n) from fun W h => by
    obtain ⟨b', o', e, -, -, hc⟩ := op_cells (HL0.out.then h) (by omega)
    simp only [Option.some.injEq, Addr.mk.injEq, and_true] at e
    obtain ⟨rfl, rfl⟩ := e
    obtain ⟨q0, -, -, -, q4⟩ := hc k hlt
    exact ⟨q0, q4⟩)
   clear hcell
   generalize l.getD k op0 = o at *
   have HDO := Lib.hid (fun w h1 h2 => does_any d s o w h1 h2 HOF.out)
   have HPR := Lib.hid (HOPR.out s.ab o)
   generalize cgE d s.ab o.w (opE d s.ab o) = E at *
   generalize opA s.ab o = dA at *
   obtain ⟨ok, ow, oa, ob, on⟩ := o
   try dsimp only at e0 e1 e2 e3 e4 HLC HDO HPR
   have HS10 := Lib.hid (show ∀ W, Below wr.heap.size wr W → W.cell? ⟨Gd, 0, none⟩ = some (Value.slice d.bA d.bn d.bc) ∧ W.cell? ⟨Gd, 1, none⟩ = some (Value.slice d.pA d.pn d.pc) ∧ W.cell? ⟨Gd, 2, none⟩ = some (Value.slice d.rA d.rn d.rc) ∧ W.cell? ⟨Gd, 3, none⟩ = some (.int .i64 d.arms) ∧ W.cell? ⟨G5, 0, none⟩ = some (Value.slice s.cA s.cl.length s.cc) ∧ W.cell? ⟨G5, 1, none⟩ = some (Value.slice s.lA s.ll.length s.lc) ∧ W.cell? ⟨G5, 2, none⟩ = some (Value.slice s.tA s.tl.length s.tc) ∧ W.cell? ⟨G5, 3, none⟩ = some (.int .i64 s.st) ∧ W.cell? ⟨G5, 4, none⟩ = some (.int .i64 s.inn) ∧ W.cell? ⟨G5, 5, none⟩ = some (.int .i64 s.out) ∧ W.cell? ⟨lb, lo + k * 5, none⟩ = some (.int .i64 ok) ∧ W.cell? ⟨lb, lo + k * 5 + 1, none⟩ = some (.int .i64 ow) ∧ W.cell? ⟨lb, lo + k * 5 + 2, none⟩ = some (.int .i64 oa) ∧ W.cell? ⟨lb, lo + k * 5 + 3, none⟩ = some (.int .i64 ob) ∧ W.cell? ⟨lb, lo + k * 5 + 4, none⟩ = some (.int .i64 on) from fun W h => by
    obtain ⟨d0, d1, d2, d3, -⟩ := HK.out.below (HBR.out.trans (h.mono HBR.out.size))
    obtain ⟨a0, a1, a2, a3, a4, a5, -⟩ := HSK.out.below h
    exact ⟨d0, d1, d2, d3, a0, a1, a2, a3, a4, a5, keep_cell h e0, keep_cell h e1, keep_cell h e2, keep_cell h e3, keep_cell h e4⟩)
   have hki : (k : Int) < l.length := by omega
   go_upto_region 10 with fail
   clear e0 e1 e2 e3 e4
   --CUT3
   go_cut [11, 12] from 42 to 138 (fun t11 t12 wx => ∃ (t : Stk) (Gn : Nat), t11 = .pointer (some ⟨Gn, 0, none⟩) ∧ t12 = .int .i64 E ∧ Hid (SkAt wx Gn t) ∧ Hid (t.In wx wx.heap.size) ∧ Hid (t.ab = (if E = 0 then dA else ab0)) ∧ Hid (Below wr.heap.size wr wx) ∧ Hid (t.Far wr.heap.size))
   case first =>
    clear HLC HPR HRF HRG HSM HLV HLD HCH HNW HSF HRS
    refine wp_region_held_drew (S := fun w' => w'.cell? ⟨Gd, 0, none⟩ = some (Value.slice d.bA d.bn d.bc) ∧ w'.cell? ⟨Gd, 1, none⟩ = some (Value.slice d.pA d.pn d.pc) ∧ w'.cell? ⟨Gd, 2, none⟩ = some (Value.slice d.rA d.rn d.rc) ∧ w'.cell? ⟨Gd, 3, none⟩ = some (.int .i64 d.arms) ∧ w'.cell? ⟨G5, 0, none⟩ = some (Value.slice s.cA s.cl.length s.cc) ∧ w'.cell? ⟨G5, 1, none⟩ = some (Value.slice s.lA s.ll.length s.lc) ∧ w'.cell? ⟨G5, 2, none⟩ = some (Value.slice s.tA s.tl.length s.tc) ∧ w'.cell? ⟨G5, 3, none⟩ = some (.int .i64 s.st) ∧ w'.cell? ⟨G5, 4, none⟩ = some (.int .i64 s.inn) ∧ w'.cell? ⟨G5, 5, none⟩ = some (.int .i64 s.out) ∧ w'.cell? ⟨lb, lo + k * 5, none⟩ = some (.int .i64 ok) ∧ w'.cell? ⟨lb, lo + k * 5 + 1, none⟩ = some (.int .i64 ow) ∧ w'.cell? ⟨lb, lo + k * 5 + 2, none⟩ = some (.int .i64 oa) ∧ w'.cell? ⟨lb, lo + k * 5 + 3, none⟩ = some (.int .i64 ob) ∧ w'.cell? ⟨lb, lo + k * 5 + 4, none⟩ = some (.int .i64 on)) (by kernel_rfl) ?_ (fun hHeld => ?_)
    ·exact HS10.out _ (Below.refl _ _).drew
    have BB0 := Lib.hid (show Below wr.heap.size wr wr.drew from (Below.refl _ _).drew)
    generalize wr.drew = p0 at *
    refine wpAnyH_take (i := 0) (oi := ⟨some 49, _, _, _, _, _⟩) (v := ?_) rfl (by kernel_rfl) (by kernel_rfl) (by kernel_rfl) (fun _ _ _ h => h) (Or.inl ⟨by kernel_rfl, ?_⟩) (by assumption) ?_
    rotate_left 1
    ·((intro w hSw; (try dsimp only at hSw); go_simp) <;> (try with_reducible rfl))
    (try simp only [Act.put, List.setIfInBounds_toArray, List.set_cons_zero, List.set_cons_succ])
    refine wpAnyH_take (i := 1) (oi := ⟨some 50, _, _, _, _, _⟩) (v := ?_) rfl (by kernel_rfl) (by kernel_rfl) (by kernel_rfl) (fun _ _ _ h => h) (Or.inl ⟨by kernel_rfl, ?_⟩) (by assumption) ?_
    rotate_left 1
    ·((intro w hSw; (try dsimp only at hSw); go_simp) <;> (try with_reducible rfl))
    (try simp only [Act.put, List.setIfInBounds_toArray, List.set_cons_zero, List.set_cons_succ])
    refine wpAnyH_take (i := 2) (oi := ⟨some 51, _, _, _, _, _⟩) (v := ?_) rfl (by kernel_rfl) (by kernel_rfl) (by kernel_rfl) (fun _ _ _ h => h) (Or.inl ⟨by kernel_rfl, ?_⟩) (by assumption) ?_
    rotate_left 1
    ·((intro w hSw; (try dsimp only at hSw); go_simp) <;> (try with_reducible rfl))
    (try simp only [Act.put, List.setIfInBounds_toArray, List.set_cons_zero, List.set_cons_succ])
    refine wpAnyH_take (i := 3) (oi := ⟨some 52, _, _, _, _, _⟩) (v := ?_) rfl (by kernel_rfl) (by kernel_rfl) (by kernel_rfl) (fun _ _ _ h => h) (Or.inl ⟨by kernel_rfl, ?_⟩) (by assumption) ?_
    rotate_left 1
    ·((intro w hSw; (try dsimp only at hSw); go_simp) <;> (try with_reducible rfl))
    (try simp only [Act.put, List.setIfInBounds_toArray, List.set_cons_zero, List.set_cons_succ])
    refine wpAnyH_take (i := 4) (oi := ⟨some 53, _, _, _, _, _⟩) (v := ?_) rfl (by kernel_rfl) (by kernel_rfl) (by kernel_rfl) (fun _ _ _ h => h) (Or.inl ⟨by kernel_rfl, ?_⟩) (by assumption) ?_
    rotate_left 1
    ·((intro w hSw; (try dsimp only at hSw); go_simp) <;> (try with_reducible rfl))
    (try simp only [Act.put, List.setIfInBounds_toArray, List.set_cons_zero, List.set_cons_succ])
    refine wpAnyH_take (i := 5) (oi := ⟨some 54, _, _, _, _, _⟩) (v := ?_) rfl (by kernel_rfl) (by kernel_rfl) (by kernel_rfl) (fun _ _ _ h => h) (Or.inl ⟨by kernel_rfl, ?_⟩) (by assumption) ?_
    rotate_left 1
    ·((intro w hSw; (try dsimp only at hSw); go_simp) <;> (try with_reducible rfl))
    (try simp only [Act.put, List.setIfInBounds_toArray, List.set_cons_zero, List.set_cons_succ])
    refine wpAnyH_ready (rs := [6, 10]) (by kernel_rfl) (by simp) ?_
    refine AllReadyH.cons (o := ⟨some 55, _, _, _, _, _⟩) rfl (fun K hK => ?_) ?_
    ·go_simp
     refine (HDO.out _ (HD0.out.then (HBR.out.trans (BB0.out.mono HBR.out.size))) (HSI.out.then BB0.out)).mono ?_
     rintro e p1 ⟨t, rfl, ht, hab, hb, hfar⟩
     have BB1 := Lib.hid (BB0.out.trans (hb.mono BB0.out.size))
     have HTA := Lib.hid hab
     have HTF := Lib.hid (hfar.less BB0.out.size)
     have HTI := Lib.hid ht
     clear hb hab hfar ht hHeld BB0
     go_wp2_with fail
     refine hK.out _ _ (HS10.out _ BB1.out) (fun hHeld => ?_)
     clear hK K
     (try simp only [Act.put, List.setIfInBounds_toArray, List.set_cons_zero, List.set_cons_succ])
     refine wpAnyH_take (i := 7) (oi := ⟨some 48, _, _, _, _, _⟩) (v := ?_) rfl (by kernel_rfl) (by kernel_rfl) (by kernel_rfl) (fun _ _ _ h => h) (Or.inl ⟨by kernel_rfl, ?_⟩) (by assumption) ?_
     rotate_left 1
     ·((intro w hSw; (try dsimp only at hSw); go_simp) <;> (try with_reducible rfl))
     (try simp only [Act.put, List.setIfInBounds_toArray, List.set_cons_zero, List.set_cons_succ])
     refine wpAnyH_take (i := 8) (oi := ⟨some 56, _, _, _, _, _⟩) (v := ?_) rfl (by kernel_rfl) (by kernel_rfl) (by kernel_rfl) (fun _ _ _ h => h) (Or.inl ⟨by kernel_rfl, ?_⟩) (by assumption) ?_
     rotate_left 1
     ·((intro w hSw; (try dsimp only at hSw); go_simp) <;> (try with_reducible rfl))
     (try simp only [Act.put, List.setIfInBounds_toArray, List.set_cons_zero, List.set_cons_succ])
     refine wpAnyH_take (i := 9) (oi := ⟨some 57, _, _, _, _, _⟩) (v := ?_) rfl (by kernel_rfl) (by kernel_rfl) (by kernel_rfl) (fun _ _ _ h => h) (Or.inl ⟨by kernel_rfl, ?_⟩) (by assumption) ?_
     rotate_left 1
     ·((intro w hSw; (try dsimp only at hSw); go_simp) <;> (try with_reducible rfl))
     (try simp only [Act.put, List.setIfInBounds_toArray, List.set_cons_zero, List.set_cons_succ])
     refine wpAnyH_ready (rs := [10]) (by kernel_rfl) (by simp) ?_
     refine AllReadyH.cons (o := ⟨some 11, _, _, _, _, _⟩) rfl (fun K hK => ?_) AllReadyH.nil
     go_simp
     have hb := Below.al (Below.refl _ p1) (.cells #[.slice none 0 0, .slice none 0 0, .slice none 0 0, .int .i64 0, .int .i64 0, .int .i64 0] 33)
     have BB2 := Lib.hid (BB1.out.trans (hb.mono BB1.out.size))
     have HC2 := Lib.hid (Cells6.new p1 33 (.slice none 0 0) (.slice none 0 0) (.slice none 0 0) (.int .i64 0) (.int .i64 0) (.int .i64 0))
     have HGN := Lib.hid (show wr.heap.size ≤ p1.heap.size from BB1.out.size)
     have HBB := Lib.hid (show Below p1.heap.size p1 (p1.alloc (.cells #[.slice none 0 0, .slice none 0 0, .slice none 0 0, .int .i64 0, .int .i64 0, .int .i64 0] 33)) from hb)
     clear hb hHeld BB1
     generalize p1.alloc (.cells #[.slice none 0 0, .slice none 0 0, .slice none 0 0, .int .i64 0, .int .i64 0, .int .i64 0] 33) = p2 at *
     generalize p1.heap.size = Gn at *
     refine hK.out _ _ (HS10.out _ BB2.out) (fun hHeld => ?_)
     clear hK K
     (try simp only [Act.put, List.setIfInBounds_toArray, List.set_cons_zero, List.set_cons_succ])
     refine wpAnyH_ready (rs := [11]) (by kernel_rfl) (by simp) ?_
     refine AllReadyH.cons (o := ⟨none, _, _, _, _, _⟩) rfl (fun K hK => ?_) AllReadyH.nil
     obtain ⟨s0, s1, s2, s3, s4, s5, y0, y1, y2, y3, y4, y5, sl⟩ := HC2.out
     go_simp
     clear s0 s1 s2 s3 s4 s5 y0 y1 y2 y3 y4 y5 sl
     have BB3 := Lib.hid (show Below wr.heap.size wr ((((((p2.setCell ⟨Gn, 0, none⟩ (.slice t.cA t.cl.length t.cc)).setCell ⟨Gn, 1, none⟩ (.slice t.lA t.ll.length t.lc)).setCell ⟨Gn, 2, none⟩ (.slice t.tA t.tl.length t.tc)).setCell ⟨Gn, 3, none⟩ (.int .i64 t.st)).setCell ⟨Gn, 4, none⟩ (.int .i64 t.inn)).setCell ⟨Gn, 5, none⟩ (.int .i64 t.out)) from below_set6 BB2.out HGN.out (.slice t.cA t.cl.length t.cc) (.slice t.lA t.ll.length t.lc) (.slice t.tA t.tl.length t.tc) (.int .i64 t.st) (.int .i64 t.inn) (.int .i64 t.out))
     have HC3 := Lib.hid (show SkAt ((((((p2.setCell ⟨Gn, 0, none⟩ (.slice t.cA t.cl.length t.cc)).setCell ⟨Gn, 1, none⟩ (.slice t.lA t.ll.length t.lc)).setCell ⟨Gn, 2, none⟩ (.slice t.tA t.tl.length t.tc)).setCell ⟨Gn, 3, none⟩ (.int .i64 t.st)).setCell ⟨Gn, 4, none⟩ (.int .i64 t.inn)).setCell ⟨Gn, 5, none⟩ (.int .i64 t.out)) Gn t from HC2.out.set (.slice t.cA t.cl.length t.cc) (.slice t.lA t.ll.length t.lc) (.slice t.tA t.tl.length t.tc) (.int .i64 t.st) (.int .i64 t.inn) (.int .i64 t.out))
     have HI3 := Lib.hid (show t.In ((((((p2.setCell ⟨Gn, 0, none⟩ (.slice t.cA t.cl.length t.cc)).setCell ⟨Gn, 1, none⟩ (.slice t.lA t.ll.length t.lc)).setCell ⟨Gn, 2, none⟩ (.slice t.tA t.tl.length t.tc)).setCell ⟨Gn, 3, none⟩ (.int .i64 t.st)).setCell ⟨Gn, 4, none⟩ (.int .i64 t.inn)).setCell ⟨Gn, 5, none⟩ (.int .i64 t.out)) ((((((p2.setCell ⟨Gn, 0, none⟩ (.slice t.cA t.cl.length t.cc)).setCell ⟨Gn, 1, none⟩ (.slice t.lA t.ll.length t.lc)).setCell ⟨Gn, 2, none⟩ (.slice t.tA t.tl.length t.tc)).setCell ⟨Gn, 3, none⟩ (.int .i64 t.st)).setCell ⟨Gn, 4, none⟩ (.int .i64 t.inn)).setCell ⟨Gn, 5, none⟩ (.int .i64 t.out)).heap.size from (HTI.out.below (below_set6 HBB.out (Nat.le_refl _) (.slice t.cA t.cl.length t.cc) (.slice t.lA t.ll.length t.lc) (.slice t.tA t.tl.length t.tc) (.int .i64 t.st) (.int .i64 t.inn) (.int .i64 t.out))).more (by have h9 : Gn < p2.heap.size := World.block_lt_of_cell? _ _ HC2.out.1; simp; omega))
     clear HBB
     clear hHeld BB2 HC2
     generalize (((((p2.setCell ⟨Gn, 0, none⟩ (.slice t.cA t.cl.length t.cc)).setCell ⟨Gn, 1, none⟩ (.slice t.lA t.ll.length t.lc)).setCell ⟨Gn, 2, none⟩ (.slice t.tA t.tl.length t.tc)).setCell ⟨Gn, 3, none⟩ (.int .i64 t.st)).setCell ⟨Gn, 4, none⟩ (.int .i64 t.inn)).setCell ⟨Gn, 5, none⟩ (.int .i64 t.out) = p3 at *
     refine hK.out _ _ (HS10.out _ BB3.out) (fun hHeld => ?_)
     clear hK K
     (try simp only [Act.put, List.setIfInBounds_toArray, List.set_cons_zero, List.set_cons_succ])
     refine wpAnyH_take (i := 12) (oi := ⟨some 12, _, _, _, _, _⟩) (v := ?_) rfl (by kernel_rfl) (by kernel_rfl) (by kernel_rfl) (fun _ _ _ h => h) (Or.inl ⟨by kernel_rfl, ?_⟩) (by assumption) ?_
     rotate_left 1
     ·((intro w hSw; (try dsimp only at hSw); go_simp) <;> (try with_reducible rfl))
     (try simp only [Act.put, List.setIfInBounds_toArray, List.set_cons_zero, List.set_cons_succ])
     refine wpAnyH_done (by kernel_rfl) ?_ _
     go_wp2
     go_meet
     exact ⟨t, Gn, rfl, rfl, HC3, HI3, HTA, BB3, HTF⟩
    refine AllReadyH.cons (o := ⟨some 11, _, _, _, _, _⟩) rfl (fun K hK => ?_) AllReadyH.nil
    go_simp
    have hb := Below.al (Below.refl _ p0) (.cells #[.slice none 0 0, .slice none 0 0, .slice none 0 0, .int .i64 0, .int .i64 0, .int .i64 0] 33)
    have BB1 := Lib.hid (BB0.out.trans (hb.mono BB0.out.size))
    have HC1 := Lib.hid (Cells6.new p0 33 (.slice none 0 0) (.slice none 0 0) (.slice none 0 0) (.int .i64 0) (.int .i64 0) (.int .i64 0))
    have HGN := Lib.hid (show wr.heap.size ≤ p0.heap.size from BB0.out.size)
    have HGL := Lib.hid (show p0.heap.size < (p0.alloc (.cells #[.slice none 0 0, .slice none 0 0, .slice none 0 0, .int .i64 0, .int .i64 0, .int .i64 0] 33)).heap.size by simp)
    clear hb hHeld BB0
    generalize p0.alloc (.cells #[.slice none 0 0, .slice none 0 0, .slice none 0 0, .int .i64 0, .int .i64 0, .int .i64 0] 33) = p1 at *
    generalize p0.heap.size = Gn at *
    refine hK.out _ _ (HS10.out _ BB1.out) (fun hHeld => ?_)
    clear hK K
    (try simp only [Act.put, List.setIfInBounds_toArray, List.set_cons_zero, List.set_cons_succ])
    refine wpAnyH_ready (rs := [6]) (by kernel_rfl) (by simp) ?_
    refine AllReadyH.cons (o := ⟨some 55, _, _, _, _, _⟩) rfl (fun K hK => ?_) AllReadyH.nil
    go_simp
    refine (HDO.out _ (HD0.out.then (HBR.out.trans (BB1.out.mono HBR.out.size))) (HSI.out.then BB1.out)).mono ?_
    rintro e p2 ⟨t, rfl, ht, hab, hb, hfar⟩
    have BB2 := Lib.hid (BB1.out.trans (hb.mono BB1.out.size))
    have HC2 := Lib.hid (HC1.out.below hb)
    have HTA := Lib.hid hab
    have HFG := Lib.hid hfar
    have HTF := Lib.hid (hfar.less BB1.out.size)
    have HTI := Lib.hid ht
    clear hb hab hfar ht hHeld BB1 HC1
    go_wp2_with fail
    refine hK.out _ _ (HS10.out _ BB2.out) (fun hHeld => ?_)
    clear hK K
    (try simp only [Act.put, List.setIfInBounds_toArray, List.set_cons_zero, List.set_cons_succ])
    refine wpAnyH_take (i := 7) (oi := ⟨some 48, _, _, _, _, _⟩) (v := ?_) rfl (by kernel_rfl) (by kernel_rfl) (by kernel_rfl) (fun _ _ _ h => h) (Or.inl ⟨by kernel_rfl, ?_⟩) (by assumption) ?_
    rotate_left 1
    ·((intro w hSw; (try dsimp only at hSw); go_simp) <;> (try with_reducible rfl))
    (try simp only [Act.put, List.setIfInBounds_toArray, List.set_cons_zero, List.set_cons_succ])
    refine wpAnyH_take (i := 8) (oi := ⟨some 56, _, _, _, _, _⟩) (v := ?_) rfl (by kernel_rfl) (by kernel_rfl) (by kernel_rfl) (fun _ _ _ h => h) (Or.inl ⟨by kernel_rfl, ?_⟩) (by assumption) ?_
    rotate_left 1
    ·((intro w hSw; (try dsimp only at hSw); go_simp) <;> (try with_reducible rfl))
    (try simp only [Act.put, List.setIfInBounds_toArray, List.set_cons_zero, List.set_cons_succ])
    refine wpAnyH_take (i := 9) (oi := ⟨some 57, _, _, _, _, _⟩) (v := ?_) rfl (by kernel_rfl) (by kernel_rfl) (by kernel_rfl) (fun _ _ _ h => h) (Or.inl ⟨by kernel_rfl, ?_⟩) (by assumption) ?_
    rotate_left 1
    ·((intro w hSw; (try dsimp only at hSw); go_simp) <;> (try with_reducible rfl))
    (try simp only [Act.put, List.setIfInBounds_toArray, List.set_cons_zero, List.set_cons_succ])
    refine wpAnyH_ready (rs := [11]) (by kernel_rfl) (by simp) ?_
    refine AllReadyH.cons (o := ⟨none, _, _, _, _, _⟩) rfl (fun K hK => ?_) AllReadyH.nil
    obtain ⟨s0, s1, s2, s3, s4, s5, y0, y1, y2, y3, y4, y5, sl⟩ := HC2.out
    go_simp
    clear s0 s1 s2 s3 s4 s5 y0 y1 y2 y3 y4 y5 sl
    have BB3 := Lib.hid (show Below wr.heap.size wr ((((((p2.setCell ⟨Gn, 0, none⟩ (.slice t.cA t.cl.length t.cc)).setCell ⟨Gn, 1, none⟩ (.slice t.lA t.ll.length t.lc)).setCell ⟨Gn, 2, none⟩ (.slice t.tA t.tl.length t.tc)).setCell ⟨Gn, 3, none⟩ (.int .i64 t.st)).setCell ⟨Gn, 4, none⟩ (.int .i64 t.inn)).setCell ⟨Gn, 5, none⟩ (.int .i64 t.out)) from below_set6 BB2.out HGN.out (.slice t.cA t.cl.length t.cc) (.slice t.lA t.ll.length t.lc) (.slice t.tA t.tl.length t.tc) (.int .i64 t.st) (.int .i64 t.inn) (.int .i64 t.out))
    have HC3 := Lib.hid (show SkAt ((((((p2.setCell ⟨Gn, 0, none⟩ (.slice t.cA t.cl.length t.cc)).setCell ⟨Gn, 1, none⟩ (.slice t.lA t.ll.length t.lc)).setCell ⟨Gn, 2, none⟩ (.slice t.tA t.tl.length t.tc)).setCell ⟨Gn, 3, none⟩ (.int .i64 t.st)).setCell ⟨Gn, 4, none⟩ (.int .i64 t.inn)).setCell ⟨Gn, 5, none⟩ (.int .i64 t.out)) Gn t from HC2.out.set (.slice t.cA t.cl.length t.cc) (.slice t.lA t.ll.length t.lc) (.slice t.tA t.tl.length t.tc) (.int .i64 t.st) (.int .i64 t.inn) (.int .i64 t.out))
    have HI3 := Lib.hid (show t.In ((((((p2.setCell ⟨Gn, 0, none⟩ (.slice t.cA t.cl.length t.cc)).setCell ⟨Gn, 1, none⟩ (.slice t.lA t.ll.length t.lc)).setCell ⟨Gn, 2, none⟩ (.slice t.tA t.tl.length t.tc)).setCell ⟨Gn, 3, none⟩ (.int .i64 t.st)).setCell ⟨Gn, 4, none⟩ (.int .i64 t.inn)).setCell ⟨Gn, 5, none⟩ (.int .i64 t.out)) ((((((p2.setCell ⟨Gn, 0, none⟩ (.slice t.cA t.cl.length t.cc)).setCell ⟨Gn, 1, none⟩ (.slice t.lA t.ll.length t.lc)).setCell ⟨Gn, 2, none⟩ (.slice t.tA t.tl.length t.tc)).setCell ⟨Gn, 3, none⟩ (.int .i64 t.st)).setCell ⟨Gn, 4, none⟩ (.int .i64 t.inn)).setCell ⟨Gn, 5, none⟩ (.int .i64 t.out)).heap.size from by have h := HTI.out.set6 HFG.out HGL.out (.slice t.cA t.cl.length t.cc) (.slice t.lA t.ll.length t.lc) (.slice t.tA t.tl.length t.tc) (.int .i64 t.st) (.int .i64 t.inn) (.int .i64 t.out); simpa using h)
    clear HFG HGL HTI
    clear hHeld BB2 HC2
    generalize (((((p2.setCell ⟨Gn, 0, none⟩ (.slice t.cA t.cl.length t.cc)).setCell ⟨Gn, 1, none⟩ (.slice t.lA t.ll.length t.lc)).setCell ⟨Gn, 2, none⟩ (.slice t.tA t.tl.length t.tc)).setCell ⟨Gn, 3, none⟩ (.int .i64 t.st)).setCell ⟨Gn, 4, none⟩ (.int .i64 t.inn)).setCell ⟨Gn, 5, none⟩ (.int .i64 t.out) = p3 at *
    refine hK.out _ _ (HS10.out _ BB3.out) (fun hHeld => ?_)
    clear hK K
    (try simp only [Act.put, List.setIfInBounds_toArray, List.set_cons_zero, List.set_cons_succ])
    refine wpAnyH_take (i := 12) (oi := ⟨some 12, _, _, _, _, _⟩) (v := ?_) rfl (by kernel_rfl) (by kernel_rfl) (by kernel_rfl) (fun _ _ _ h => h) (Or.inl ⟨by kernel_rfl, ?_⟩) (by assumption) ?_
    rotate_left 1
    ·((intro w hSw; (try dsimp only at hSw); go_simp) <;> (try with_reducible rfl))
    (try simp only [Act.put, List.setIfInBounds_toArray, List.set_cons_zero, List.set_cons_succ])
    refine wpAnyH_done (by kernel_rfl) ?_ _
    go_wp2
    go_meet
    exact ⟨t, Gn, rfl, rfl, HC3, HI3, HTA, BB3, HTF⟩
   case rest =>
    obtain ⟨t, Gn, rfl, rfl, HTK, HTI, HTA, HBW, HTF⟩ := hcut
    clear HS10 HDO
    have HBC := Lib.hid (show Below w0.heap.size w0 wc from HBR.out.trans (HBW.out.mono HBR.out.size))
    obtain ⟨a0, a1, a2, a3, a4, a5, -⟩ := HTK.out
    --CUT4
    by_cases hE : E = 0
    case neg =>
     have hEb : (E != 0) = true := by simpa using hE
     have HTZ := Lib.hid (HTA.out.trans (if_neg hE))
     have HSK2 := Lib.hid (HSK.out.below HBW.out)
     have HSI2 := Lib.hid (HSI.out.then HBW.out)
     clear hE
     go_wp2_with fail
     refine (HSM.out t HTZ.out wc HTI.out).mono ?_
     rintro e w6 ⟨rfl, hb6⟩
     have HB6 := Lib.hid (show Below w0.heap.size w0 w6 from HBC.out.trans (hb6.mono HBC.out.size))
     have HSK6 := Lib.hid (HSK2.out.below hb6)
     have HSI6 := Lib.hid (HSI2.out.then hb6)
     clear hb6 a0 a1 a2 a3 a4 a5
     go_wp2
     go_roundw
     case rel => exact ⟨k + 1, s, num_i (by omega), by omega, rfl, rfl, Lib.hid HSK6.out, Lib.hid HSI6.out, Lib.hid ⟨HRS.out, HSF.out⟩, Lib.hid HB6.out⟩
     case measure => simp [intOf]; omega
    obtain ⟨p1, p2, p3, p4⟩ := HPR.out hE
    have HTZ := Lib.hid (HTA.out.trans (if_pos hE))
    rw [← HTZ.out] at p1 p2 p3 p4
    have HRT := Lib.hid p1
    have HTS := Lib.hid (show t.st = F from (show t.st = s.st from p2).trans HSF.out)
    have HIN := Lib.hid (show t.inn = (if ok = 1 then s.inn + on else s.inn) from p3)
    have HOU := Lib.hid (show t.out = (if ok = 2 then s.out + on else s.out) from p4)
    have HFA := Lib.hid (HRF.out t.ab p1)
    have hG5w : G5 < wr.heap.size := World.block_lt_of_cell? _ _ HSK.out.1
    have HSK2 := Lib.hid (HSK.out.below HBW.out)
    obtain ⟨c0, c1, c2, c3, c4, c5, z0, z1, z2, z3, z4, z5, -⟩ := HSK2.out
    subst hE
    clear p1 p2 p3 p4 HPR HTA HTZ
    go_upto_region 15 with fail
    --CUT5
    clear a0 a1 a2 a3 a4 a5 c0 c1 c2 c3 c4 c5 z0 z1 z2 z3 z4 z5
    have HB7 := Lib.hid (show Below w0.heap.size w0 ((((((wc.setCell ⟨G5, 0, none⟩ (.slice t.cA t.cl.length t.cc)).setCell ⟨G5, 1, none⟩ (.slice t.lA t.ll.length t.lc)).setCell ⟨G5, 2, none⟩ (.slice t.tA t.tl.length t.tc)).setCell ⟨G5, 3, none⟩ (.int .i64 t.st)).setCell ⟨G5, 4, none⟩ (.int .i64 t.inn)).setCell ⟨G5, 5, none⟩ (.int .i64 t.out)) from below_set6 HBC.out HG5.out (.slice t.cA t.cl.length t.cc) (.slice t.lA t.ll.length t.lc) (.slice t.tA t.tl.length t.tc) (.int .i64 t.st) (.int .i64 t.inn) (.int .i64 t.out))
    have HSK7 := Lib.hid (show SkAt ((((((wc.setCell ⟨G5, 0, none⟩ (.slice t.cA t.cl.length t.cc)).setCell ⟨G5, 1, none⟩ (.slice t.lA t.ll.length t.lc)).setCell ⟨G5, 2, none⟩ (.slice t.tA t.tl.length t.tc)).setCell ⟨G5, 3, none⟩ (.int .i64 t.st)).setCell ⟨G5, 4, none⟩ (.int .i64 t.inn)).setCell ⟨G5, 5, none⟩ (.int .i64 t.out)) G5 t from HSK2.out.set (.slice t.cA t.cl.length t.cc) (.slice t.lA t.ll.length t.lc) (.slice t.tA t.tl.length t.tc) (.int .i64 t.st) (.int .i64 t.inn) (.int .i64 t.out))
    have HTI7 := Lib.hid (show t.In ((((((wc.setCell ⟨G5, 0, none⟩ (.slice t.cA t.cl.length t.cc)).setCell ⟨G5, 1, none⟩ (.slice t.lA t.ll.length t.lc)).setCell ⟨G5, 2, none⟩ (.slice t.tA t.tl.length t.tc)).setCell ⟨G5, 3, none⟩ (.int .i64 t.st)).setCell ⟨G5, 4, none⟩ (.int .i64 t.inn)).setCell ⟨G5, 5, none⟩ (.int .i64 t.out)) ((((((wc.setCell ⟨G5, 0, none⟩ (.slice t.cA t.cl.length t.cc)).setCell ⟨G5, 1, none⟩ (.slice t.lA t.ll.length t.lc)).setCell ⟨G5, 2, none⟩ (.slice t.tA t.tl.length t.tc)).setCell ⟨G5, 3, none⟩ (.int .i64 t.st)).setCell ⟨G5, 4, none⟩ (.int .i64 t.inn)).setCell ⟨G5, 5, none⟩ (.int .i64 t.out)).heap.size from by have h := HTI.out.set6 HTF.out hG5w (.slice t.cA t.cl.length t.cc) (.slice t.lA t.ll.length t.lc) (.slice t.tA t.tl.length t.tc) (.int .i64 t.st) (.int .i64 t.inn) (.int .i64 t.out); simpa using h)
    clear HSK2 HTI HTF HBC hG5w HSK HSI HTK HBW
    generalize (((((wc.setCell ⟨G5, 0, none⟩ (.slice t.cA t.cl.length t.cc)).setCell ⟨G5, 1, none⟩ (.slice t.lA t.ll.length t.lc)).setCell ⟨G5, 2, none⟩ (.slice t.tA t.tl.length t.tc)).setCell ⟨G5, 3, none⟩ (.int .i64 t.st)).setCell ⟨G5, 4, none⟩ (.int .i64 t.inn)).setCell ⟨G5, 5, none⟩ (.int .i64 t.out) = w7 at *
    obtain ⟨u0, u4⟩ := HLC.out w7 HB7.out
    have hk1 : True := trivial
    have HWI := Lib.hid (fun (k1 : ok = 1) => flow_wrap (show t.inn = s.inn + on by rw [HIN.out, if_pos k1]) HFA.out.2.2.2.1)
    have HWO := Lib.hid (fun (k2 : ok = 2) => flow_wrap (show t.out = s.out + on by rw [HOU.out, if_pos k2]) HFA.out.2.2.2.2.1)
    --CUT6
    go_upto_if 70 with fail
    go_cut [8] from 42 to 138 (fun v8 wx => v8 = .int .i64 t.inn ∧ wx = w7)
    case first =>
     clear HLC HRF HRG HSM HLV HLD HCH HNW HRT HTS HFA HOU
     by_cases k1 : ok = 1
     ·have k1b : (ok == 1) = true := by simpa using k1
      have hin := HWI.out k1
      clear k1 hk1
      go_wp2_with fail
      go_meet
      exact ⟨by rw [hin], rfl⟩
     ·have k1b : (ok == 1) = false := by simpa using k1
      have hin : s.inn = t.inn := by rw [HIN.out, if_neg k1]
      clear k1 hk1
      go_wp2_with fail
      go_meet
      exact ⟨by rw [hin], rfl⟩
    case rest =>
     obtain ⟨rfl, hw⟩ := hcut
     rw [hw]
     clear hw
     go_upto_if 83 with fail
     go_cut [9] from 42 to 138 (fun v9 wx => v9 = .int .i64 t.out ∧ wx = w7)
     case first =>
      clear HLC HRF HRG HSM HLV HLD HCH HNW HRT HTS HFA HIN
      by_cases k2 : ok = 2
      ·have k2b : (ok == 2) = true := by simpa using k2
       have hou := HWO.out k2
       clear k2 hk1
       go_wp2_with fail
       go_meet
       exact ⟨by rw [hou], rfl⟩
      ·have k2b : (ok == 2) = false := by simpa using k2
       have hou : s.out = t.out := by rw [HOU.out, if_neg k2]
       clear k2 hk1
       go_wp2_with fail
       go_meet
       exact ⟨by rw [hou], rfl⟩
     case rest =>
      obtain ⟨rfl, hw⟩ := hcut
      rw [hw]
      clear hw hk1 HIN HOU HWI HWO
      have HTOT := Lib.hid (total_any t w7 HTI7.out (by have := HFA.out.2.2.1; have e : t.ab.c.length = t.cl.length := rfl; omega))
      have HEQ := Lib.hid (show Two.sumL (volS t.cl) = Go.RowKit.wrap64 (Go.RowKit.wrap64 (F + t.inn) - t.out) from by have h := HFA.out.2.1; rw [← HTS.out]; exact h)
      unfold totV at HTOT
      rw [fitV, if_pos (show fits (Two.sumL (volS t.cl)) from HFA.out.1), fitE, if_pos (show fits (Two.sumL (volS t.cl)) from HFA.out.1), HEQ.out] at HTOT
      obtain ⟨a0, a1, a2, a3, a4, a5, -⟩ := HSK7.out
      go_wp2_with fail
      refine HTOT.out.mono ?_
      rintro e w8 ⟨rfl, hb8⟩
      have HB8 := Lib.hid (show Below w0.heap.size w0 w8 from HB7.out.trans (hb8.mono HB7.out.size))
      have HSK8 := Lib.hid (HSK7.out.below hb8)
      have HTI8 := Lib.hid (HTI7.out.then hb8)
      clear hb8 a0 a1 a2 a3 a4 a5 u0 u4 HB7 HSK7 HTI7 HTOT HEQ
      obtain ⟨a0, a1, a2, a3, a4, a5, -⟩ := HSK8.out
      obtain ⟨d0, d1, d2, d3, -⟩ := HK.out.below HB8.out
      go_wp2_with fail
      --CUT7
      refine (HRG.out t w8 (HD0.out.then HB8.out) HTI8.out).mono ?_
      rw [HRT.out]
      rintro e w9 ⟨rfl, hb9⟩
      have HB9 := Lib.hid (show Below w0.heap.size w0 w9 from HB8.out.trans (hb9.mono HB8.out.size))
      have HSK9 := Lib.hid (HSK8.out.below hb9)
      have HTI9 := Lib.hid (HTI8.out.then hb9)
      clear hb9 a0 a1 a2 a3 a4 a5 d0 d1 d2 d3 HB8 HSK8 HTI8
      have hlen9 : (t.cl.length : Int) ≤ 384 := by have := HFA.out.2.2.1; have e : t.ab.c.length = t.cl.length := rfl; omega
      go_wp2_with fail
      --CUT8
      go_loopw [15] (fun i wr => ∃ m : Nat, i = .int .i64 m ∧ m ≤ t.cl.length ∧ Hid (Below w9.heap.size w9 wr)) (fun i _ => t.cl.length - (intOf i).toNat)
      case atStart => exact ⟨0, rfl, Nat.zero_le _, Lib.hid (Below.refl _ _)⟩
      case round =>
       obtain ⟨m, rfl, hm, hb⟩ := hrel
       have HQQ := Lib.hid hb.out
       clear hb
       have HBQ := Lib.hid (show Below w0.heap.size w0 wr from HB9.out.trans (HQQ.out.mono HB9.out.size))
       obtain ⟨a0, -⟩ := HSK9.out.below HQQ.out
       by_cases hltm : m < t.cl.length
       ·obtain ⟨bc, oc, eA, hbc, hcc, hcell⟩ := ce_cells (HTI9.out.then HQQ.out).c (by omega)
        obtain ⟨-, cv, -⟩ := hcell m hltm
        obtain ⟨hv0, hv1⟩ := HFA.out.2.2.2.2.2 m hltm
        have hvv : (t.ab.c.getD m ce0).b = (t.cl.getD m ce0).b := rfl
        rw [hvv] at hv0 hv1
        rw [eA] at a0
        clear hcell hvv eA
        generalize (t.cl.getD m ce0).b = vol at *
        have HCAP := Lib.hid (fun (V : World) h => rcap_any d (m : Int) (by unfold fits; omega) V h)
        generalize capV d m = cap at *
        have HS25 := Lib.hid (show ∀ W, Below wr.heap.size wr W → W.cell? ⟨Gd, 0, none⟩ = some (Value.slice d.bA d.bn d.bc) ∧ W.cell? ⟨Gd, 1, none⟩ = some (Value.slice d.pA d.pn d.pc) ∧ W.cell? ⟨Gd, 2, none⟩ = some (Value.slice d.rA d.rn d.rc) ∧ W.cell? ⟨Gd, 3, none⟩ = some (.int .i64 d.arms) ∧ W.cell? ⟨G5, 0, none⟩ = some (Value.slice (some ⟨bc, oc, none⟩) t.cl.length t.cc) ∧ W.cell? ⟨bc, oc + m * 3 + 1, none⟩ = some (.int .i64 vol) from fun W h => by
         obtain ⟨d0, d1, d2, d3, -⟩ := HK.out.below (HBQ.out.trans (h.mono HBQ.out.size))
         exact ⟨d0, d1, d2, d3, keep_cell h a0, keep_cell h cv⟩)
        have hmi : (m : Int) < t.cl.length := by omega
        have hv0' : ¬ vol < 0 := by omega
        have hlenN : t.cl.length ≤ 9223372036854775807 := by omega
        have hv1' : ¬ cap < vol := by omega
        go_upto_region 25 with fail
        clear a0 cv
        --CUT9
        refine wp_region_held_drew (S := fun w' => w'.cell? ⟨Gd, 0, none⟩ = some (Value.slice d.bA d.bn d.bc) ∧ w'.cell? ⟨Gd, 1, none⟩ = some (Value.slice d.pA d.pn d.pc) ∧ w'.cell? ⟨Gd, 2, none⟩ = some (Value.slice d.rA d.rn d.rc) ∧ w'.cell? ⟨Gd, 3, none⟩ = some (.int .i64 d.arms) ∧ w'.cell? ⟨G5, 0, none⟩ = some (Value.slice (some ⟨bc, oc, none⟩) t.cl.length t.cc) ∧ w'.cell? ⟨bc, oc + m * 3 + 1, none⟩ = some (.int .i64 vol)) (by kernel_rfl) ?_ (fun hHeld => ?_)
        ·exact HS25.out _ (Below.refl _ _).drew
        have BE0 := Lib.hid (show Below wr.heap.size wr wr.drew from (Below.refl _ _).drew)
        generalize wr.drew = e0 at *
        refine wpAnyH_take (i := 0) (oi := ⟨some 120, _, _, _, _, _⟩) (v := ?_) rfl (by kernel_rfl) (by kernel_rfl) (by kernel_rfl) (fun _ _ _ h => h) (Or.inl ⟨by kernel_rfl, ?_⟩) (by assumption) ?_
        rotate_left 1
        ·((intro w hSw; (try dsimp only at hSw); go_simp) <;> (try with_reducible rfl))
        (try simp only [Act.put, List.setIfInBounds_toArray, List.set_cons_zero, List.set_cons_succ])
        refine wpAnyH_take (i := 1) (oi := ⟨some 121, _, _, _, _, _⟩) (v := ?_) rfl (by kernel_rfl) (by kernel_rfl) (by kernel_rfl) (fun _ _ _ h => h) (Or.inl ⟨by kernel_rfl, ?_⟩) (by assumption) ?_
        rotate_left 1
        ·((intro w hSw; (try dsimp only at hSw); go_simp) <;> (try with_reducible rfl))
        (try simp only [Act.put, List.setIfInBounds_toArray, List.set_cons_zero, List.set_cons_succ])
        refine wpAnyH_take (i := 2) (oi := ⟨some 122, _, _, _, _, _⟩) (v := ?_) rfl (by kernel_rfl) (by kernel_rfl) (by kernel_rfl) (fun _ _ _ h => h) (Or.inl ⟨by kernel_rfl, ?_⟩) (by assumption) ?_
        rotate_left 1
        ·((intro w hSw; (try dsimp only at hSw); go_simp) <;> (try with_reducible rfl))
        (try simp only [Act.put, List.setIfInBounds_toArray, List.set_cons_zero, List.set_cons_succ])
        refine wpAnyH_take (i := 3) (oi := ⟨some 123, _, _, _, _, _⟩) (v := ?_) rfl (by kernel_rfl) (by kernel_rfl) (by kernel_rfl) (fun _ _ _ h => h) (Or.inl ⟨by kernel_rfl, ?_⟩) (by assumption) ?_
        rotate_left 1
        ·((intro w hSw; (try dsimp only at hSw); go_simp) <;> (try with_reducible rfl))
        (try simp only [Act.put, List.setIfInBounds_toArray, List.set_cons_zero, List.set_cons_succ])
        refine wpAnyH_take (i := 4) (oi := ⟨some 124, _, _, _, _, _⟩) (v := ?_) rfl (by kernel_rfl) (by kernel_rfl) (by kernel_rfl) (fun _ _ _ h => h) (Or.inl ⟨by kernel_rfl, ?_⟩) (by assumption) ?_
        rotate_left 1
        ·((intro w hSw; (try dsimp only at hSw); go_simp) <;> (try with_reducible rfl))
        (try simp only [Act.put, List.setIfInBounds_toArray, List.set_cons_zero, List.set_cons_succ])
        refine wpAnyH_take (i := 5) (oi := ⟨some 125, _, _, _, _, _⟩) (v := ?_) rfl (by kernel_rfl) (by kernel_rfl) (by kernel_rfl) (fun _ _ _ h => h) (Or.inl ⟨by kernel_rfl, ?_⟩) (by assumption) ?_
        rotate_left 1
        ·((intro w hSw; (try dsimp only at hSw); go_simp) <;> (try with_reducible rfl))
        (try simp only [Act.put, List.setIfInBounds_toArray, List.set_cons_zero, List.set_cons_succ])
        refine wpAnyH_take (i := 6) (oi := ⟨some 126, _, _, _, _, _⟩) (v := ?_) rfl (by kernel_rfl) (by kernel_rfl) (by kernel_rfl) (fun _ _ _ h => h) (Or.inl ⟨by kernel_rfl, ?_⟩) (by assumption) ?_
        rotate_left 1
        ·((intro w hSw; (try dsimp only at hSw); go_simp) <;> (try with_reducible rfl))
        (try simp only [Act.put, List.setIfInBounds_toArray, List.set_cons_zero, List.set_cons_succ])
        refine wpAnyH_take (i := 7) (oi := ⟨some 127, _, _, _, _, _⟩) (v := ?_) rfl (by kernel_rfl) (by kernel_rfl) (by kernel_rfl) (fun _ _ _ h => h) (Or.inl ⟨by kernel_rfl, ?_⟩) (by assumption) ?_
        rotate_left 1
        ·((intro w hSw; (try dsimp only at hSw); go_simp) <;> (try with_reducible rfl))
        (try simp only [Act.put, List.setIfInBounds_toArray, List.set_cons_zero, List.set_cons_succ])
        refine wpAnyH_take (i := 8) (oi := ⟨some 128, _, _, _, _, _⟩) (v := ?_) rfl (by kernel_rfl) (by kernel_rfl) (by kernel_rfl) (fun _ _ _ h => h) (Or.inl ⟨by kernel_rfl, ?_⟩) (by assumption) ?_
        rotate_left 1
        ·((intro w hSw; (try dsimp only at hSw); go_simp) <;> (try with_reducible rfl))
        (try simp only [Act.put, List.setIfInBounds_toArray, List.set_cons_zero, List.set_cons_succ])
        refine wpAnyH_take (i := 9) (oi := ⟨some 129, _, _, _, _, _⟩) (v := ?_) rfl (by kernel_rfl) (by kernel_rfl) (by kernel_rfl) (fun _ _ _ h => h) (Or.inl ⟨by kernel_rfl, ?_⟩) (by assumption) ?_
        rotate_left 1
        ·((intro w hSw; (try dsimp only at hSw); go_simp) <;> (try with_reducible rfl))
        (try simp only [Act.put, List.setIfInBounds_toArray, List.set_cons_zero, List.set_cons_succ])
        refine wpAnyH_take (i := 10) (oi := ⟨some 130, _, _, _, _, _⟩) (v := ?_) rfl (by kernel_rfl) (by kernel_rfl) (by kernel_rfl) (fun _ _ _ h => h) (Or.inl ⟨by kernel_rfl, ?_⟩) (by assumption) ?_
        rotate_left 1
        ·((intro w hSw; (try dsimp only at hSw); go_simp) <;> (try with_reducible rfl))
        (try simp only [Act.put, List.setIfInBounds_toArray, List.set_cons_zero, List.set_cons_succ])
        refine wpAnyH_take (i := 11) (oi := ⟨some 131, _, _, _, _, _⟩) (v := ?_) rfl (by kernel_rfl) (by kernel_rfl) (by kernel_rfl) (fun _ _ _ h => h) (Or.inl ⟨by kernel_rfl, ?_⟩) (by assumption) ?_
        rotate_left 1
        ·((intro w hSw; (try dsimp only at hSw); go_simp) <;> (try with_reducible rfl))
        (try simp only [Act.put, List.setIfInBounds_toArray, List.set_cons_zero, List.set_cons_succ])
        refine wpAnyH_take (i := 12) (oi := ⟨some 132, _, _, _, _, _⟩) (v := ?_) rfl (by kernel_rfl) (by kernel_rfl) (by kernel_rfl) (fun _ _ _ h => h) (Or.inl ⟨by kernel_rfl, ?_⟩) (by assumption) ?_
        rotate_left 1
        ·((intro w hSw; (try dsimp only at hSw); go_simp) <;> (try with_reducible rfl))
        (try simp only [Act.put, List.setIfInBounds_toArray, List.set_cons_zero, List.set_cons_succ])
        refine wpAnyH_take (i := 13) (oi := ⟨some 133, _, _, _, _, _⟩) (v := ?_) rfl (by kernel_rfl) (by kernel_rfl) (by kernel_rfl) (fun _ _ _ h => h) (Or.inl ⟨by kernel_rfl, ?_⟩) (by assumption) ?_
        rotate_left 1
        ·((intro w hSw; (try dsimp only at hSw); go_simp) <;> (try with_reducible rfl))
        (try simp only [Act.put, List.setIfInBounds_toArray, List.set_cons_zero, List.set_cons_succ])
        refine wpAnyH_take (i := 14) (oi := ⟨some 134, _, _, _, _, _⟩) (v := ?_) rfl (by kernel_rfl) (by kernel_rfl) (by kernel_rfl) (fun _ _ _ h => h) (Or.inl ⟨by kernel_rfl, ?_⟩) (by assumption) ?_
        rotate_left 1
        ·((intro w hSw; (try dsimp only at hSw); go_simp) <;> (try with_reducible rfl))
        (try simp only [Act.put, List.setIfInBounds_toArray, List.set_cons_zero, List.set_cons_succ])
        refine wpAnyH_take (i := 15) (oi := ⟨some 135, _, _, _, _, _⟩) (v := ?_) rfl (by kernel_rfl) (by kernel_rfl) (by kernel_rfl) (fun _ _ _ h => h) (Or.inl ⟨by kernel_rfl, ?_⟩) (by assumption) ?_
        rotate_left 1
        ·((intro w hSw; (try dsimp only at hSw); go_simp) <;> (try with_reducible rfl))
        (try simp only [Act.put, List.setIfInBounds_toArray, List.set_cons_zero, List.set_cons_succ])
        refine wpAnyH_ready (rs := [16]) (by kernel_rfl) (by simp) ?_
        refine AllReadyH.cons (o := ⟨some 136, _, _, _, _, _⟩) rfl (fun K hK => ?_) AllReadyH.nil
        go_simp
        refine (HCAP.out _ (HD0.out.then (HBQ.out.trans (BE0.out.mono HBQ.out.size)))).mono ?_
        rintro e e1 ⟨rfl, hb⟩
        have BE1 := Lib.hid (BE0.out.trans (hb.mono BE0.out.size))
        clear hb BE0 hHeld
        go_wp2_with fail
        refine hK.out _ _ (HS25.out _ BE1.out) (fun hHeld => ?_)
        clear hK K
        (try simp only [Act.put, List.setIfInBounds_toArray, List.set_cons_zero, List.set_cons_succ])
        refine wpAnyH_take (i := 17) (oi := ⟨some 137, _, _, _, _, _⟩) (v := ?_) rfl (by kernel_rfl) (by kernel_rfl) (by kernel_rfl) (fun _ _ _ h => h) (Or.inl ⟨by kernel_rfl, ?_⟩) (by assumption) ?_
        rotate_left 1
        ·((intro w hSw; (try dsimp only at hSw); go_simp) <;> (try with_reducible rfl))
        (try simp only [Act.put, List.setIfInBounds_toArray, List.set_cons_zero, List.set_cons_succ])
        refine wpAnyH_take (i := 18) (oi := ⟨some 138, _, _, _, _, _⟩) (v := ?_) rfl (by kernel_rfl) (by kernel_rfl) (by kernel_rfl) (fun _ _ _ h => h) (Or.inl ⟨by kernel_rfl, ?_⟩) (by assumption) ?_
        rotate_left 1
        ·((intro w hSw; (try dsimp only at hSw); go_simp) <;> (try with_reducible rfl))
        (try simp only [Act.put, List.setIfInBounds_toArray, List.set_cons_zero, List.set_cons_succ])
        refine wpAnyH_done (by kernel_rfl) ?_ _
        clear hHeld
        go_wp2
        go_roundw
        case rel =>
         have hf := Lib.hid (HQQ.out.trans (BE1.out.mono HQQ.out.size))
         first
          | exact ⟨m + 1, num_i (by omega), by omega, hf⟩
          | ((repeat apply Exists.intro); refine ⟨⟨m + 1, ?_, by omega, hf⟩, rfl⟩; exact num_i (by omega))
        case measure => simp [intOf]; omega
       ·obtain rfl : m = t.cl.length := by omega
        have HSKq := Lib.hid (HSK9.out.below HQQ.out)
        have HTIq := Lib.hid (HTI9.out.then HQQ.out)
        go_wp2
        go_roundw
        case rel => exact ⟨k + 1, t, num_i (by omega), by omega, rfl, rfl, Lib.hid HSKq.out, Lib.hid HTIq.out, Lib.hid ⟨HRT.out, HTS.out⟩, Lib.hid HBQ.out⟩
        case measure => simp [intOf]; omega
  ·obtain rfl : k = l.length := by omega
   obtain ⟨a0, a1, a2, a3, a4, a5, -⟩ := HSK.out
   go_wp2
   go_ret
   exact ⟨rfl, Below.call HB0.out HBR.out⟩
end Go.Proofs.Ytacjonncakhhmaa

/- Stocks: what the wells of a deck hold at most. -/
import Derived.Test.YtacjonncakhhmaaPc23
import Derived.Test.YtacjonncakhhmaaPc12
import Derived.Test.YtacjonncakhhmaaPc17
import Derived.Test.YtacjonncakhhmaaPc33
namespace Go.Proofs.Ytacjonncakhhmaa
open Go.RowKit
set_option maxRecDepth 100000 in
set_option maxHeartbeats 4000000 in
theorem same_s (s u : Stk) (h : s.ab = u.ab) (w : World) (hs : s.In w w.heap.size) (hu : u.In w w.heap.size) : Calls Try.prog 14 #[s.v, u.v] w fun e w' => e = .returned (.bool true) ∧ Below w.heap.size w w' := by
 obtain ⟨w0, hw0⟩ : ∃ w0, w0 = (w.alloc (.cells #[.slice s.cA s.cl.length s.cc, .slice s.lA s.ll.length s.lc, .slice s.tA s.tl.length s.tc, .int .i64 s.st, .int .i64 s.inn, .int .i64 s.out] 33)).alloc (.cells #[.slice u.cA u.cl.length u.cc, .slice u.lA u.ll.length u.lc, .slice u.tA u.tl.length u.tc, .int .i64 u.st, .int .i64 u.inn, .int .i64 u.out] 33) := ⟨_, rfl⟩
 have HB0 := Lib.hid (show Below w.heap.size w w0 by rw [hw0]; exact Below.al (Below.al (Below.refl _ _) _) _)
 have HS := Lib.hid (hs.then HB0.out)
 have HU := Lib.hid (hu.then HB0.out)
 have HS1 := Lib.hid (show SkAt w0 w.heap.size s by rw [hw0]; exact (Cells6.new w _ _ _ _ _ _ _).below (Below.al (Below.refl _ _) _))
 have HU1 := Lib.hid (show SkAt w0 (w.heap.size + 1) u by
  have e : (w.alloc (.cells #[.slice s.cA s.cl.length s.cc, .slice s.lA s.ll.length s.lc, .slice s.tA s.tl.length s.tc, .int .i64 s.st, .int .i64 s.inn, .int .i64 s.out] 33)).heap.size = w.heap.size + 1 := by simp
  rw [hw0, ← e]
  exact Cells6.new _ _ _ _ _ _ _ _)
 have h1 : s.cl = u.cl := congrArg Ab.c h
 have h2 : s.ll.map Lo.ab = u.ll.map Lo.ab := congrArg Ab.l h
 have h3 : s.tl = u.tl := congrArg Ab.t h
 have h4 : s.st = u.st := congrArg Ab.st h
 have h5 : s.inn = u.inn := congrArg Ab.inn h
 have h6 : s.out = u.out := congrArg Ab.out h
 have hll : s.ll.length = u.ll.length := by have := congrArg List.length h2; simpa using this
 have HQ := Lib.hid (show ∀ k, k < s.ll.length → (s.ll.getD k lo0).r = (u.ll.getD k lo0).r ∧ (s.ll.getD k lo0).l = (u.ll.getD k lo0).l ∧ (s.ll.getD k lo0).xs = (u.ll.getD k lo0).xs from fun k hk => by
  have e1 := ab_l s k hk
  have e2 := ab_l u k (by omega)
  have e : s.ab.l = u.ab.l := congrArg Ab.l h
  rw [e, e2] at e1
  have a1 := congrArg Prod.fst e1
  have a2 := congrArg Prod.snd e1
  exact ⟨a1.symm, (congrArg Prod.fst a2).symm, (congrArg Prod.snd a2).symm⟩)
 clear hs hu h h2
 obtain ⟨cA, cc, cl, lA, lc, ll, tA, tc, tl, st, inn, out⟩ := s
 obtain ⟨cA2, cc2, cl2, lA2, lc2, ll2, tA2, tc2, tl2, st2, inn2, out2⟩ := u
 dsimp only at *
 subst h1 h3 h4 h5 h6
 have HLL := Lib.hid hll
 have hli : ((ll.length : Int) != (ll2.length : Int)) = false := by rw [hll]; simp
 clear hll
 obtain ⟨g0, g1, g2, g3, g4, g5, -⟩ := HS1.out
 obtain ⟨f0, f1, f2, f3, f4, f5, -⟩ := HU1.out
 dsimp only at g0 g1 g2 g3 g4 g5 f0 f1 f2 f3 f4 f5
 rw [hw0] at g0 g1 g2 g3 g4 g5 f0 f1 f2 f3 f4 f5
 have hl1 := HS.out.c.2.2
 have hl2 := HS.out.l.2.2
 have hl3 := HS.out.t.2.2
 dsimp only at hl1 hl2 hl3
 go_enter Try.func14, Try.ntmps14
 go_wp2_with fail
 rw [← hw0]
 clear hw0 g0 g1 g2 g3 g4 g5 f0 f1 f2 f3 f4 f5 hli
 --CUT1
 go_loopw [5] (fun i wr => ∃ k : Nat, k ≤ cl.length ∧ i = .int .i64 k ∧ Hid (Below w0.heap.size w0 wr)) (fun i _ => cl.length - (intOf i).toNat)
 case atStart => exact ⟨0, Nat.zero_le _, rfl, Lib.hid (Below.refl _ _)⟩
 case round =>
  obtain ⟨k, hk, rfl, hbl⟩ := hrel
  have HB := Lib.hid hbl.out
  clear hbl
  have G1 := (HS1.out.below HB.out).1
  have G2 := (HU1.out.below HB.out).1
  dsimp only at G1 G2
  by_cases hlt : k < cl.length
  ·obtain ⟨b1, o1, rfl, hb1, hc1, hcell1⟩ := ce_cells (HS.out.then HB.out).c (by dsimp only; omega)
   obtain ⟨b2, o2, rfl, hb2, hc2, hcell2⟩ := ce_cells (HU.out.then HB.out).c (by dsimp only; omega)
   obtain ⟨e1, e2, e3⟩ := hcell1 k hlt
   obtain ⟨f1, f2, f3⟩ := hcell2 k hlt
   dsimp only at e1 e2 e3 f1 f2 f3
   clear hcell1 hcell2
   generalize cl.getD k ce0 = q at *
   obtain ⟨qa, qb, qc⟩ := q
   dsimp only at e1 e2 e3 f1 f2 f3
   go_wp2_with fail
   go_quiet (fail)
   go_wp2
   go_roundw
   case rel => exact ⟨k + 1, by omega, num_i (by omega), Lib.hid (below_drewN HB.out _)⟩
   case measure => simp [intOf]; omega
  ·obtain rfl : k = cl.length := by omega
   obtain ⟨wA, hwA⟩ : ∃ wA, wA = wr := ⟨_, rfl⟩
   have HBA := Lib.hid (show Below w0.heap.size w0 wA by rw [hwA]; exact HB.out)
   go_wp2_with fail
   rw [← hwA]
   clear hwA HB G1 G2
   --CUT2
   go_loopw [6] (fun i wr => ∃ k : Nat, k ≤ ll.length ∧ i = .int .i64 k ∧ Hid (Below w0.heap.size w0 wr)) (fun i _ => ll.length - (intOf i).toNat)
   case atStart => exact ⟨0, Nat.zero_le _, rfl, Lib.hid HBA.out⟩
   case round =>
    clear HBA
    obtain ⟨k, hk, rfl, hbl⟩ := hrel
    have HB := Lib.hid hbl.out
    clear hbl
    have G1 := (HS1.out.below HB.out).2.1
    have G2 := (HU1.out.below HB.out).2.1
    dsimp only at G1 G2
    by_cases hlt : k < ll.length
    ·have hlt2 : k < ll2.length := by have := HLL.out; omega
     obtain ⟨b1, o1, rfl, hb1, hc1, hcell1⟩ := lo_cells (HS.out.then HB.out).l (by dsimp only; omega)
     obtain ⟨b2, o2, rfl, hb2, hc2, hcell2⟩ := lo_cells (HU.out.then HB.out).l (by dsimp only; omega)
     obtain ⟨e1, e2, e3⟩ := hcell1 k hlt
     obtain ⟨f1, f2, f3⟩ := hcell2 k hlt2
     dsimp only at e1 e2 e3 f1 f2 f3 hc1 hc2
     have HX1 := Lib.hid ((HS.out.then HB.out).x _ (getD_mem' ll k lo0 hlt))
     have HX2 := Lib.hid ((HU.out.then HB.out).x _ (getD_mem' ll2 k lo0 hlt2))
     obtain ⟨p1, p2, p3⟩ := HQ.out k hlt
     rw [← p1] at f1
     rw [← p2] at f2
     rw [← p3] at f3 HX2
     clear hcell1 hcell2 p1 p2 p3
     generalize (ll2.getD k lo0).A = pA at *
     generalize (ll2.getD k lo0).c = pc at *
     generalize ll.getD k lo0 = q at *
     obtain ⟨qr, ql, qA, qc, qx⟩ := q
     dsimp only at e1 e2 e3 f1 f2 f3 HX1 HX2
     have hlt' : (k : Int) < ll.length := by omega
     have hlt2' : (k : Int) < ll2.length := by omega
     go_upto_region 11 with fail
     --CUT3
     refine wp_region_held_drew (S := fun w' => w'.cell? ⟨w.heap.size, 1, none⟩ = some (Value.slice (some ⟨b1, o1, none⟩) ll.length lc) ∧ w'.cell? ⟨w.heap.size + 1, 1, none⟩ = some (Value.slice (some ⟨b2, o2, none⟩) ll2.length lc2) ∧ w'.cell? ⟨b1, o1 + k * 3, none⟩ = some (.int .i64 qr) ∧ w'.cell? ⟨b1, o1 + k * 3 + 1, none⟩ = some (.int .i64 ql) ∧ w'.cell? ⟨b1, o1 + k * 3 + 2, none⟩ = some (.slice qA qx.length qc) ∧ w'.cell? ⟨b2, o2 + k * 3, none⟩ = some (.int .i64 qr) ∧ w'.cell? ⟨b2, o2 + k * 3 + 1, none⟩ = some (.int .i64 ql) ∧ w'.cell? ⟨b2, o2 + k * 3 + 2, none⟩ = some (.slice pA qx.length pc)) (by kernel_rfl) ?_ (fun hHeld => ?_)
     ·exact ⟨G1, G2, e1, e2, e3, f1, f2, f3⟩
     have bw := (Below.refl wr.heap.size wr).drew
     have X1 := Lib.hid (HX1.out.then bw)
     have X2 := Lib.hid (HX2.out.then bw)
     have B1 := Lib.hid (Below.drew HB.out)
     clear bw G1 G2 e1 e2 e3 f1 f2 f3 HX1 HX2
     generalize wr.drew = v0 at *
     refine wpAnyH_take (i := 0) (oi := ⟨some 79, _, _, _, _, _⟩) (v := ?_) rfl (by kernel_rfl) (by kernel_rfl) (by kernel_rfl) (fun _ _ _ h => h) (Or.inl ⟨by kernel_rfl, ?_⟩) (by assumption) ?_
     rotate_left 1
     ·((intro w hSw; (try dsimp only at hSw); go_simp) <;> (try with_reducible rfl))
     (try simp only [Act.put, List.setIfInBounds_toArray, List.set_cons_zero, List.set_cons_succ])
     refine wpAnyH_take (i := 1) (oi := ⟨some 80, _, _, _, _, _⟩) (v := ?_) rfl (by kernel_rfl) (by kernel_rfl) (by kernel_rfl) (fun _ _ _ h => h) (Or.inl ⟨by kernel_rfl, ?_⟩) (by assumption) ?_
     rotate_left 1
     ·((intro w hSw; (try dsimp only at hSw); go_simp) <;> (try with_reducible rfl))
     (try simp only [Act.put, List.setIfInBounds_toArray, List.set_cons_zero, List.set_cons_succ])
     refine wpAnyH_take (i := 2) (oi := ⟨some 81, _, _, _, _, _⟩) (v := ?_) rfl (by kernel_rfl) (by kernel_rfl) (by kernel_rfl) (fun _ _ _ h => h) (Or.inl ⟨by kernel_rfl, ?_⟩) (by assumption) ?_
     rotate_left 1
     ·((intro w hSw; (try dsimp only at hSw); go_simp) <;> (try with_reducible rfl))
     (try simp only [Act.put, List.setIfInBounds_toArray, List.set_cons_zero, List.set_cons_succ])
     refine wpAnyH_take (i := 3) (oi := ⟨some 82, _, _, _, _, _⟩) (v := ?_) rfl (by kernel_rfl) (by kernel_rfl) (by kernel_rfl) (fun _ _ _ h => h) (Or.inl ⟨by kernel_rfl, ?_⟩) (by assumption) ?_
     rotate_left 1
     ·((intro w hSw; (try dsimp only at hSw); go_simp) <;> (try with_reducible rfl))
     (try simp only [Act.put, List.setIfInBounds_toArray, List.set_cons_zero, List.set_cons_succ])
     refine wpAnyH_take (i := 4) (oi := ⟨some 83, _, _, _, _, _⟩) (v := ?_) rfl (by kernel_rfl) (by kernel_rfl) (by kernel_rfl) (fun _ _ _ h => h) (Or.inl ⟨by kernel_rfl, ?_⟩) (by assumption) ?_
     rotate_left 1
     ·((intro w hSw; (try dsimp only at hSw); go_simp) <;> (try with_reducible rfl))
     (try simp only [Act.put, List.setIfInBounds_toArray, List.set_cons_zero, List.set_cons_succ])
     refine wpAnyH_take (i := 5) (oi := ⟨some 84, _, _, _, _, _⟩) (v := ?_) rfl (by kernel_rfl) (by kernel_rfl) (by kernel_rfl) (fun _ _ _ h => h) (Or.inl ⟨by kernel_rfl, ?_⟩) (by assumption) ?_
     rotate_left 1
     ·((intro w hSw; (try dsimp only at hSw); go_simp) <;> (try with_reducible rfl))
     (try simp only [Act.put, List.setIfInBounds_toArray, List.set_cons_zero, List.set_cons_succ])
     refine wpAnyH_take (i := 6) (oi := ⟨some 85, _, _, _, _, _⟩) (v := ?_) rfl (by kernel_rfl) (by kernel_rfl) (by kernel_rfl) (fun _ _ _ h => h) (Or.inl ⟨by kernel_rfl, ?_⟩) (by assumption) ?_
     rotate_left 1
     ·((intro w hSw; (try dsimp only at hSw); go_simp) <;> (try with_reducible rfl))
     (try simp only [Act.put, List.setIfInBounds_toArray, List.set_cons_zero, List.set_cons_succ])
     refine wpAnyH_take (i := 7) (oi := ⟨some 86, _, _, _, _, _⟩) (v := ?_) rfl (by kernel_rfl) (by kernel_rfl) (by kernel_rfl) (fun _ _ _ h => h) (Or.inl ⟨by kernel_rfl, ?_⟩) (by assumption) ?_
     rotate_left 1
     ·((intro w hSw; (try dsimp only at hSw); go_simp) <;> (try with_reducible rfl))
     (try simp only [Act.put, List.setIfInBounds_toArray, List.set_cons_zero, List.set_cons_succ])
     refine wpAnyH_take (i := 8) (oi := ⟨some 87, _, _, _, _, _⟩) (v := ?_) rfl (by kernel_rfl) (by kernel_rfl) (by kernel_rfl) (fun _ _ _ h => h) (Or.inl ⟨by kernel_rfl, ?_⟩) (by assumption) ?_
     rotate_left 1
     ·((intro w hSw; (try dsimp only at hSw); go_simp) <;> (try with_reducible rfl))
     (try simp only [Act.put, List.setIfInBounds_toArray, List.set_cons_zero, List.set_cons_succ])
     refine wpAnyH_take (i := 9) (oi := ⟨some 88, _, _, _, _, _⟩) (v := ?_) rfl (by kernel_rfl) (by kernel_rfl) (by kernel_rfl) (fun _ _ _ h => h) (Or.inl ⟨by kernel_rfl, ?_⟩) (by assumption) ?_
     rotate_left 1
     ·((intro w hSw; (try dsimp only at hSw); go_simp) <;> (try with_reducible rfl))
     (try simp only [Act.put, List.setIfInBounds_toArray, List.set_cons_zero, List.set_cons_succ])
     refine wpAnyH_ready (rs := [10]) (by kernel_rfl) (by simp) ?_
     refine AllReadyH.cons (o := ⟨some 89, _, _, _, _, _⟩) rfl (fun K hK => ?_) AllReadyH.nil
     go_simp
     refine (Lg.same_any qr ql qA pA qc pc qx v0 X1.out X2.out).mono ?_
     rintro e v1 ⟨rfl, hb⟩
     have B2 := Lib.hid (B1.out.trans (hb.mono B1.out.size))
     obtain ⟨k1, k2, k3, k4, k5, k6, k7, k8⟩ := hHeld
     have hH := And.intro (keep_cell hb k1) (And.intro (keep_cell hb k2) (And.intro (keep_cell hb k3) (And.intro (keep_cell hb k4) (And.intro (keep_cell hb k5) (And.intro (keep_cell hb k6) (And.intro (keep_cell hb k7) (keep_cell hb k8)))))))
     clear k1 k2 k3 k4 k5 k6 k7 k8 hb X1 X2 B1
     go_wp2_with fail
     refine hK.out _ _ hH (fun hHeld => ?_)
     clear hK K
     clear hH
     (try simp only [Act.put, List.setIfInBounds_toArray, List.set_cons_zero, List.set_cons_succ])
     refine wpAnyH_take (i := 11) (oi := ⟨some 90, _, _, _, _, _⟩) (v := ?_) rfl (by kernel_rfl) (by kernel_rfl) (by kernel_rfl) (fun _ _ _ h => h) (Or.inl ⟨by kernel_rfl, ?_⟩) (by assumption) ?_
     rotate_left 1
     ·((intro w hSw; (try dsimp only at hSw); go_simp) <;> (try with_reducible rfl))
     (try simp only [Act.put, List.setIfInBounds_toArray, List.set_cons_zero, List.set_cons_succ])
     refine wpAnyH_done (by kernel_rfl) ?_ _
     clear hHeld
     go_wp2
     go_roundw
     case rel => exact ⟨k + 1, by omega, num_i (by omega), Lib.hid B2.out⟩
     case measure => simp [intOf]; omega
    ·obtain rfl : k = ll.length := by omega
     obtain ⟨wA, hwA⟩ : ∃ wA, wA = wr := ⟨_, rfl⟩
     have HBA := Lib.hid (show Below w0.heap.size w0 wA by rw [hwA]; exact HB.out)
     go_wp2_with fail
     rw [← hwA]
     clear hwA HB G1 G2
     go_loopw [7] (fun i wr => ∃ k : Nat, k ≤ tl.length ∧ i = .int .i64 k ∧ Hid (Below w0.heap.size w0 wr)) (fun i _ => tl.length - (intOf i).toNat)
     case atStart => exact ⟨0, Nat.zero_le _, rfl, Lib.hid HBA.out⟩
     case round =>
      clear HBA
      obtain ⟨k, hk, rfl, hbl⟩ := hrel
      have HB := Lib.hid hbl.out
      clear hbl
      have G1 := (HS1.out.below HB.out).2.2.1
      have G2 := (HU1.out.below HB.out).2.2.1
      dsimp only at G1 G2
      by_cases hlt : k < tl.length
      ·obtain ⟨b1, o1, rfl, hb1, hc1, hcell1⟩ := tip_cells (HS.out.then HB.out).t (by dsimp only; omega)
       obtain ⟨b2, o2, rfl, hb2, hc2, hcell2⟩ := tip_cells (HU.out.then HB.out).t (by dsimp only; omega)
       obtain ⟨e1, e2⟩ := hcell1 k hlt
       obtain ⟨f1, f2⟩ := hcell2 k hlt
       dsimp only at e1 e2 f1 f2
       clear hcell1 hcell2
       generalize tl.getD k (0, 0) = q at *
       obtain ⟨qa, qb⟩ := q
       dsimp only at e1 e2 f1 f2
       go_wp2_with fail
       go_quiet (fail)
       go_wp2
       go_roundw
       case rel => exact ⟨k + 1, by omega, num_i (by omega), Lib.hid (below_drewN HB.out _)⟩
       case measure => simp [intOf]; omega
      ·obtain rfl : k = tl.length := by omega
       go_wp2
       go_ret
       exact ⟨rfl, Below.call HB0.out HB.out⟩
end Go.Proofs.Ytacjonncakhhmaa
namespace Go.Proofs.Ytacjonncakhhmaa
open Go.RowKit
set_option maxRecDepth 100000 in
set_option maxHeartbeats 4000000 in
theorem rcap_any (d : Dk) (id : Int) (hid : fits id) (w : World) (hd : d.In w w.heap.size) : Calls Try.prog 26 #[d.v, .int .i64 id] w fun e w' => e = .returned (.int .i64 (capV d id)) ∧ Below w.heap.size w w' := by
 have HP := Lib.hid (fun w h => rpart_any d id hid w h)
 have HD := Lib.hid hd
 have HV := Lib.hid (partV_ok d id)
 have HW := Lib.hid (well_part d)
 have HE := Lib.hid (show capV d id = _ from rfl)
 unfold capV at HE
 have hpn := Lib.hid hd.p.len
 obtain ⟨w0, hw0⟩ : ∃ w0, w0 = w.alloc (.cells #[.slice d.bA d.bn d.bc, .slice d.pA d.pn d.pc, .slice d.rA d.rn d.rc, .int .i64 d.arms] 26) := ⟨_, rfl⟩
 have f1 : w0.cell? ⟨w.heap.size, 1, none⟩ = some (.slice d.pA d.pn d.pc) := by rw [hw0]; exact alloc_cell _ _ _ _ _ rfl
 have HB0 := Lib.hid (show Below w.heap.size w w0 by rw [hw0]; exact Below.al (Below.refl _ _) _)
 have HD0 := Lib.hid (HD.out.then HB0.out)
 obtain ⟨V, hV⟩ : ∃ V, V = capV d id := ⟨_, rfl⟩
 unfold capV at hV
 have HVV := Lib.hid hV
 rw [show capV d id = V by rw [hV]; rfl]
 clear HE hV hd
 generalize partV d id = t at *
 obtain ⟨q, er⟩ := t
 dsimp only at *
 unfold partVal at HP
 dsimp only at HP
 by_cases h0 : er = 0
 ·subst h0
  by_cases h1 : q.a = 1
  ·obtain ⟨hok, hq, _, _, _⟩ := HV.out rfl
   obtain ⟨b0, b1, c0, c1, d0, d1⟩ := HW.out q hq h1
   have hval := HVV.out
   rw [if_pos ⟨rfl, h1⟩] at hval
   have HVL := Lib.hid hval
   obtain ⟨b, off, hA, hb, hc, hcell⟩ := plate_cells HD0.out.p (by omega)
   obtain ⟨p0, p1, p2, p3, p4, p5, p6⟩ := hcell q.b.toNat b1
   have hsz := size_of (plate_size (hok.pl q.b.toNat b1))
   have hss := Lib.hid (HD0.out.s _ (getD_mem' d.pl q.b.toNat KP.dflt b1))
   have HBI := Lib.hid (show q.b = ((q.b.toNat : Nat) : Int) by omega)
   have b2 : q.b < (d.pn : Int) := by have := hpn.out; omega
   have b3 : (d.pn : Int) ≤ 4 := by have := hpn.out; have := hok.p4; omega
   have HA := Lib.hid hA
   clear hA
   clear hcell hval hq hok HVV HV HW
   obtain ⟨i, hi⟩ : ∃ i : Nat, i = q.b.toNat := ⟨_, rfl⟩
   rw [← hi] at p0 p1 p2 p3 p4 p5 p6 c1 d1 hsz hss HVL HBI b1
   clear hi
   generalize d.pl.getD i KP.dflt = pq at *
   obtain ⟨qa, qb, qc, qd⟩ := q
   dsimp only at *
   obtain rfl := HBI.out
   obtain rfl := h1
   go_enter Try.func26, Try.ntmps26
   go_wp2_with fail
   rw [← hw0]
   clear hw0
   refine (HP.out _ HD0.out).mono ?_
   rintro e w1 ⟨rfl, hb1⟩
   have g1 := keep_cell hb1 f1
   have g5 := keep_cell hb1 p5
   have HB1 := Lib.hid (Below.call HB0.out hb1)
   have hz1 : b < w1.heap.size := Nat.lt_of_lt_of_le hb hb1.size
   have hz2 : w.heap.size < w1.heap.size := World.block_lt_of_cell? w1 _ g1
   rw [HA.out] at g1
   clear hb1 f1 p0 p1 p2 p3 p4 p5 p6 HA hsz c0 c1 d0 d1
   go_wp2
   go_ret
   exact ⟨ret_i HVL.out.symm, Below.al HB1.out _⟩
  ·have hval := HVV.out
   rw [if_neg (fun h => h1 h.2)] at hval
   have HVL := Lib.hid hval
   have g1 : (q.a != 1) = true := by rw [bne_iff_ne]; exact h1
   clear hval h1 HVV HV HW
   go_enter Try.func26, Try.ntmps26
   go_wp2_with fail
   rw [← hw0]
   clear hw0
   refine (HP.out _ HD0.out).mono ?_
   rintro e w1 ⟨rfl, hb1⟩
   have HB1 := Lib.hid (Below.call HB0.out hb1)
   clear hb1
   go_wp2
   go_ret
   exact ⟨ret_i HVL.out.symm, Below.al HB1.out _⟩
 ·have hval := HVV.out
  rw [if_neg (fun h => h0 h.1)] at hval
  have HVL := Lib.hid hval
  have g1 : (er != 0) = true := by rw [bne_iff_ne]; exact h0
  clear hval h0 HVV HV HW
  go_enter Try.func26, Try.ntmps26
  go_wp2_with fail
  rw [← hw0]
  clear hw0
  refine (HP.out _ HD0.out).mono ?_
  rintro e w1 ⟨rfl, hb1⟩
  have HB1 := Lib.hid (Below.call HB0.out hb1)
  clear hb1
  go_wp2
  go_ret
  exact ⟨ret_i HVL.out.symm, Below.al HB1.out _⟩
end Go.Proofs.Ytacjonncakhhmaa
namespace Go.Proofs.Ytacjonncakhhmaa
open Go.RowKit
theorem caps_list (l : List Pl) (n : Nat) : (partsU ((List.range n).map (plateU l))).map (fun p => (l.getD p.b.toNat KP.dflt).cap) = (newCn l n).map (fun c => c.a) := by
 unfold partsU newCn
 rw [List.flatMap_map, List.map_flatMap, List.map_flatMap]
 congr 1
 funext j
 unfold unitParts plC
 rw [List.map_map, List.map_map]
 show List.map _ (List.range (unitN (plateU l j))) = List.map _ (List.range (plN (l.getD j KP.dflt)))
 rw [show unitN (plateU l j) = plN (l.getD j KP.dflt) from rfl]
 rfl
theorem getD_map' {α β : Type} (f : α → β) (l : List α) (k : Nat) (z : α) (y : β) (h : k < l.length) : (l.map f).getD k y = f (l.getD k z) := by
 rw [List.getD_eq_getElem?_getD, List.getElem?_map, List.getElem?_eq_getElem h, List.getD_eq_getElem?_getD, List.getElem?_eq_getElem h]
 rfl
/-- What a well holds at most: the cell at first says it. -/
theorem cap_new (d : Dk) (hz : zchk d = 0) (k : Nat) (hk : k < wellN d) : capV d k = ((newA d).c.getD k ce0).a := by
 have hd := zchk_d d hz
 have hok := dchk_ok d hd
 have hw := wellN_eq d hok
 have hlen : (partsU ((List.range d.pl.length).map (plateU d.pl))).length = wellN d := by
  have := congrArg List.length (caps_list d.pl d.pl.length)
  rw [List.length_map, List.length_map] at this
  omega
 have hpl : partsL d = partsU ((List.range d.pl.length).map (plateU d.pl)) ++ (partsU ((List.range d.rl.length).map (rackU d.rl)) ++ partsU ((List.range (d.bl.length - 1)).map laneU)) := by
  unfold partsL partsU unitsL
  rw [List.flatMap_append, List.flatMap_append, List.append_assoc]
 have hP := (isP_eq d hd k).1
 rw [decide_eq_true (show (0 : Int) ≤ (k : Int) ∧ (k : Int) < wellN d by omega)] at hP
 unfold isP at hP
 rw [Bool.and_eq_true, decide_eq_true_eq, decide_eq_true_eq] at hP
 unfold capV
 rw [if_pos hP]
 have hv : (partV d k).1 = (partsU ((List.range d.pl.length).map (plateU d.pl))).getD k ⟨0, 0, 0, 0⟩ := by
  unfold partV
  rw [if_pos hd]
  unfold partR
  rw [if_neg (by rw [hpl, List.length_append]; omega)]
  show (partsL d).getD (k : Int).toNat _ = _
  rw [hpl, show (k : Int).toNat = k by omega, getD_app, if_pos (by omega)]
 rw [hv]
 have e := caps_list d.pl d.pl.length
 have h1 := getD_map' (fun p : Q4 => (d.pl.getD p.b.toNat KP.dflt).cap) (partsU ((List.range d.pl.length).map (plateU d.pl))) k ⟨0, 0, 0, 0⟩ 0 (by omega)
 have h2 := getD_map' (fun c : Cel.Ce => c.a) (newCn d.pl d.pl.length) k ce0 0 (by omega)
 rw [← h1, e, h2]
 rfl
end Go.Proofs.Ytacjonncakhhmaa

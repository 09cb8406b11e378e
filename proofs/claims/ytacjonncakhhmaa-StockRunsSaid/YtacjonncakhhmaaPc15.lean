/- The parts of a unit in a row: what the reference answers. -/
import Derived.Test.YtacjonncakhhmaaPc14
namespace Go.Proofs.Ytacjonncakhhmaa
open Go.RowKit
noncomputable def cntV (d : Dk) : Int × Int × Int := if dchk d = 0 then (wellsV d.pl, tipsV d.rl, (d.bl.length : Int) - 1) else (0, 0, 0)
set_option maxRecDepth 100000 in
set_option maxHeartbeats 4000000 in
theorem counts_any (d : Dk) (w : World) (hd : d.In w w.heap.size) : Calls Try.prog 46 #[d.v] w fun e w' => e = .returned (.tuple #[.int .i64 (cntV d).1, .int .i64 (cntV d).2.1, .int .i64 (cntV d).2.2]) ∧ Below w.heap.size w w' := by
 have HC := Lib.hid (fun w h => dcheck_any d w h)
 have HP := Lib.hid (fun w h a b c e => places_any d w h a b c e)
 have HD := Lib.hid hd
 have hbn := hd.b.len
 obtain ⟨w0, hw0⟩ : ∃ w0, w0 = w.alloc (.cells #[.slice d.bA d.bn d.bc, .slice d.pA d.pn d.pc, .slice d.rA d.rn d.rc, .int .i64 d.arms] 26) := ⟨_, rfl⟩
 have HB0 := Lib.hid (show Below w.heap.size w w0 by rw [hw0]; exact Below.al (Below.refl _ _) _)
 have HD0 := Lib.hid (HD.out.then HB0.out)
 have HF := Lib.hid (show ∀ w1, Below w0.heap.size w0 w1 → (w1.cell? ⟨w.heap.size, 0, none⟩ = some (.slice d.bA d.bn d.bc) ∧ w1.cell? ⟨w.heap.size, 1, none⟩ = some (.slice d.pA d.pn d.pc) ∧ w1.cell? ⟨w.heap.size, 2, none⟩ = some (.slice d.rA d.rn d.rc) ∧ w1.cell? ⟨w.heap.size, 3, none⟩ = some (.int .i64 d.arms)) from by
   intro w1 hb
   refine ⟨keep_cell hb ?_, keep_cell hb ?_, keep_cell hb ?_, keep_cell hb ?_⟩
   all_goals (rw [hw0]; simp))
 by_cases hz : dchk d = 0
 ·have HOK := Lib.hid (dchk_ok d hz)
  have T : cntV d = (wellsV d.pl, tipsV d.rl, (d.bl.length : Int) - 1) := by unfold cntV; rw [if_pos hz]
  rw [T]
  rw [hz] at HC
  have b2 := HOK.out.rise.two
  have b3 := HOK.out.rise.most
  clear hz T hd
  dsimp only
  rw [← hbn] at b2 b3 ⊢
  clear hbn
  generalize wellsV d.pl = s at *
  generalize tipsV d.rl = t at *
  go_enter Try.func46, Try.ntmps46
  go_wp2_with fail
  rw [← hw0]
  clear hw0
  refine (HC.out _ HD0.out).mono ?_
  rintro e w1 ⟨rfl, hb1⟩
  obtain ⟨d0, d1, d2, d3⟩ := HF.out w1 hb1
  have HB1 := Lib.hid hb1
  clear hb1
  go_wp2_with fail
  refine (HP.out w1 (HD0.out.then HB1.out) HOK.out.p4 HOK.out.r4 (fun i hi => plate_size (HOK.out.pl i hi)) HOK.out.rl).mono ?_
  rintro e w2 ⟨rfl, hb2⟩
  have q0 := keep_cell hb2 d0
  have HB2 := Lib.hid (Below.call HB1.out hb2)
  clear hb2 d0 d1 d2 d3
  go_wp2_with fail
  go_quiet (fail)
  go_wp2
  go_ret3
  exact ⟨rfl, below_drewN (Below.call HB0.out HB2.out) _⟩
 ·have T : cntV d = (0, 0, 0) := by unfold cntV; rw [if_neg hz]
  rw [T]
  have hz' : (dchk d != 0) = true := by rw [bne_iff_ne]; exact hz
  clear T hz hd hbn
  generalize dchk d = c at *
  go_enter Try.func46, Try.ntmps46
  go_wp2_with fail
  rw [← hw0]
  clear hw0
  refine (HC.out _ HD0.out).mono ?_
  rintro e w1 ⟨rfl, hb1⟩
  have HB1 := Lib.hid hb1
  clear hb1
  go_wp2
  go_ret3
  exact ⟨rfl, Below.call HB0.out HB1.out⟩
end Go.Proofs.Ytacjonncakhhmaa
namespace Go.Proofs.Ytacjonncakhhmaa
open Go.RowKit
theorem unitF_at (u : Q4) (r c : Nat) (hc : c < u.d.toNat) : unitF u (r * u.d.toNat + c) = ⟨u.a, u.b, r, c⟩ := by
 unfold unitF
 have hd : (r * u.d.toNat + c) / u.d.toNat = r := by
  rw [Nat.mul_comm, Nat.mul_add_div (by omega), Nat.div_eq_of_lt hc, Nat.add_zero]
 have hm : (r * u.d.toNat + c) % u.d.toNat = c := by
  rw [Nat.mul_comm, Nat.mul_add_mod, Nat.mod_eq_of_lt hc]
 rw [hd, hm]
set_option maxRecDepth 100000 in
set_option maxHeartbeats 4000000 in
theorem rplaces_any (u : Q4) (hu : okU u) (w : World) : Calls Try.prog 130 #[.int .i64 u.a, .int .i64 u.b, .int .i64 u.c, .int .i64 u.d] w fun e w' => ∃ v, e = .returned v ∧ KQ.Own w' w.heap.size v (unitParts u) ∧ Below w.heap.size w w' := by
 obtain ⟨o1, o2, o3, o4, o5, o6, o7⟩ := okU_pos hu
 obtain ⟨s1, s2, s3, s4⟩ := size_of hu.2.2.2
 obtain ⟨k1, k2, k3, _⟩ := hu
 have fa : fits u.a := by unfold fits; omega
 have fb : fits u.b := by unfold fits; omega
 have HU := Lib.hid (show unitParts u = (List.range (u.c.toNat * u.d.toNat)).map (unitF u) from rfl)
 have HAT := Lib.hid (unitF_at u)
 have HFA := Lib.hid fa
 have HFB := Lib.hid fb
 obtain ⟨P, hP⟩ : ∃ P, P = unitParts u := ⟨_, rfl⟩
 obtain ⟨F, hF⟩ : ∃ F, F = unitF u := ⟨_, rfl⟩
 rw [← hP] at HU ⊢
 rw [← hF] at HU HAT
 clear hP hF k1 k2 k3 fa fb o5 o6 o7
 obtain ⟨a, b, c, d⟩ := u
 dsimp only at *
 obtain ⟨R, rfl⟩ : ∃ R : Nat, c = (R : Int) := ⟨c.toNat, by omega⟩
 obtain ⟨C, rfl⟩ : ∃ C : Nat, d = (C : Int) := ⟨d.toNat, by omega⟩
 simp only [Int.toNat_natCast] at *
 have hR : R ≤ 32 := by omega
 have hC : C ≤ 48 := by omega
 have HMX := Lib.hid (show ∀ r : Nat, r ≤ R → r * C ≤ 1536 from fun r hr => by
  have := Nat.mul_le_mul (show r ≤ 32 by omega) hC
  omega)
 clear s1 s2 s3 s4 o1 o2 o3 o4
 go_enter Try.func130, Try.ntmps130
 go_wp2
 go_loopw [9, 10] (fun v i wr => ∃ r : Nat, r ≤ R ∧ i = .int .i64 r ∧ KQ.Own wr w.heap.size v ((List.range (r * C)).map F) ∧ Below w.heap.size w wr) (fun _ i _ => R - (intOf i).toNat)
 case atStart => exact ⟨0, Nat.zero_le _, rfl, by rw [Nat.zero_mul]; exact Lk.Own.nil _ _, Below.refl _ _⟩
 case round =>
  obtain ⟨r, hr, rfl, hown, hbl⟩ := hrel
  have HO := Lib.hid hown
  have HB := Lib.hid hbl
  clear hown hbl
  by_cases hlt : r < R
  ·obtain ⟨v1, hv1⟩ : ∃ v, v = u9 := ⟨_, rfl⟩
   obtain ⟨w1, hw1⟩ : ∃ w1, w1 = wr := ⟨_, rfl⟩
   subst hw1
   rw [← hv1] at HO
   go_wp2
   go_loopw [9, 11] (fun v i wr => ∃ c : Nat, c ≤ C ∧ i = .int .i64 c ∧ KQ.Own wr w.heap.size v ((List.range (r * C + c)).map F) ∧ Below w.heap.size w wr) (fun _ i _ => C - (intOf i).toNat)
   case atStart => exact ⟨0, Nat.zero_le _, rfl, by rw [← hv1]; exact HO.out, HB.out⟩
   case round =>
    clear HO
    obtain ⟨c, hc, rfl, hown, hbl⟩ := hrel
    have HO := Lib.hid hown
    have HB2 := Lib.hid hbl
    clear hown hbl
    by_cases hlt2 : c < C
    ·have HS := Lib.hid (map_snoc F (r * C + c))
     rw [HAT.out r c hlt2] at HS
     have HOK := Lib.hid (show KQ.ok ⟨a, b, r, c⟩ from ⟨HFA.out, HFB.out, (show fits (r : Int) by unfold fits; omega), (show fits (c : Int) by unfold fits; omega)⟩)
     have HLN := Lib.hid (show ((List.range (r * C + c)).map F).length = r * C + c by simp)
     have hm := HMX.out r hr
     generalize (List.range (r * C + c)).map F = L at *
     go_wp2_with (at_builtin; refine Lk.wpList_app (K := KQ) _ rfl _ _ rfl rfl w.heap.size (wr.heap.size + 1) _ _ L [⟨a, b, r, c⟩] rfl rfl (HO.out.alloc _) (Lk.IsL.lit (K := KQ) _ ⟨a, b, r, c⟩ _ HOK.out rfl wr.heap.size rfl) ?c1 ?c2 ?_)
     case c1 => have := HLN.out; simp; omega
     case c2 => have := HB2.out.size; simp; omega
     intro v2 w3 hown hgrow _
     have HB3 := Lib.hid (Lk.Own.grow' (HO.out.alloc _) (Below.al HB2.out _) (by have := HB2.out.size; simp; omega) hgrow)
     have HO3 := Lib.hid hown
     clear hown hgrow
     go_wp2
     go_roundw
     case rel => exact ⟨c + 1, by omega, num_i (by omega), by rw [← Nat.add_assoc, HS.out]; exact HO3.out, HB3.out⟩
     case measure => simp [intOf]; omega
    ·obtain rfl : c = C := by omega
     go_wp2
     go_roundw
     case rel => exact ⟨r + 1, by omega, num_i (by omega), by rw [Nat.succ_mul]; exact HO.out, HB2.out⟩
     case measure => simp [intOf]; omega
  ·obtain rfl : r = R := by omega
   go_wp2
   go_ret
   exact ⟨_, rfl, by rw [HU.out]; exact HO.out, HB.out⟩
end Go.Proofs.Ytacjonncakhhmaa

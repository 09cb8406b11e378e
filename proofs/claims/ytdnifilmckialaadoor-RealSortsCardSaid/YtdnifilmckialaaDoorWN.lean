/- The program's mergePairs: runs two by two are merged from one row into another one. -/
import Derived.Test.YtdnifilmckialaaDoorWM
import Derived.Test.YtdnifilmckialaaDoorMathT
import Derived.Deep.QuietTactic
import Derived.BigQuiet
namespace Go.Proofs.YtdnifilmckialaaDoor
open Go.RowKit
theorem slc (F o o' a a' c c' : Nat) (h : o = o') (k : a = a') (m : c = c') : Value.slice (some ⟨F, o, none⟩) a c = .slice (some ⟨F, o', none⟩) a' c' := by rw [h, k, m]
/-- What holds at the head of each round of the inner loop. -/
def InLoop (W j l n la lb F T : Nat) (xs : List Nat) (w : World) (a b at' : Value) (wr2 : World) : Prop :=
  ∃ (p q ra rb t : Nat) (pa pb : Option Addr) (ca cb : Nat) (zs dd : List Nat), p + ra = la ∧ q + rb = lb ∧ t = l + p + q ∧ a = .slice pa ra ca ∧ (0 < ra → pa = some ⟨F, l + p, none⟩ ∧ ca = n - (l + p)) ∧ b = .slice pb rb cb ∧ (0 < rb → pb = some ⟨F, l + W + q, none⟩ ∧ cb = n - (l + W + q)) ∧ at' = .int .i64 t ∧ InnerRel W j l p q xs zs dd ∧ zs.length = n ∧ Row wr2 F xs ∧ Row wr2 T zs ∧ Only T w wr2
theorem InLoop.of {W j l n la lb F T : Nat} {xs : List Nat} {w : World} {a b at' : Value} {wr2 : World} (p q ra rb t : Nat) (pa pb : Option Addr) (ca cb : Nat) (zs dd : List Nat) (h : p + ra = la ∧ q + rb = lb ∧ t = l + p + q ∧ a = .slice pa ra ca ∧ (0 < ra → pa = some ⟨F, l + p, none⟩ ∧ ca = n - (l + p)) ∧ b = .slice pb rb cb ∧ (0 < rb → pb = some ⟨F, l + W + q, none⟩ ∧ cb = n - (l + W + q)) ∧ at' = .int .i64 t ∧ InnerRel W j l p q xs zs dd ∧ zs.length = n ∧ Row wr2 F xs ∧ Row wr2 T zs ∧ Only T w wr2) : InLoop W j l n la lb F T xs w a b at' wr2 :=
  ⟨p, q, ra, rb, t, pa, pb, ca, cb, zs, dd, h⟩
/-- A store of a float: the model's store of one cell (the kit's laws name other kinds alone). -/
theorem run_store_float {P : Program} {w : World} {a : Addr} {m : Mode} (k : FloatKind) (b : Nat) : (store a (.float k b) m).run P w = stored P w a (.float k b) m := run_store P w a _ m rfl
set_option maxRecDepth 1000000 in
set_option maxHeartbeats 4000000 in
theorem mp_any (F T n W : Nat) (hFT : F ≠ T) (xs ys : List Nat) (hx : xs.length = n) (hy : ys.length = n) (hn : n ≤ 17592186044416) (hW : 1 ≤ W) (hWn : W < n) (hlt : ∀ x ∈ xs, x < 18446744073709551616) (w : World) (hF : Row w F xs) (hT : Row w T ys) :
    Calls Tryd.prog 48 #[.slice (some ⟨F, 0, none⟩) n n, .slice (some ⟨T, 0, none⟩) n n, .int .i64 W] w fun e w' => e = .returned (.tuple #[]) ∧ Row w' F xs ∧ (∃ j, n ≤ 2 * W * j ∧ Row w' T (dn W j xs)) ∧ Only T w w' := by
  have HX := Lib.hid hx
  have HY := Lib.hid hy
  have HLT := Lib.hid hlt
  have HF := Lib.hid hF
  have HTT := Lib.hid hT
  have HFT := Lib.hid hFT
  clear hx hy hlt hF hT hFT
  have hsf := fun (w : World) (a : Addr) (m : Mode) (b : Nat) => run_store_float (P := Tryd.prog) (w := w) (a := a) (m := m) .f64 b
  go_enter Tryd.func48, Tryd.ntmps48
  go_wp2
  go_step3
  go_wp2
  go_step3
  go_wp2
  go_loopw [6] (fun lo wr => ∃ (j l : Nat) (ys' : List Nat), l = 2 * W * j ∧ l ≤ n + 2 * W ∧ lo = .int .i64 l ∧ ys'.length = n ∧ ys'.take l = dn W j xs ∧ Row wr F xs ∧ Row wr T ys' ∧ Only T w wr) (fun lo _ => 3 * n - (intOf lo).toNat)
  case atStart => exact ⟨0, 0, ys, by simp, by omega, rfl, HY.out, rfl, HF.out, HTT.out, Only.refl _ _⟩
  case round =>
    obtain ⟨j, l, ys', hl, hln, rfl, hlen, hdone, hF, hT, ho⟩ := hrel
    have HL := Lib.hid hl
    have HLEN := Lib.hid hlen
    have HD := Lib.hid hdone
    have HF' := Lib.hid hF
    have HT' := Lib.hid hT
    have HO := Lib.hid ho
    clear hl hlen hdone hF hT ho
    by_cases hlt : l < n
    · by_cases c1 : l + 2 * W ≤ n
      · have c0 : l + W < n := by omega
        go_wp2
        go_quiet (fail)
        go_wp2
        rw [show l + W - l = W by omega, show l + 2 * W - (l + W) = W by omega]
        go_loopw [9, 10, 11] (fun a b at' wr2 => InLoop W j l n W W F T xs w a b at' wr2) (fun _ _ at' _ => (l + 2 * W) - (intOf at').toNat)
        case atStart => exact InLoop.of 0 0 W W l (some ⟨F, l, none⟩) (some ⟨F, l + W, none⟩) (n - l) (n - (l + W)) ys' [] ⟨by omega, by omega, rfl, slc _ _ _ _ _ _ _ rfl (by omega) (by omega), fun _ => ⟨rfl, rfl⟩, slc _ _ _ _ _ _ _ rfl (by omega) (by omega), fun _ => ⟨rfl, rfl⟩, rfl, InnerRel.start HD.out, HLEN.out, HF'.out, HT'.out, HO.out.drewN _⟩
        case round =>
          unfold InLoop at hrel
          obtain ⟨p, q, ra, rb, t, pa, pb, ca, cb, zs, dd, hpa, hqb, ht, rfl, hpa2, rfl, hpb2, rfl, hin, hzl, hRF, hRT, hRO⟩ := hrel
          have HQ := Lib.hid hpa
          have HQ2 := Lib.hid hqb
          have b1 : t + ra + rb ≤ n := by omega
          have HIN := Lib.hid hin
          have HZ := Lib.hid hzl
          have HRF := Lib.hid hRF
          have HRT := Lib.hid hRT
          have HRO := Lib.hid hRO
          have HTQ := Lib.hid ht
          have HPA := Lib.hid hpa2
          have HPB := Lib.hid hpb2
          have hH : ((l + 2 * W) : Nat) = t + ra + rb := by omega
          have HHH := Lib.hid hH
          have b2 : t + ra + rb ≤ (l + 2 * W) := by omega
          have b3 : (l + 2 * W) ≤ t + ra + rb := by omega
          have hla := runA_length W j l xs HL.out
          have hlb := runB_length W j l xs HL.out
          rw [HX.out] at hla hlb
          have hla2 : (runA W j xs).length = W := by omega
          have hlb2 : (runB W j xs).length = W := by omega
          have KLa := Lib.hid hla2
          have KLb := Lib.hid hlb2
          clear hpa hqb hin hzl hRF hRT hRO ht hpa2 hpb2 hH hla hlb hla2 hlb2
          by_cases z1 : ra = 0
          · subst z1
            obtain ⟨cs, hcs⟩ : ∃ cs, (runB W j xs).drop q = cs := ⟨_, rfl⟩
            have hcl : cs.length = rb := by
              have e1 := KLb.out
              have e2 := HQ2.out
              rw [← hcs, List.length_drop]
              omega
            have hmg0 := left_B W j p q xs (by have e1 := KLa.out; have e2 := HQ.out; omega)
            have hmg := hmg0.trans hcs
            have hcell : ∀ w, Row w F xs → 0 < rb → ∃ ad, pb = some ad ∧ ∀ i, i < cs.length → w.cell? (ad.add i) = some (.float .f64 (cs.getD i 0)) := fun w hw hrb => by
              obtain ⟨e1, _⟩ := HPB.out hrb
              refine ⟨_, e1, fun i hi => ?_⟩
              have e2 := HQ2.out
              have e3 := HX.out
              rw [← hcs, dropB_getD W j l q i xs HL.out (by omega), Go.WideShapes.add_plain]
              exact hw.cell _ (by omega)
            have HCS := Lib.hid hcs
            have HCL := Lib.hid hcl
            have HMG := Lib.hid hmg
            have HCE := Lib.hid hcell
            clear hcs hcl hmg hmg0 hcell
            by_cases z2 : t < n
            · go_wp2_with (refine copy_only rfl _ _ 39 39 rfl 22 Tryd.underlying39 (by kernel_rfl) _ _ _ _ _ _ rfl rfl T t zs cs HRT.out ?c1 ?c2 ?c3 ?_)
              case c1 =>
                have e1 := HCL.out
                show cs.length = min rb _
                omega
              case c2 =>
                intro hpos
                have e1 := HCL.out
                first | exact ⟨rfl, HCE.out _ HRF.out (by omega)⟩ | exact HCE.out _ HRF.out (by omega)
              case c3 =>
                have e1 := HCL.out
                have e2 := HZ.out
                omega
              · intro w' hrow honly
                go_wp2
                go_roundw
                case rel =>
                  have e1 := HCL.out
                  have e2 := HZ.out
                  have e3 := HTQ.out
                  have e4 := HHH.out
                  have hrow' := hrow.out
                  have hcl := HIN.out.close HMG.out (by omega) (by omega)
                  rw [← e3] at hcl
                  exact ⟨j + 1, l + 2 * W, _, by rw [HL.out, Nat.mul_succ], by omega, num_i (by omega), by simp; omega, hcl, HRF.out.other honly.out HFT.out, hrow', HRO.out.trans honly.out⟩
                case measure => simp [intOf]; omega
            · have ez : t = n := by omega
              have er : rb = 0 := by omega
              subst ez
              subst er
              have ecs : cs = [] := List.eq_nil_of_length_eq_zero HCL.out
              subst ecs
              clear z2 b1
              go_wp2_with (refine wpList_copy_nothing rfl _ _ 39 39 rfl 22 Tryd.underlying39 (by kernel_rfl) _ _ _ _ _ _ rfl rfl (Nat.zero_min _) ?_)
              go_roundw
              case rel =>
                have e2 := HZ.out
                have e3 := HTQ.out
                have hcl := HIN.out.close HMG.out (by simp; omega) (by omega)
                rw [← e3] at hcl
                exact ⟨j + 1, l + 2 * W, zs, by rw [HL.out, Nat.mul_succ], by omega, num_i (by omega), HZ.out, by simpa using hcl, HRF.out, HRT.out, HRO.out⟩
              case measure => simp [intOf]; omega
          · by_cases z3 : rb = 0
            · subst z3
              obtain ⟨cs, hcs⟩ : ∃ cs, (runA W j xs).drop p = cs := ⟨_, rfl⟩
              have hcl : cs.length = ra := by
                have e1 := KLa.out
                have e2 := HQ.out
                rw [← hcs, List.length_drop]
                omega
              have hmg0 := left_A W j p q xs (by have e1 := KLb.out; have e2 := HQ2.out; omega)
              have hmg := hmg0.trans hcs
              have hcell : ∀ w, Row w F xs → 0 < ra → ∃ ad, pa = some ad ∧ ∀ i, i < cs.length → w.cell? (ad.add i) = some (.float .f64 (cs.getD i 0)) := fun w hw hrb => by
                obtain ⟨e1, _⟩ := HPA.out hrb
                refine ⟨_, e1, fun i hi => ?_⟩
                have e2 := HQ.out
                have e3 := HX.out
                rw [← hcs, dropA_getD W j l p i xs HL.out (by omega), Go.WideShapes.add_plain]
                exact hw.cell _ (by omega)
              have HCS := Lib.hid hcs
              have HCL := Lib.hid hcl
              have HMG := Lib.hid hmg
              have HCE := Lib.hid hcell
              have z2 : t < n := by omega
              clear hcs hcl hmg hmg0 hcell
              · go_wp2_with (refine copy_only rfl _ _ 39 39 rfl 22 Tryd.underlying39 (by kernel_rfl) _ _ _ _ _ _ rfl rfl T t zs cs HRT.out ?f1 ?f2 ?f3 ?_)
                case f1 =>
                  have e1 := HCL.out
                  show cs.length = min ra _
                  omega
                case f2 =>
                  intro hpos
                  have e1 := HCL.out
                  first | exact ⟨rfl, HCE.out _ HRF.out (by omega)⟩ | exact HCE.out _ HRF.out (by omega)
                case f3 =>
                  have e1 := HCL.out
                  have e2 := HZ.out
                  omega
                · intro w' hrow honly
                  go_wp2
                  go_roundw
                  case rel =>
                    have e1 := HCL.out
                    have e2 := HZ.out
                    have e3 := HTQ.out
                    have e4 := HHH.out
                    have hrow' := hrow.out
                    have hcl := HIN.out.close HMG.out (by omega) (by omega)
                    rw [← e3] at hcl
                    exact ⟨j + 1, l + 2 * W, _, by rw [HL.out, Nat.mul_succ], by omega, num_i (by omega), by simp; omega, hcl, HRF.out.other honly.out HFT.out, hrow', HRO.out.trans honly.out⟩
                  case measure => simp [intOf]; omega
            · obtain ⟨rfl, hca0⟩ := HPA.out (by omega)
              obtain ⟨rfl, hcb0⟩ := HPB.out (by omega)
              have e2 := HQ.out
              have e3 := HX.out
              have e4 := HQ2.out
              have hca := HRF.out.cell (l + p) (by omega)
              have hcb := HRF.out.cell (l + W + q) (by omega)
              have hva : xs.getD (l + p) 0 < 18446744073709551616 := HLT.out _ (by rw [getD_getElem _ _ (by omega)]; exact List.getElem_mem _)
              have hvb : xs.getD (l + W + q) 0 < 18446744073709551616 := HLT.out _ (by rw [getD_getElem _ _ (by omega)]; exact List.getElem_mem _)
              have hfr := HRT.out.frozen t
              have hct := HRT.out.cell t (by rw [HZ.out]; omega)
              have hsa := HIN.out.takeA HL.out (by omega) (by omega) (by rw [HZ.out]; omega)
              have hsb := HIN.out.takeB HL.out (by omega) (by omega) (by rw [HZ.out]; omega)
              rw [← HTQ.out] at hsa hsb
              have HSA := Lib.hid hsa
              have HSB := Lib.hid hsb
              have e5 := HTQ.out
              have ka : ra ≤ ca := by omega
              have kb : rb ≤ cb := by omega
              have ka2 : ca ≤ n := by omega
              have kb2 : cb ≤ n := by omega
              have KCa := Lib.hid hca0
              have KCb := Lib.hid hcb0
              clear hsa hsb e2 e3 e4 e5 hca0 hcb0
              generalize xs.getD (l + p) 0 = xa at *
              generalize xs.getD (l + W + q) 0 = xb at *
              generalize zs.getD t 0 = xt at *
              have z1' : ((ra : Int) == 0) = false := by rw [beq_eq_false_iff_ne]; omega
              have z3' : ((rb : Int) == 0) = false := by rw [beq_eq_false_iff_ne]; omega
              rcases Bool.eq_false_or_eq_true (ahd xb xa) with ha | ha
              · have HSB' := Lib.hid (HSB.out ha)
                clear HSA HSB
                by_cases hc1 : cb = 1
                · have er : rb = 1 := by omega
                  subst er
                  subst hc1
                  go_wp2
                  go_quiet ((go_at_call 23; refine Calls.quiet_of_same ((ahead_any _ _ (by omega) (by omega) _).mono fun _ _ ⟨he, hw⟩ => ⟨he, hw.symm⟩)))
                  rw [ha]
                  go_wp2
                  go_region
                  go_wp2
                  go_roundw
                  case rel =>
                    have e2 := HQ.out
                    have e4 := HQ2.out
                    have e5 := HTQ.out
                    have e6 := HZ.out
                    first | exact (InLoop.of p (q + 1) ra 0 (t + 1) _ _ _ _ (zs.set t xb) (dd ++ [xb]) ⟨by omega, by omega, by omega, rfl, fun _ => ⟨rfl, KCa.out⟩, rfl, fun hh => absurd hh (by omega), num_i (by omega), HSB'.out, by rw [List.length_set]; omega, HRF.out.other (((Only.refl T _).drewN _).setCell t _) HFT.out, (show Row (wr.drewN _) T zs from HRT.out).set t xb, (HRO.out.drewN _).setCell t _⟩) | ((repeat apply Exists.intro); refine ⟨?_, rfl⟩; exact (InLoop.of p (q + 1) ra 0 (t + 1) _ _ _ _ (zs.set t xb) (dd ++ [xb]) ⟨by omega, by omega, by omega, rfl, fun _ => ⟨rfl, KCa.out⟩, rfl, fun hh => absurd hh (by omega), num_i (by omega), HSB'.out, by rw [List.length_set]; omega, HRF.out.other (((Only.refl T _).drewN _).setCell t _) HFT.out, (show Row (wr.drewN _) T zs from HRT.out).set t xb, (HRO.out.drewN _).setCell t _⟩); all_goals exact undef)
                  case measure => simp [intOf]; omega
                · have hc2 : 1 < cb := by omega
                  clear hc1
                  go_wp2
                  go_quiet ((go_at_call 23; refine Calls.quiet_of_same ((ahead_any _ _ (by omega) (by omega) _).mono fun _ _ ⟨he, hw⟩ => ⟨he, hw.symm⟩)))
                  rw [ha]
                  go_wp2
                  go_region
                  go_wp2
                  go_roundw
                  case rel =>
                    have e2 := HQ.out
                    have e4 := HQ2.out
                    have e5 := HTQ.out
                    have e6 := HZ.out
                    first | exact (InLoop.of p (q + 1) ra (rb - 1) (t + 1) _ _ _ _ (zs.set t xb) (dd ++ [xb]) ⟨by omega, by omega, by omega, rfl, fun _ => ⟨rfl, KCa.out⟩, rfl, fun _ => ⟨rfl, by have e7 := KCb.out; omega⟩, num_i (by omega), HSB'.out, by rw [List.length_set]; omega, HRF.out.other (((Only.refl T _).drewN _).setCell t _) HFT.out, (show Row (wr.drewN _) T zs from HRT.out).set t xb, (HRO.out.drewN _).setCell t _⟩) | ((repeat apply Exists.intro); refine ⟨?_, rfl⟩; exact (InLoop.of p (q + 1) ra (rb - 1) (t + 1) _ _ _ _ (zs.set t xb) (dd ++ [xb]) ⟨by omega, by omega, by omega, rfl, fun _ => ⟨rfl, KCa.out⟩, rfl, fun _ => ⟨rfl, by have e7 := KCb.out; omega⟩, num_i (by omega), HSB'.out, by rw [List.length_set]; omega, HRF.out.other (((Only.refl T _).drewN _).setCell t _) HFT.out, (show Row (wr.drewN _) T zs from HRT.out).set t xb, (HRO.out.drewN _).setCell t _⟩); all_goals exact undef)
                  case measure => simp [intOf]; omega
              · have HSA' := Lib.hid (HSA.out ha)
                clear HSA HSB
                by_cases hc1 : ca = 1
                · have er : ra = 1 := by omega
                  subst er
                  subst hc1
                  go_wp2
                  go_quiet ((go_at_call 23; refine Calls.quiet_of_same ((ahead_any _ _ (by omega) (by omega) _).mono fun _ _ ⟨he, hw⟩ => ⟨he, hw.symm⟩)))
                  rw [ha]
                  go_wp2
                  go_region
                  go_wp2
                  go_roundw
                  case rel =>
                    have e2 := HQ.out
                    have e4 := HQ2.out
                    have e5 := HTQ.out
                    have e6 := HZ.out
                    first | exact (InLoop.of (p + 1) q 0 rb (t + 1) _ _ _ _ (zs.set t xa) (dd ++ [xa]) ⟨by omega, by omega, by omega, rfl, fun hh => absurd hh (by omega), rfl, fun _ => ⟨rfl, KCb.out⟩, num_i (by omega), HSA'.out, by rw [List.length_set]; omega, HRF.out.other (((Only.refl T _).drewN _).setCell t _) HFT.out, (show Row (wr.drewN _) T zs from HRT.out).set t xa, (HRO.out.drewN _).setCell t _⟩) | ((repeat apply Exists.intro); refine ⟨?_, rfl⟩; exact (InLoop.of (p + 1) q 0 rb (t + 1) _ _ _ _ (zs.set t xa) (dd ++ [xa]) ⟨by omega, by omega, by omega, rfl, fun hh => absurd hh (by omega), rfl, fun _ => ⟨rfl, KCb.out⟩, num_i (by omega), HSA'.out, by rw [List.length_set]; omega, HRF.out.other (((Only.refl T _).drewN _).setCell t _) HFT.out, (show Row (wr.drewN _) T zs from HRT.out).set t xa, (HRO.out.drewN _).setCell t _⟩); all_goals exact undef)
                  case measure => simp [intOf]; omega
                · have hc2 : 1 < ca := by omega
                  clear hc1
                  go_wp2
                  go_quiet ((go_at_call 23; refine Calls.quiet_of_same ((ahead_any _ _ (by omega) (by omega) _).mono fun _ _ ⟨he, hw⟩ => ⟨he, hw.symm⟩)))
                  rw [ha]
                  go_wp2
                  go_region
                  go_wp2
                  go_roundw
                  case rel =>
                    have e2 := HQ.out
                    have e4 := HQ2.out
                    have e5 := HTQ.out
                    have e6 := HZ.out
                    first | exact (InLoop.of (p + 1) q (ra - 1) rb (t + 1) _ _ _ _ (zs.set t xa) (dd ++ [xa]) ⟨by omega, by omega, by omega, rfl, fun _ => ⟨rfl, by have e7 := KCa.out; omega⟩, rfl, fun _ => ⟨rfl, KCb.out⟩, num_i (by omega), HSA'.out, by rw [List.length_set]; omega, HRF.out.other (((Only.refl T _).drewN _).setCell t _) HFT.out, (show Row (wr.drewN _) T zs from HRT.out).set t xa, (HRO.out.drewN _).setCell t _⟩) | ((repeat apply Exists.intro); refine ⟨?_, rfl⟩; exact (InLoop.of (p + 1) q (ra - 1) rb (t + 1) _ _ _ _ (zs.set t xa) (dd ++ [xa]) ⟨by omega, by omega, by omega, rfl, fun _ => ⟨rfl, by have e7 := KCa.out; omega⟩, rfl, fun _ => ⟨rfl, KCb.out⟩, num_i (by omega), HSA'.out, by rw [List.length_set]; omega, HRF.out.other (((Only.refl T _).drewN _).setCell t _) HFT.out, (show Row (wr.drewN _) T zs from HRT.out).set t xa, (HRO.out.drewN _).setCell t _⟩); all_goals exact undef)
                  case measure => simp [intOf]; omega
      · by_cases c2 : l + W < n
        · have c0 : l < n := hlt
          go_wp2
          go_quiet (fail)
          go_wp2
          rw [show l + W - l = W by omega]
          go_loopw [9, 10, 11] (fun a b at' wr2 => InLoop W j l n W (n - (l + W)) F T xs w a b at' wr2) (fun _ _ at' _ => n - (intOf at').toNat)
          case atStart => exact InLoop.of 0 0 W (n - (l + W)) l (some ⟨F, l, none⟩) (some ⟨F, l + W, none⟩) (n - l) (n - (l + W)) ys' [] ⟨by omega, by omega, rfl, slc _ _ _ _ _ _ _ rfl (by omega) (by omega), fun _ => ⟨rfl, rfl⟩, slc _ _ _ _ _ _ _ rfl (by omega) (by omega), fun _ => ⟨rfl, rfl⟩, rfl, InnerRel.start HD.out, HLEN.out, HF'.out, HT'.out, HO.out.drewN _⟩
          case round =>
            unfold InLoop at hrel
            obtain ⟨p, q, ra, rb, t, pa, pb, ca, cb, zs, dd, hpa, hqb, ht, rfl, hpa2, rfl, hpb2, rfl, hin, hzl, hRF, hRT, hRO⟩ := hrel
            have HQ := Lib.hid hpa
            have HQ2 := Lib.hid hqb
            have b1 : t + ra + rb ≤ n := by omega
            have HIN := Lib.hid hin
            have HZ := Lib.hid hzl
            have HRF := Lib.hid hRF
            have HRT := Lib.hid hRT
            have HRO := Lib.hid hRO
            have HTQ := Lib.hid ht
            have HPA := Lib.hid hpa2
            have HPB := Lib.hid hpb2
            have hH : (n : Nat) = t + ra + rb := by omega
            have HHH := Lib.hid hH
            have b2 : t + ra + rb ≤ n := by omega
            have b3 : n ≤ t + ra + rb := by omega
            have hla := runA_length W j l xs HL.out
            have hlb := runB_length W j l xs HL.out
            rw [HX.out] at hla hlb
            have hla2 : (runA W j xs).length = W := by omega
            have hlb2 : (runB W j xs).length = (n - (l + W)) := by omega
            have KLa := Lib.hid hla2
            have KLb := Lib.hid hlb2
            clear hpa hqb hin hzl hRF hRT hRO ht hpa2 hpb2 hH hla hlb hla2 hlb2
            by_cases z1 : ra = 0
            · subst z1
              obtain ⟨cs, hcs⟩ : ∃ cs, (runB W j xs).drop q = cs := ⟨_, rfl⟩
              have hcl : cs.length = rb := by
                have e1 := KLb.out
                have e2 := HQ2.out
                rw [← hcs, List.length_drop]
                omega
              have hmg0 := left_B W j p q xs (by have e1 := KLa.out; have e2 := HQ.out; omega)
              have hmg := hmg0.trans hcs
              have hcell : ∀ w, Row w F xs → 0 < rb → ∃ ad, pb = some ad ∧ ∀ i, i < cs.length → w.cell? (ad.add i) = some (.float .f64 (cs.getD i 0)) := fun w hw hrb => by
                obtain ⟨e1, _⟩ := HPB.out hrb
                refine ⟨_, e1, fun i hi => ?_⟩
                have e2 := HQ2.out
                have e3 := HX.out
                rw [← hcs, dropB_getD W j l q i xs HL.out (by omega), Go.WideShapes.add_plain]
                exact hw.cell _ (by omega)
              have HCS := Lib.hid hcs
              have HCL := Lib.hid hcl
              have HMG := Lib.hid hmg
              have HCE := Lib.hid hcell
              clear hcs hcl hmg hmg0 hcell
              by_cases z2 : t < n
              · go_wp2_with (refine copy_only rfl _ _ 39 39 rfl 22 Tryd.underlying39 (by kernel_rfl) _ _ _ _ _ _ rfl rfl T t zs cs HRT.out ?c1 ?c2 ?c3 ?_)
                case c1 =>
                  have e1 := HCL.out
                  show cs.length = min rb _
                  omega
                case c2 =>
                  intro hpos
                  have e1 := HCL.out
                  first | exact ⟨rfl, HCE.out _ HRF.out (by omega)⟩ | exact HCE.out _ HRF.out (by omega)
                case c3 =>
                  have e1 := HCL.out
                  have e2 := HZ.out
                  omega
                · intro w' hrow honly
                  go_wp2
                  go_roundw
                  case rel =>
                    have e1 := HCL.out
                    have e2 := HZ.out
                    have e3 := HTQ.out
                    have e4 := HHH.out
                    have hrow' := hrow.out
                    have hcl := HIN.out.close HMG.out (by omega) (by omega)
                    rw [← e3] at hcl
                    exact ⟨j + 1, l + 2 * W, _, by rw [HL.out, Nat.mul_succ], by omega, num_i (by omega), by simp; omega, hcl, HRF.out.other honly.out HFT.out, hrow', HRO.out.trans honly.out⟩
                  case measure => simp [intOf]; omega
              · have ez : t = n := by omega
                have er : rb = 0 := by omega
                subst ez
                subst er
                have ecs : cs = [] := List.eq_nil_of_length_eq_zero HCL.out
                subst ecs
                clear z2 b1
                go_wp2_with (refine wpList_copy_nothing rfl _ _ 39 39 rfl 22 Tryd.underlying39 (by kernel_rfl) _ _ _ _ _ _ rfl rfl (Nat.zero_min _) ?_)
                go_roundw
                case rel =>
                  have e2 := HZ.out
                  have e3 := HTQ.out
                  have hcl := HIN.out.close HMG.out (by simp; omega) (by omega)
                  rw [← e3] at hcl
                  exact ⟨j + 1, l + 2 * W, zs, by rw [HL.out, Nat.mul_succ], by omega, num_i (by omega), HZ.out, by simpa using hcl, HRF.out, HRT.out, HRO.out⟩
                case measure => simp [intOf]; omega
            · by_cases z3 : rb = 0
              · subst z3
                obtain ⟨cs, hcs⟩ : ∃ cs, (runA W j xs).drop p = cs := ⟨_, rfl⟩
                have hcl : cs.length = ra := by
                  have e1 := KLa.out
                  have e2 := HQ.out
                  rw [← hcs, List.length_drop]
                  omega
                have hmg0 := left_A W j p q xs (by have e1 := KLb.out; have e2 := HQ2.out; omega)
                have hmg := hmg0.trans hcs
                have hcell : ∀ w, Row w F xs → 0 < ra → ∃ ad, pa = some ad ∧ ∀ i, i < cs.length → w.cell? (ad.add i) = some (.float .f64 (cs.getD i 0)) := fun w hw hrb => by
                  obtain ⟨e1, _⟩ := HPA.out hrb
                  refine ⟨_, e1, fun i hi => ?_⟩
                  have e2 := HQ.out
                  have e3 := HX.out
                  rw [← hcs, dropA_getD W j l p i xs HL.out (by omega), Go.WideShapes.add_plain]
                  exact hw.cell _ (by omega)
                have HCS := Lib.hid hcs
                have HCL := Lib.hid hcl
                have HMG := Lib.hid hmg
                have HCE := Lib.hid hcell
                have z2 : t < n := by omega
                clear hcs hcl hmg hmg0 hcell
                · go_wp2_with (refine copy_only rfl _ _ 39 39 rfl 22 Tryd.underlying39 (by kernel_rfl) _ _ _ _ _ _ rfl rfl T t zs cs HRT.out ?f1 ?f2 ?f3 ?_)
                  case f1 =>
                    have e1 := HCL.out
                    show cs.length = min ra _
                    omega
                  case f2 =>
                    intro hpos
                    have e1 := HCL.out
                    first | exact ⟨rfl, HCE.out _ HRF.out (by omega)⟩ | exact HCE.out _ HRF.out (by omega)
                  case f3 =>
                    have e1 := HCL.out
                    have e2 := HZ.out
                    omega
                  · intro w' hrow honly
                    go_wp2
                    go_roundw
                    case rel =>
                      have e1 := HCL.out
                      have e2 := HZ.out
                      have e3 := HTQ.out
                      have e4 := HHH.out
                      have hrow' := hrow.out
                      have hcl := HIN.out.close HMG.out (by omega) (by omega)
                      rw [← e3] at hcl
                      exact ⟨j + 1, l + 2 * W, _, by rw [HL.out, Nat.mul_succ], by omega, num_i (by omega), by simp; omega, hcl, HRF.out.other honly.out HFT.out, hrow', HRO.out.trans honly.out⟩
                    case measure => simp [intOf]; omega
              · obtain ⟨rfl, hca0⟩ := HPA.out (by omega)
                obtain ⟨rfl, hcb0⟩ := HPB.out (by omega)
                have e2 := HQ.out
                have e3 := HX.out
                have e4 := HQ2.out
                have hca := HRF.out.cell (l + p) (by omega)
                have hcb := HRF.out.cell (l + W + q) (by omega)
                have hva : xs.getD (l + p) 0 < 18446744073709551616 := HLT.out _ (by rw [getD_getElem _ _ (by omega)]; exact List.getElem_mem _)
                have hvb : xs.getD (l + W + q) 0 < 18446744073709551616 := HLT.out _ (by rw [getD_getElem _ _ (by omega)]; exact List.getElem_mem _)
                have hfr := HRT.out.frozen t
                have hct := HRT.out.cell t (by rw [HZ.out]; omega)
                have hsa := HIN.out.takeA HL.out (by omega) (by omega) (by rw [HZ.out]; omega)
                have hsb := HIN.out.takeB HL.out (by omega) (by omega) (by rw [HZ.out]; omega)
                rw [← HTQ.out] at hsa hsb
                have HSA := Lib.hid hsa
                have HSB := Lib.hid hsb
                have e5 := HTQ.out
                have ka : ra ≤ ca := by omega
                have kb : rb ≤ cb := by omega
                have ka2 : ca ≤ n := by omega
                have kb2 : cb ≤ n := by omega
                have KCa := Lib.hid hca0
                have KCb := Lib.hid hcb0
                clear hsa hsb e2 e3 e4 e5 hca0 hcb0
                generalize xs.getD (l + p) 0 = xa at *
                generalize xs.getD (l + W + q) 0 = xb at *
                generalize zs.getD t 0 = xt at *
                have z1' : ((ra : Int) == 0) = false := by rw [beq_eq_false_iff_ne]; omega
                have z3' : ((rb : Int) == 0) = false := by rw [beq_eq_false_iff_ne]; omega
                rcases Bool.eq_false_or_eq_true (ahd xb xa) with ha | ha
                · have HSB' := Lib.hid (HSB.out ha)
                  clear HSA HSB
                  by_cases hc1 : cb = 1
                  · have er : rb = 1 := by omega
                    subst er
                    subst hc1
                    go_wp2
                    go_quiet ((go_at_call 23; refine Calls.quiet_of_same ((ahead_any _ _ (by omega) (by omega) _).mono fun _ _ ⟨he, hw⟩ => ⟨he, hw.symm⟩)))
                    rw [ha]
                    go_wp2
                    go_region
                    go_wp2
                    go_roundw
                    case rel =>
                      have e2 := HQ.out
                      have e4 := HQ2.out
                      have e5 := HTQ.out
                      have e6 := HZ.out
                      first | exact (InLoop.of p (q + 1) ra 0 (t + 1) _ _ _ _ (zs.set t xb) (dd ++ [xb]) ⟨by omega, by omega, by omega, rfl, fun _ => ⟨rfl, KCa.out⟩, rfl, fun hh => absurd hh (by omega), num_i (by omega), HSB'.out, by rw [List.length_set]; omega, HRF.out.other (((Only.refl T _).drewN _).setCell t _) HFT.out, (show Row (wr.drewN _) T zs from HRT.out).set t xb, (HRO.out.drewN _).setCell t _⟩) | ((repeat apply Exists.intro); refine ⟨?_, rfl⟩; exact (InLoop.of p (q + 1) ra 0 (t + 1) _ _ _ _ (zs.set t xb) (dd ++ [xb]) ⟨by omega, by omega, by omega, rfl, fun _ => ⟨rfl, KCa.out⟩, rfl, fun hh => absurd hh (by omega), num_i (by omega), HSB'.out, by rw [List.length_set]; omega, HRF.out.other (((Only.refl T _).drewN _).setCell t _) HFT.out, (show Row (wr.drewN _) T zs from HRT.out).set t xb, (HRO.out.drewN _).setCell t _⟩); all_goals exact undef)
                    case measure => simp [intOf]; omega
                  · have hc2 : 1 < cb := by omega
                    clear hc1
                    go_wp2
                    go_quiet ((go_at_call 23; refine Calls.quiet_of_same ((ahead_any _ _ (by omega) (by omega) _).mono fun _ _ ⟨he, hw⟩ => ⟨he, hw.symm⟩)))
                    rw [ha]
                    go_wp2
                    go_region
                    go_wp2
                    go_roundw
                    case rel =>
                      have e2 := HQ.out
                      have e4 := HQ2.out
                      have e5 := HTQ.out
                      have e6 := HZ.out
                      first | exact (InLoop.of p (q + 1) ra (rb - 1) (t + 1) _ _ _ _ (zs.set t xb) (dd ++ [xb]) ⟨by omega, by omega, by omega, rfl, fun _ => ⟨rfl, KCa.out⟩, rfl, fun _ => ⟨rfl, by have e7 := KCb.out; omega⟩, num_i (by omega), HSB'.out, by rw [List.length_set]; omega, HRF.out.other (((Only.refl T _).drewN _).setCell t _) HFT.out, (show Row (wr.drewN _) T zs from HRT.out).set t xb, (HRO.out.drewN _).setCell t _⟩) | ((repeat apply Exists.intro); refine ⟨?_, rfl⟩; exact (InLoop.of p (q + 1) ra (rb - 1) (t + 1) _ _ _ _ (zs.set t xb) (dd ++ [xb]) ⟨by omega, by omega, by omega, rfl, fun _ => ⟨rfl, KCa.out⟩, rfl, fun _ => ⟨rfl, by have e7 := KCb.out; omega⟩, num_i (by omega), HSB'.out, by rw [List.length_set]; omega, HRF.out.other (((Only.refl T _).drewN _).setCell t _) HFT.out, (show Row (wr.drewN _) T zs from HRT.out).set t xb, (HRO.out.drewN _).setCell t _⟩); all_goals exact undef)
                    case measure => simp [intOf]; omega
                · have HSA' := Lib.hid (HSA.out ha)
                  clear HSA HSB
                  by_cases hc1 : ca = 1
                  · have er : ra = 1 := by omega
                    subst er
                    subst hc1
                    go_wp2
                    go_quiet ((go_at_call 23; refine Calls.quiet_of_same ((ahead_any _ _ (by omega) (by omega) _).mono fun _ _ ⟨he, hw⟩ => ⟨he, hw.symm⟩)))
                    rw [ha]
                    go_wp2
                    go_region
                    go_wp2
                    go_roundw
                    case rel =>
                      have e2 := HQ.out
                      have e4 := HQ2.out
                      have e5 := HTQ.out
                      have e6 := HZ.out
                      first | exact (InLoop.of (p + 1) q 0 rb (t + 1) _ _ _ _ (zs.set t xa) (dd ++ [xa]) ⟨by omega, by omega, by omega, rfl, fun hh => absurd hh (by omega), rfl, fun _ => ⟨rfl, KCb.out⟩, num_i (by omega), HSA'.out, by rw [List.length_set]; omega, HRF.out.other (((Only.refl T _).drewN _).setCell t _) HFT.out, (show Row (wr.drewN _) T zs from HRT.out).set t xa, (HRO.out.drewN _).setCell t _⟩) | ((repeat apply Exists.intro); refine ⟨?_, rfl⟩; exact (InLoop.of (p + 1) q 0 rb (t + 1) _ _ _ _ (zs.set t xa) (dd ++ [xa]) ⟨by omega, by omega, by omega, rfl, fun hh => absurd hh (by omega), rfl, fun _ => ⟨rfl, KCb.out⟩, num_i (by omega), HSA'.out, by rw [List.length_set]; omega, HRF.out.other (((Only.refl T _).drewN _).setCell t _) HFT.out, (show Row (wr.drewN _) T zs from HRT.out).set t xa, (HRO.out.drewN _).setCell t _⟩); all_goals exact undef)
                    case measure => simp [intOf]; omega
                  · have hc2 : 1 < ca := by omega
                    clear hc1
                    go_wp2
                    go_quiet ((go_at_call 23; refine Calls.quiet_of_same ((ahead_any _ _ (by omega) (by omega) _).mono fun _ _ ⟨he, hw⟩ => ⟨he, hw.symm⟩)))
                    rw [ha]
                    go_wp2
                    go_region
                    go_wp2
                    go_roundw
                    case rel =>
                      have e2 := HQ.out
                      have e4 := HQ2.out
                      have e5 := HTQ.out
                      have e6 := HZ.out
                      first | exact (InLoop.of (p + 1) q (ra - 1) rb (t + 1) _ _ _ _ (zs.set t xa) (dd ++ [xa]) ⟨by omega, by omega, by omega, rfl, fun _ => ⟨rfl, by have e7 := KCa.out; omega⟩, rfl, fun _ => ⟨rfl, KCb.out⟩, num_i (by omega), HSA'.out, by rw [List.length_set]; omega, HRF.out.other (((Only.refl T _).drewN _).setCell t _) HFT.out, (show Row (wr.drewN _) T zs from HRT.out).set t xa, (HRO.out.drewN _).setCell t _⟩) | ((repeat apply Exists.intro); refine ⟨?_, rfl⟩; exact (InLoop.of (p + 1) q (ra - 1) rb (t + 1) _ _ _ _ (zs.set t xa) (dd ++ [xa]) ⟨by omega, by omega, by omega, rfl, fun _ => ⟨rfl, by have e7 := KCa.out; omega⟩, rfl, fun _ => ⟨rfl, KCb.out⟩, num_i (by omega), HSA'.out, by rw [List.length_set]; omega, HRF.out.other (((Only.refl T _).drewN _).setCell t _) HFT.out, (show Row (wr.drewN _) T zs from HRT.out).set t xa, (HRO.out.drewN _).setCell t _⟩); all_goals exact undef)
                    case measure => simp [intOf]; omega
        · by_cases c3 : n < l + W
          · have c0 : l < n := hlt
            go_wp2
            go_quiet (fail)
            go_wp2
            skip
            go_loopw [9, 10, 11] (fun a b at' wr2 => InLoop W j l n (n - l) 0 F T xs w a b at' wr2) (fun _ _ at' _ => n - (intOf at').toNat)
            case atStart => exact InLoop.of 0 0 (n - l) 0 l (some ⟨F, l, none⟩) (some ⟨F, 0, none⟩) (n - l) (0) ys' [] ⟨by omega, by omega, rfl, slc _ _ _ _ _ _ _ rfl (by omega) (by omega), fun _ => ⟨rfl, rfl⟩, slc _ _ _ _ _ _ _ rfl (by omega) (by omega), fun hh => absurd hh (by omega), rfl, InnerRel.start HD.out, HLEN.out, HF'.out, HT'.out, HO.out.drewN _⟩
            case round =>
              unfold InLoop at hrel
              obtain ⟨p, q, ra, rb, t, pa, pb, ca, cb, zs, dd, hpa, hqb, ht, rfl, hpa2, rfl, hpb2, rfl, hin, hzl, hRF, hRT, hRO⟩ := hrel
              have HQ := Lib.hid hpa
              have HQ2 := Lib.hid hqb
              have b1 : t + ra + rb ≤ n := by omega
              have HIN := Lib.hid hin
              have HZ := Lib.hid hzl
              have HRF := Lib.hid hRF
              have HRT := Lib.hid hRT
              have HRO := Lib.hid hRO
              have HTQ := Lib.hid ht
              have HPA := Lib.hid hpa2
              have HPB := Lib.hid hpb2
              have hH : (n : Nat) = t + ra + rb := by omega
              have HHH := Lib.hid hH
              have b2 : t + ra + rb ≤ n := by omega
              have b3 : n ≤ t + ra + rb := by omega
              have hla := runA_length W j l xs HL.out
              have hlb := runB_length W j l xs HL.out
              rw [HX.out] at hla hlb
              have hla2 : (runA W j xs).length = (n - l) := by omega
              have hlb2 : (runB W j xs).length = 0 := by omega
              have KLa := Lib.hid hla2
              have KLb := Lib.hid hlb2
              clear hpa hqb hin hzl hRF hRT hRO ht hpa2 hpb2 hH hla hlb hla2 hlb2
              by_cases z1 : ra = 0
              · subst z1
                obtain ⟨cs, hcs⟩ : ∃ cs, (runB W j xs).drop q = cs := ⟨_, rfl⟩
                have hcl : cs.length = rb := by
                  have e1 := KLb.out
                  have e2 := HQ2.out
                  rw [← hcs, List.length_drop]
                  omega
                have hmg0 := left_B W j p q xs (by have e1 := KLa.out; have e2 := HQ.out; omega)
                have hmg := hmg0.trans hcs
                have hcell : ∀ w, Row w F xs → 0 < rb → ∃ ad, pb = some ad ∧ ∀ i, i < cs.length → w.cell? (ad.add i) = some (.float .f64 (cs.getD i 0)) := fun w hw hrb => by
                  obtain ⟨e1, _⟩ := HPB.out hrb
                  refine ⟨_, e1, fun i hi => ?_⟩
                  have e2 := HQ2.out
                  have e3 := HX.out
                  rw [← hcs, dropB_getD W j l q i xs HL.out (by omega), Go.WideShapes.add_plain]
                  exact hw.cell _ (by omega)
                have HCS := Lib.hid hcs
                have HCL := Lib.hid hcl
                have HMG := Lib.hid hmg
                have HCE := Lib.hid hcell
                clear hcs hcl hmg hmg0 hcell
                by_cases z2 : t < n
                · go_wp2_with (refine copy_only rfl _ _ 39 39 rfl 22 Tryd.underlying39 (by kernel_rfl) _ _ _ _ _ _ rfl rfl T t zs cs HRT.out ?c1 ?c2 ?c3 ?_)
                  case c1 =>
                    have e1 := HCL.out
                    show cs.length = min rb _
                    omega
                  case c2 =>
                    intro hpos
                    have e1 := HCL.out
                    first | exact ⟨rfl, HCE.out _ HRF.out (by omega)⟩ | exact HCE.out _ HRF.out (by omega)
                  case c3 =>
                    have e1 := HCL.out
                    have e2 := HZ.out
                    omega
                  · intro w' hrow honly
                    go_wp2
                    go_roundw
                    case rel =>
                      have e1 := HCL.out
                      have e2 := HZ.out
                      have e3 := HTQ.out
                      have e4 := HHH.out
                      have hrow' := hrow.out
                      have hcl := HIN.out.close HMG.out (by omega) (by omega)
                      rw [← e3] at hcl
                      exact ⟨j + 1, l + 2 * W, _, by rw [HL.out, Nat.mul_succ], by omega, num_i (by omega), by simp; omega, hcl, HRF.out.other honly.out HFT.out, hrow', HRO.out.trans honly.out⟩
                    case measure => simp [intOf]; omega
                · have ez : t = n := by omega
                  have er : rb = 0 := by omega
                  subst ez
                  subst er
                  have ecs : cs = [] := List.eq_nil_of_length_eq_zero HCL.out
                  subst ecs
                  clear z2 b1
                  go_wp2_with (refine wpList_copy_nothing rfl _ _ 39 39 rfl 22 Tryd.underlying39 (by kernel_rfl) _ _ _ _ _ _ rfl rfl (Nat.zero_min _) ?_)
                  go_roundw
                  case rel =>
                    have e2 := HZ.out
                    have e3 := HTQ.out
                    have hcl := HIN.out.close HMG.out (by simp; omega) (by omega)
                    rw [← e3] at hcl
                    exact ⟨j + 1, l + 2 * W, zs, by rw [HL.out, Nat.mul_succ], by omega, num_i (by omega), HZ.out, by simpa using hcl, HRF.out, HRT.out, HRO.out⟩
                  case measure => simp [intOf]; omega
              · by_cases z3 : rb = 0
                · subst z3
                  obtain ⟨cs, hcs⟩ : ∃ cs, (runA W j xs).drop p = cs := ⟨_, rfl⟩
                  have hcl : cs.length = ra := by
                    have e1 := KLa.out
                    have e2 := HQ.out
                    rw [← hcs, List.length_drop]
                    omega
                  have hmg0 := left_A W j p q xs (by have e1 := KLb.out; have e2 := HQ2.out; omega)
                  have hmg := hmg0.trans hcs
                  have hcell : ∀ w, Row w F xs → 0 < ra → ∃ ad, pa = some ad ∧ ∀ i, i < cs.length → w.cell? (ad.add i) = some (.float .f64 (cs.getD i 0)) := fun w hw hrb => by
                    obtain ⟨e1, _⟩ := HPA.out hrb
                    refine ⟨_, e1, fun i hi => ?_⟩
                    have e2 := HQ.out
                    have e3 := HX.out
                    rw [← hcs, dropA_getD W j l p i xs HL.out (by omega), Go.WideShapes.add_plain]
                    exact hw.cell _ (by omega)
                  have HCS := Lib.hid hcs
                  have HCL := Lib.hid hcl
                  have HMG := Lib.hid hmg
                  have HCE := Lib.hid hcell
                  have z2 : t < n := by omega
                  clear hcs hcl hmg hmg0 hcell
                  · go_wp2_with (refine copy_only rfl _ _ 39 39 rfl 22 Tryd.underlying39 (by kernel_rfl) _ _ _ _ _ _ rfl rfl T t zs cs HRT.out ?f1 ?f2 ?f3 ?_)
                    case f1 =>
                      have e1 := HCL.out
                      show cs.length = min ra _
                      omega
                    case f2 =>
                      intro hpos
                      have e1 := HCL.out
                      first | exact ⟨rfl, HCE.out _ HRF.out (by omega)⟩ | exact HCE.out _ HRF.out (by omega)
                    case f3 =>
                      have e1 := HCL.out
                      have e2 := HZ.out
                      omega
                    · intro w' hrow honly
                      go_wp2
                      go_roundw
                      case rel =>
                        have e1 := HCL.out
                        have e2 := HZ.out
                        have e3 := HTQ.out
                        have e4 := HHH.out
                        have hrow' := hrow.out
                        have hcl := HIN.out.close HMG.out (by omega) (by omega)
                        rw [← e3] at hcl
                        exact ⟨j + 1, l + 2 * W, _, by rw [HL.out, Nat.mul_succ], by omega, num_i (by omega), by simp; omega, hcl, HRF.out.other honly.out HFT.out, hrow', HRO.out.trans honly.out⟩
                      case measure => simp [intOf]; omega
                · exfalso
                  have e4 := HQ2.out
                  omega
          · obtain rfl : n = l + W := by omega
            have c0 : 0 < W := by omega
            go_wp2
            go_quiet (fail)
            go_wp2
            skip
            go_loopw [9, 10, 11] (fun a b at' wr2 => InLoop W j l (l + W) W 0 F T xs w a b at' wr2) (fun _ _ at' _ => (l + W) - (intOf at').toNat)
            case atStart => exact InLoop.of 0 0 W 0 l (some ⟨F, l, none⟩) (some ⟨F, 0, none⟩) ((l + W) - l) (0) ys' [] ⟨by omega, by omega, rfl, slc _ _ _ _ _ _ _ rfl (by omega) (by omega), fun _ => ⟨rfl, rfl⟩, slc _ _ _ _ _ _ _ rfl (by omega) (by omega), fun hh => absurd hh (by omega), rfl, InnerRel.start HD.out, HLEN.out, HF'.out, HT'.out, HO.out.drewN _⟩
            case round =>
              unfold InLoop at hrel
              obtain ⟨p, q, ra, rb, t, pa, pb, ca, cb, zs, dd, hpa, hqb, ht, rfl, hpa2, rfl, hpb2, rfl, hin, hzl, hRF, hRT, hRO⟩ := hrel
              have HQ := Lib.hid hpa
              have HQ2 := Lib.hid hqb
              have b1 : t + ra + rb ≤ (l + W) := by omega
              have HIN := Lib.hid hin
              have HZ := Lib.hid hzl
              have HRF := Lib.hid hRF
              have HRT := Lib.hid hRT
              have HRO := Lib.hid hRO
              have HTQ := Lib.hid ht
              have HPA := Lib.hid hpa2
              have HPB := Lib.hid hpb2
              have hH : ((l + W) : Nat) = t + ra + rb := by omega
              have HHH := Lib.hid hH
              have b2 : t + ra + rb ≤ (l + W) := by omega
              have b3 : (l + W) ≤ t + ra + rb := by omega
              have hla := runA_length W j l xs HL.out
              have hlb := runB_length W j l xs HL.out
              rw [HX.out] at hla hlb
              have hla2 : (runA W j xs).length = W := by omega
              have hlb2 : (runB W j xs).length = 0 := by omega
              have KLa := Lib.hid hla2
              have KLb := Lib.hid hlb2
              clear hpa hqb hin hzl hRF hRT hRO ht hpa2 hpb2 hH hla hlb hla2 hlb2
              by_cases z1 : ra = 0
              · subst z1
                obtain ⟨cs, hcs⟩ : ∃ cs, (runB W j xs).drop q = cs := ⟨_, rfl⟩
                have hcl : cs.length = rb := by
                  have e1 := KLb.out
                  have e2 := HQ2.out
                  rw [← hcs, List.length_drop]
                  omega
                have hmg0 := left_B W j p q xs (by have e1 := KLa.out; have e2 := HQ.out; omega)
                have hmg := hmg0.trans hcs
                have hcell : ∀ w, Row w F xs → 0 < rb → ∃ ad, pb = some ad ∧ ∀ i, i < cs.length → w.cell? (ad.add i) = some (.float .f64 (cs.getD i 0)) := fun w hw hrb => by
                  obtain ⟨e1, _⟩ := HPB.out hrb
                  refine ⟨_, e1, fun i hi => ?_⟩
                  have e2 := HQ2.out
                  have e3 := HX.out
                  rw [← hcs, dropB_getD W j l q i xs HL.out (by omega), Go.WideShapes.add_plain]
                  exact hw.cell _ (by omega)
                have HCS := Lib.hid hcs
                have HCL := Lib.hid hcl
                have HMG := Lib.hid hmg
                have HCE := Lib.hid hcell
                clear hcs hcl hmg hmg0 hcell
                by_cases z2 : t < (l + W)
                · go_wp2_with (refine copy_only rfl _ _ 39 39 rfl 22 Tryd.underlying39 (by kernel_rfl) _ _ _ _ _ _ rfl rfl T t zs cs HRT.out ?c1 ?c2 ?c3 ?_)
                  case c1 =>
                    have e1 := HCL.out
                    show cs.length = min rb _
                    omega
                  case c2 =>
                    intro hpos
                    have e1 := HCL.out
                    first | exact ⟨rfl, HCE.out _ HRF.out (by omega)⟩ | exact HCE.out _ HRF.out (by omega)
                  case c3 =>
                    have e1 := HCL.out
                    have e2 := HZ.out
                    omega
                  · intro w' hrow honly
                    go_wp2
                    go_roundw
                    case rel =>
                      have e1 := HCL.out
                      have e2 := HZ.out
                      have e3 := HTQ.out
                      have e4 := HHH.out
                      have hrow' := hrow.out
                      have hcl := HIN.out.close HMG.out (by omega) (by omega)
                      rw [← e3] at hcl
                      exact ⟨j + 1, l + 2 * W, _, by rw [HL.out, Nat.mul_succ], by omega, num_i (by omega), by simp; omega, hcl, HRF.out.other honly.out HFT.out, hrow', HRO.out.trans honly.out⟩
                    case measure => simp [intOf]; omega
                · have ez : t = (l + W) := by omega
                  have er : rb = 0 := by omega
                  subst ez
                  subst er
                  have ecs : cs = [] := List.eq_nil_of_length_eq_zero HCL.out
                  subst ecs
                  clear z2 b1
                  go_wp2_with (refine wpList_copy_nothing rfl _ _ 39 39 rfl 22 Tryd.underlying39 (by kernel_rfl) _ _ _ _ _ _ rfl rfl (Nat.zero_min _) ?_)
                  go_roundw
                  case rel =>
                    have e2 := HZ.out
                    have e3 := HTQ.out
                    have hcl := HIN.out.close HMG.out (by simp; omega) (by omega)
                    rw [← e3] at hcl
                    exact ⟨j + 1, l + 2 * W, zs, by rw [HL.out, Nat.mul_succ], by omega, num_i (by omega), HZ.out, by simpa using hcl, HRF.out, HRT.out, HRO.out⟩
                  case measure => simp [intOf]; omega
              · by_cases z3 : rb = 0
                · subst z3
                  obtain ⟨cs, hcs⟩ : ∃ cs, (runA W j xs).drop p = cs := ⟨_, rfl⟩
                  have hcl : cs.length = ra := by
                    have e1 := KLa.out
                    have e2 := HQ.out
                    rw [← hcs, List.length_drop]
                    omega
                  have hmg0 := left_A W j p q xs (by have e1 := KLb.out; have e2 := HQ2.out; omega)
                  have hmg := hmg0.trans hcs
                  have hcell : ∀ w, Row w F xs → 0 < ra → ∃ ad, pa = some ad ∧ ∀ i, i < cs.length → w.cell? (ad.add i) = some (.float .f64 (cs.getD i 0)) := fun w hw hrb => by
                    obtain ⟨e1, _⟩ := HPA.out hrb
                    refine ⟨_, e1, fun i hi => ?_⟩
                    have e2 := HQ.out
                    have e3 := HX.out
                    rw [← hcs, dropA_getD W j l p i xs HL.out (by omega), Go.WideShapes.add_plain]
                    exact hw.cell _ (by omega)
                  have HCS := Lib.hid hcs
                  have HCL := Lib.hid hcl
                  have HMG := Lib.hid hmg
                  have HCE := Lib.hid hcell
                  have z2 : t < (l + W) := by omega
                  clear hcs hcl hmg hmg0 hcell
                  · go_wp2_with (refine copy_only rfl _ _ 39 39 rfl 22 Tryd.underlying39 (by kernel_rfl) _ _ _ _ _ _ rfl rfl T t zs cs HRT.out ?f1 ?f2 ?f3 ?_)
                    case f1 =>
                      have e1 := HCL.out
                      show cs.length = min ra _
                      omega
                    case f2 =>
                      intro hpos
                      have e1 := HCL.out
                      first | exact ⟨rfl, HCE.out _ HRF.out (by omega)⟩ | exact HCE.out _ HRF.out (by omega)
                    case f3 =>
                      have e1 := HCL.out
                      have e2 := HZ.out
                      omega
                    · intro w' hrow honly
                      go_wp2
                      go_roundw
                      case rel =>
                        have e1 := HCL.out
                        have e2 := HZ.out
                        have e3 := HTQ.out
                        have e4 := HHH.out
                        have hrow' := hrow.out
                        have hcl := HIN.out.close HMG.out (by omega) (by omega)
                        rw [← e3] at hcl
                        exact ⟨j + 1, l + 2 * W, _, by rw [HL.out, Nat.mul_succ], by omega, num_i (by omega), by simp; omega, hcl, HRF.out.other honly.out HFT.out, hrow', HRO.out.trans honly.out⟩
                      case measure => simp [intOf]; omega
                · exfalso
                  have e4 := HQ2.out
                  omega
    · go_wp2
      rw [Exit.noGoto_normal]
      go_end0
      have e1 := HL.out
      have e2 := HLEN.out
      have e3 := HD.out
      rw [List.take_of_length_le (by omega)] at e3
      subst e3
      exact ⟨rfl, HF'.out, ⟨j, by omega, HT'.out⟩, HO.out⟩
end Go.Proofs.YtdnifilmckialaaDoor

/- The reference's places of one piece. -/
import Derived.Test.YtchnljdijmgnfaaWT
namespace Go.Proofs.Ytchnljdijmgnfaa
open Go.RowKit
theorem pieceV_some {l : List UInt8} {f t : Int × Int} (h : endsL l = some (f, t)) : pieceV l = rect f t ∧ endsE l = 0 := ⟨by rw [pieceV, h], by rw [endsE, h]; rfl⟩
theorem pieceV_none {l : List UInt8} (h : endsL l = none) : pieceV l = [] ∧ endsE l = 60 := ⟨by rw [pieceV, h], by rw [endsE, h]; rfl⟩
/-- A new one-pair literal, appended: what the loops want. -/
theorem lit_of (wr : World) (x y : Int) (hx : fits x) (hy : fits y) : IsL (wr.alloc (.cells #[.int .i64 x, .int .i64 y] 38)) (wr.heap.size + 1) (.slice (some ⟨wr.heap.size, 0, none⟩) 1 1) [(x, y)] := Pl.IsL.lit wr x y hx hy
set_option maxRecDepth 100000 in
set_option maxHeartbeats 8000000 in
theorem rpiece_any (s : ByteArray) (l : List UInt8) (hs : IsT s l) (hsz : l.length ≤ 100000) (w : World) :
    Calls Try.prog 52 #[.string s] w (PieceR w (pieceV l) (endsE l)) := by
  have HC := Lib.hid (rpieces_any s l hs hsz 58)
  have hsz2 := hsz
  obtain ⟨ps, hps⟩ : ∃ ps, ps = pieces 58 l := ⟨_, rfl⟩
  obtain ⟨k1, k2⟩ := ends_pieces l
  rw [← hps] at HC k1 k2
  have hpos : 0 < ps.length := by rw [hps]; exact List.length_pos_iff.2 (pieces_ne 58 l)
  have hplen : ps.length ≤ 100001 := by rw [hps]; have := pieces_len 58 l; omega
  have HPS := Lib.hid hps
  clear hps hs
  by_cases hbig : 2 < ps.length
  · obtain ⟨e1, e2⟩ := pieceV_none (k1 hbig)
    rw [e1, e2]
    clear e1 e2 k1 k2
    go_enter Try.func52, Try.ntmps52
    go_wp2_with fail
    refine (HC.out _).mono ?_
    rintro e w1 ⟨v1, rfl, hown, hb1⟩
    obtain ⟨⟨A, cap, rfl, hcap, _⟩, _, _⟩ := hown.isL (by omega)
    have HB1 := Lib.hid hb1
    clear hown hb1
    have hd : decide ((2 : Int) < (ps.length : Int)) = true := by (rw [decide_eq_true_eq]; omega)
    have hbig' : (3 : Int) ≤ (ps.length : Int) := by omega
    go_wp2
    go_ret2
    exact ⟨_, rfl, Pl.Own.nil _ _, HB1.out⟩
  · obtain ⟨j1, j2⟩ := k2 (by omega)
    have HPA := Lib.hid (rparse_any ⟨(cutA l 58).toArray⟩ (cutA l 58) ⟨rfl⟩ (by have := cutA_len l 58; omega))
    have HPB := Lib.hid (rparse_any ⟨(lastL l).toArray⟩ (lastL l) ⟨rfl⟩ (by have := lastL_len l; omega))
    have HEN : Hid (endsL l = match parseL (cutA l 58) with
      | none => none
      | some a => match parseL (lastL l) with
        | none => none
        | some b => some ((min a.1 b.1, min a.2 b.2), (max a.1 b.1, max a.2 b.2))) := Lib.hid rfl
    have HRA := Lib.hid (parse_right (cutA l 58))
    have HRB := Lib.hid (parse_right (lastL l))
    have eva : parseV (cutA l 58) = (parseL (cutA l 58)).getD (0, 0) := rfl
    have evb : parseV (lastL l) = (parseL (lastL l)).getD (0, 0) := rfl
    have eea : parseE (cutA l 58) = if (parseL (cutA l 58)).isSome = true then 0 else 60 := rfl
    have eeb : parseE (lastL l) = if (parseL (lastL l)).isSome = true then 0 else 60 := rfl
    rw [eva, eea] at HPA
    rw [evb, eeb] at HPB
    clear eva evb eea eeb k1 k2
    have J1 := Lib.hid j1
    have J2 := Lib.hid j2
    clear j1 j2
    generalize parseL (cutA l 58) = pa at *
    generalize parseL (lastL l) = pb at *
    generalize cutA l 58 = la at *
    generalize lastL l = lb at *
    obtain ⟨n, hn⟩ : ∃ n, n = ps.length := ⟨_, rfl⟩
    have HN := Lib.hid hn
    have hn2 : n = 1 ∨ n = 2 := by omega
    obtain ⟨a1, a2, hva⟩ : ∃ a1 a2, pa.getD (0, 0) = (a1, a2) := ⟨_, _, rfl⟩
    obtain ⟨E1, hE1⟩ : ∃ E1, E1 = (if pa.isSome = true then (0 : Int) else 60) := ⟨_, rfl⟩
    obtain ⟨b1, b2, hvb⟩ : ∃ b1 b2, pb.getD (0, 0) = (b1, b2) := ⟨_, _, rfl⟩
    obtain ⟨E2, hE2⟩ : ∃ E2, E2 = (if pb.isSome = true then (0 : Int) else 60) := ⟨_, rfl⟩
    rw [hva, ← hE1] at HPA
    rw [hvb, ← hE2] at HPB
    simp only at HPA HPB
    have HVA := Lib.hid hva
    have HVB := Lib.hid hvb
    have HE1 := Lib.hid hE1
    have HE2 := Lib.hid hE2
    clear hva hvb hE1 hE2
    go_enter Try.func52, Try.ntmps52
    go_wp2_with fail
    refine (HC.out _).mono ?_
    rintro e w1 ⟨v1, rfl, hown, hb1⟩
    obtain ⟨⟨A, cap, rfl, hcap, hcell⟩, _, _⟩ := hown.isL (by omega)
    obtain ⟨b, off, rfl, hbB, hcell⟩ := hcell hpos
    have q0 : w1.cell? ⟨b, off, none⟩ = some (.string ⟨la.toArray⟩) := by
      have := hcell 0 hpos 0 (.string ⟨(ps.getD 0 []).toArray⟩) rfl
      rw [J1.out] at this
      simpa using this
    have q1 : w1.cell? ⟨b, off + (n - 1), none⟩ = some (.string ⟨lb.toArray⟩) := by
      have := hcell (ps.length - 1) (by omega) 0 (.string ⟨(ps.getD (ps.length - 1) []).toArray⟩) rfl
      rw [J2.out, ← hn] at this
      simpa [Ks] using this
    have HB1 := Lib.hid hb1
    rw [← hn] at hcap ⊢
    clear hown hb1 hcell hn hpos hplen hbig
    have KEY : ∀ (w2 : World) (a1 a2 : Int), True := fun _ _ _ => trivial
    clear KEY
    rcases hn2 with rfl | rfl
    all_goals
      simp only [Nat.sub_self, Nat.add_zero, Nat.reduceSub] at q1
      go_wp2_with fail
      refine (HPA.out _).mono ?_
      rintro e w2 ⟨rfl, hb2⟩
      have hbB2 : b < w2.heap.size := by have := hb2.size; omega
      have q1 := keep_cell hb2 q1
      have HB2 := Lib.hid (Below.call HB1.out hb2)
      clear hb2 q0 hbB
      go_wp2_with fail
      refine (HPB.out _).mono ?_
      rintro e w3 ⟨rfl, hb3⟩
      have HB3 := Lib.hid (Below.call (HB2.out.alloc (by have := HB2.out.size; omega) _) hb3)
      have c0 := keep_cell (a := ⟨w2.heap.size, 0, none⟩) (v := .int .i64 a1) hb3 (by go_simp)
      have c1 := keep_cell (a := ⟨w2.heap.size, 1, none⟩) (v := .int .i64 a2) hb3 (by go_simp)
      have hz3 : w2.heap.size < w3.heap.size := by have := hb3.size; simp at this; omega
      clear hb3 q1
      cases pa with
      | none =>
        have HF := Lib.hid (pieceV_none (show endsL l = none from HEN.out))
        obtain rfl : E1 = 60 := HE1.out
        go_wp2
        go_ret2
        exact ⟨_, by rw [HF.out.2]; rfl, by rw [HF.out.1]; exact Pl.Own.nil _ _, HB3.out.alloc (by have := HB3.out.size; omega) _⟩
      | some a =>
        obtain rfl : E1 = 0 := HE1.out
        obtain rfl : a = (a1, a2) := HVA.out
        cases pb with
        | none =>
          have HF := Lib.hid (pieceV_none (show endsL l = none from HEN.out))
          obtain rfl : E2 = 60 := HE2.out
          go_wp2
          go_ret2
          exact ⟨_, by rw [HF.out.2]; rfl, by rw [HF.out.1]; exact Pl.Own.nil _ _, HB3.out.alloc (by have := HB3.out.size; omega) _⟩
        | some b' =>
          obtain rfl : E2 = 0 := HE2.out
          obtain rfl : b' = (b1, b2) := HVB.out
          have HF := Lib.hid (pieceV_some (show endsL l = some ((min a1 b1, min a2 b2), (max a1 b1, max a2 b2)) from HEN.out))
          have ra := HRA.out _ rfl
          have rb := HRB.out _ rfl
          simp only at ra rb
          go_wp2_with fail
          refine (rorder_any _ _ _).mono ?_
          rintro e w4 ⟨rfl, rfl⟩
          go_wp2_with fail
          refine (rorder_any _ _ _).mono ?_
          rintro e w5 ⟨rfl, rfl⟩
          have HB4 := Lib.hid (HB3.out.alloc (by have := HB3.out.size; omega) (.cells #[.int .i64 b1, .int .i64 b2] 38))
          have hf : 0 ≤ min a1 b1 ∧ min a1 b1 ≤ max a1 b1 ∧ max a1 b1 ≤ 31 ∧ 0 ≤ min a2 b2 ∧ min a2 b2 ≤ max a2 b2 ∧ max a2 b2 ≤ 47 := by omega
          clear c0 c1 ra rb
          generalize w3.alloc (.cells #[.int .i64 b1, .int .i64 b2] 38) = w5 at *
          generalize min a1 b1 = f1 at *
          generalize min a2 b2 = f2 at *
          generalize max a1 b1 = t1 at *
          generalize max a2 b2 = t2 at *
          obtain ⟨h1, h2, h3, h4, h5, h6⟩ := hf
          obtain ⟨R, hR⟩ : ∃ R : Nat, (R : Int) = t1 - f1 + 1 := ⟨(t1 - f1 + 1).toNat, by omega⟩
          obtain ⟨N, hN⟩ : ∃ N : Nat, (N : Int) = t2 - f2 + 1 := ⟨(t2 - f2 + 1).toNat, by omega⟩
          have HRE := Lib.hid (show rect (f1, f2) (t1, t2) = rectR (f1, f2) N R by rw [rect]; simp only; rw [← hR, ← hN, Int.toNat_natCast, Int.toNat_natCast])
          have hR32 : R ≤ 32 := by omega
          have hN48 : N ≤ 48 := by omega
          have HRR := Lib.hid hR
          have HNN := Lib.hid hN
          clear hR hN
          go_wp2
          go_loopw [13, 14, 15] (fun u r _ wr => ∃ i : Nat, i ≤ R ∧ r = .int .i64 (f1 + (i : Int)) ∧ Pl.Own wr w.heap.size u (rectR (f1, f2) N i) ∧ Below w.heap.size w wr) (fun _ r _ _ => (t1 + 1 - intOf r).toNat)
          case atStart => exact ⟨0, Nat.zero_le _, num_i (by simp), Pl.Own.nil _ _, HB4.out⟩
          case round =>
            obtain ⟨i, hi, rfl, hown, hb⟩ := hrel
            have HO := Lib.hid hown
            have HB := Lib.hid hb
            clear hown hb
            by_cases hlt : i < R
            · have hd : decide (f1 + (i : Int) ≤ t1) = true := by (rw [decide_eq_true_eq]; have := HRR.out; omega)
              obtain ⟨wo, hwo⟩ : ∃ wo, wo = wr := ⟨_, rfl⟩
              subst hwo
              go_wp2
              go_loopw [13, 15] (fun u c wr => ∃ j : Nat, j ≤ N ∧ c = .int .i64 (f2 + (j : Int)) ∧ Pl.Own wr w.heap.size u (rectR (f1, f2) N i ++ rowL (f1, f2) i j) ∧ Below w.heap.size w wr) (fun _ c _ => (t2 + 1 - intOf c).toNat)
              case atStart => exact ⟨0, Nat.zero_le _, num_i (by simp), by simpa [rowL] using HO.out, HB.out⟩
              case round =>
                obtain ⟨j, hj, rfl, hown, hb⟩ := hrel
                have HO2 := Lib.hid hown
                have HB2 := Lib.hid hb
                clear hown hb
                by_cases hlt2 : j < N
                · have hd2 : decide (f2 + (j : Int) ≤ t2) = true := by (rw [decide_eq_true_eq]; have := HNN.out; omega)
                  have hf1 : fits (f1 + (i : Int)) := by (have := HRR.out; unfold fits; omega)
                  have hf2 : fits (f2 + (j : Int)) := by (have := HNN.out; unfold fits; omega)
                  have HF1 := Lib.hid hf1
                  have HF2 := Lib.hid hf2
                  have HLE := Lib.hid (show (rectR (f1, f2) N i ++ rowL (f1, f2) i j).length ≤ 100000 by
                    rw [List.length_append, rectR_len, rowL_len]
                    have : i * N ≤ 32 * 48 := Nat.mul_le_mul (by omega) (by omega)
                    omega)
                  have hb1 : (0 : Int) ≤ (j : Int) := by omega
                  have hb2 : f2 + (j : Int) ≤ 47 := by have := HNN.out; omega
                  clear hf1 hf2
                  go_wp2_with (at_builtin; refine Pl.wpList_app _ rfl _ _ rfl w.heap.size (wr.heap.size + 1) _ _ _ [(f1 + (i : Int), f2 + (j : Int))] rfl rfl (HO2.out.alloc _) (lit_of wr (f1 + (i : Int)) (f2 + (j : Int)) HF1.out HF2.out) ?c1 ?c2 ?_)
                  case c1 => have q := HLE.out; (try simp only [List.length_append] at q ⊢); (try simp only [List.length_cons, List.length_nil]); omega
                  case c2 => have := HB2.out.size; (try simp); omega
                  intro v4 w4 hown4 hg4 hv4
                  have HO4 := Lib.hid hown4
                  have HB4 := Lib.hid ((HO2.out.alloc (.cells #[.int .i64 (f1 + (i : Int)), .int .i64 (f2 + (j : Int))] 38)).grow' (HB2.out.alloc (by have := HB2.out.size; omega) _) (by have := HB2.out.size; simp; omega) hg4)
                  clear hown4 hg4 hv4
                  go_wp2
                  go_roundw
                  case rel => exact ⟨j + 1, by omega, num_i (by omega), by have q := HO4.out; rw [rowL_succ]; exact q, HB4.out⟩
                  case measure => have := HNN.out; (try simp only [intOf]); omega
                · obtain rfl : j = N := by omega
                  have hd2 : decide (f2 + (j : Int) ≤ t2) = false := by (rw [decide_eq_false_iff_not]; have := HNN.out; omega)
                  have hb1 : f1 + (i : Int) ≤ 31 := by have := HRR.out; omega
                  have hb2 : (0 : Int) ≤ f1 + (i : Int) := by omega
                  go_wp2
                  go_roundw
                  case rel => exact ⟨i + 1, by omega, num_i (by omega), by have q := HO2.out; rw [rectR_succ]; exact q, HB2.out⟩
                  case measure => have := HRR.out; (try simp only [intOf]); omega
            · obtain rfl : i = R := by omega
              have hd : decide (f1 + (i : Int) ≤ t1) = false := by (rw [decide_eq_false_iff_not]; have := HRR.out; omega)
              go_wp2
              go_ret2
              exact ⟨_, by rw [HF.out.2]; rfl, by rw [HF.out.1, HRE.out]; exact HO.out, HB.out⟩
end Go.Proofs.Ytchnljdijmgnfaa

/- The table of all parts' lanes: what the program answers. -/
import Derived.Test.YtlgpnjbhmoomfaaZK
namespace Go.Proofs.Ytlgpnjbhmoomfaa
open Go.RowKit

theorem sum_nn (l : List Int) (h : ∀ x ∈ l, 0 ≤ x) : 0 ≤ l.sum := by
  induction l with
  | nil => simp
  | cons x l ih =>
    rw [List.sum_cons]
    have h1 := h x (by simp)
    have h2 := ih fun y hy => h y (by simp [hy])
    omega
theorem wells_nn (l : List Pl) (h : ∀ i, i < l.length → sizeB (l.getD i KP.dflt).rows (l.getD i KP.dflt).cols = true) : 0 ≤ wellsV l := by
  apply sum_nn
  intro x hx
  obtain ⟨q, hq, rfl⟩ := List.mem_map.1 hx
  obtain ⟨i, hi, rfl⟩ := List.mem_iff_getElem.1 hq
  have := h i hi
  rw [List.getD_eq_getElem?_getD, List.getElem?_eq_getElem hi] at this
  have := (size_mul this).1
  simp only [Option.getD_some] at this
  omega
theorem tips_nn (l : List Rk) (h : ∀ i, i < l.length → sizeB (l.getD i KR.dflt).rows (l.getD i KR.dflt).cols = true) : 0 ≤ tipsV l := by
  apply sum_nn
  intro x hx
  obtain ⟨q, hq, rfl⟩ := List.mem_map.1 hx
  obtain ⟨i, hi, rfl⟩ := List.mem_iff_getElem.1 hq
  have := h i hi
  rw [List.getD_eq_getElem?_getD, List.getElem?_eq_getElem hi] at this
  have := (size_mul this).1
  simp only [Option.getD_some] at this
  omega
theorem gb_refl (W : World) (row : Option Nat) : W.grownBy W row := World.grownBy.refl W row
theorem gb_base {W V : World} {g : Nat} {X : World} (h : Below g X W) (hs : g ≤ W.heap.size) (hg : W.grownBy V (some g)) : Below g X V := h.grown hg hs fun k hk => by cases hk; exact Nat.le_refl _

set_option maxRecDepth 100000 in
set_option maxHeartbeats 8000000 in
theorem table_any (d : Dk) (w : World) (hd : d.In w w.heap.size) : Calls Try.prog 19 #[d.v] w fun e w' => ∃ v, e = .returned (.tuple #[v, .int .i64 (zchk d)]) ∧ KS.Own w' w.heap.size v (tabV d) ∧ Below w.heap.size w w' := by
  have HD := Lib.hid hd
  have HC := Lib.hid (fun w h => zcheck_any d w h)
  have hsf := fun (w : World) (a : Addr) (m : Mode) (b : Nat) => run_store_float (P := Try.prog) (w := w) (a := a) (m := m) .f64 b
  obtain ⟨w0, hw0⟩ : ∃ w0, w0 = w.alloc (.cells #[.slice d.bA d.bn d.bc, .slice d.pA d.pn d.pc, .slice d.rA d.rn d.rc, .int .i64 d.arms] 26) := ⟨_, rfl⟩
  have HB0 := Lib.hid (show Below w.heap.size w w0 by rw [hw0]; exact Below.al (Below.refl _ _) _)
  have HD0 := Lib.hid (HD.out.then HB0.out)
  have hsz0 : w.heap.size < w0.heap.size := by rw [hw0]; simp
  have HF := Lib.hid (show ∀ w1, Below w0.heap.size w0 w1 → (w1.cell? ⟨w.heap.size, 0, none⟩ = some (.slice d.bA d.bn d.bc) ∧ w1.cell? ⟨w.heap.size, 1, none⟩ = some (.slice d.pA d.pn d.pc) ∧ w1.cell? ⟨w.heap.size, 2, none⟩ = some (.slice d.rA d.rn d.rc) ∧ w1.cell? ⟨w.heap.size, 3, none⟩ = some (.int .i64 d.arms)) from by
      intro w1 hb
      refine ⟨keep_cell hb ?_, keep_cell hb ?_, keep_cell hb ?_, keep_cell hb ?_⟩
      all_goals (rw [hw0]; simp))
  by_cases hc : zchk d = 0
  · have hz : dchk d = 0 := by
      unfold zchk at hc
      by_cases e : dchk d = 0
      · exact e
      · rw [if_neg e] at hc; exact absurd hc e
    have T : tabV d = pairs (tabP d) := by unfold tabV; rw [if_pos hc]
    have hok := dchk_ok d hz
    have HE := Lib.hid (show fstE ((racksL d).flatMap (rowV d.bl)) = 0 from by unfold zchk at hc; rw [if_pos hz] at hc; exact hc)
    have HT := Lib.hid (show pairs (tabP d) = pairs ((racksL d).flatMap (blkV d.bl)) ++ pairs (lanesV (d.bl.length - 1)) by rw [tab_eq, pairs_append])
    have HTL := Lib.hid (tab_len d hok)
    have hb2 := hok.rise.two
    have hb3 := hok.rise.most
    have HRS := Lib.hid (racks_ok d hok)
    have HRC := Lib.hid (fun w h => racks_any d w h hok.p4 hok.r4)
    have HCT := Lib.hid (fun w h => counts_any d w h)
    have HRL := Lib.hid (show (racksL d).length ≤ 8 by unfold racksL; rw [List.length_append, List.length_map]; have := hok.p4; have := hok.r4; omega)
    have HCV := Lib.hid (fun (w : World) (h : d.In w w.heap.size) (q : Rk) (c : Int) (hq : q.r < 18446744073709551616) => covered_any (.slice d.bA d.bn d.bc) d.bl q c w h.b hq)
    have HP0 := Lib.hid (fst_0 _ HE.out)
    have ec : cntV d = (wellsV d.pl, tipsV d.rl, (d.bl.length : Int) - 1) := by unfold cntV; rw [if_pos hz]
    rw [ec] at HCT
    have hw1 := hok.wells
    have hw2 := hok.tips
    have hw3 : 0 ≤ wellsV d.pl := wells_nn d.pl fun i hi => plate_size (hok.pl i hi)
    have hw4 : 0 ≤ tipsV d.rl := tips_nn d.rl fun i hi => hok.rl i hi
    have HQL := Lib.hid (show ((racksL d).flatMap (blkV d.bl)).length + (d.bl.length - 1) = (tabP d).length by rw [tab_eq, List.length_append]; unfold lanesV; simp)
    rw [T, hc]
    rw [hc] at HC
    clear T hc hz hd ec hok
    dsimp only at HCT
    generalize racksL d = RS at *
    generalize wellsV d.pl = x1 at *
    generalize tipsV d.rl = x2 at *
    obtain ⟨x3, hx3⟩ : ∃ x3 : Int, x3 = (d.bl.length : Int) - 1 := ⟨_, rfl⟩
    rw [← hx3] at HTL HCT
    have hx3a : 1 ≤ x3 := by omega
    have hx3b : x3 ≤ 24 := by omega
    have HX3 := Lib.hid hx3
    clear hx3
    obtain ⟨N, hN⟩ : ∃ N, N = (tabP d).length := ⟨_, rfl⟩
    rw [← hN] at HTL HQL
    generalize pairs (tabP d) = TT at *
    have hNN := HTL.out
    have HNB := Lib.hid (show N ≤ 1000 by omega)
    clear hN
    go_enter Try.func19, Try.ntmps19
    go_wp2_with fail
    rw [← hw0]
    clear hw0
    refine (HC.out _ HD0.out).mono ?_
    rintro e w1 ⟨rfl, hb1⟩
    obtain ⟨d0, d1, d2, d3⟩ := HF.out w1 hb1
    have HB1 := Lib.hid hb1
    clear hb1
    go_wp2_with fail
    refine (HCT.out w1 (HD0.out.then HB1.out)).mono ?_
    rintro e w2 ⟨rfl, hb2'⟩
    have HB2 := Lib.hid (Below.call HB1.out hb2')
    obtain ⟨e0, e1, e2, e3⟩ := HF.out w2 HB2.out
    clear hb2' d0 d1 d2 d3
    obtain ⟨i0, hi, hz0, hz1, hz2⟩ := info_parts KS.info
    obtain ⟨w3, hmk, hown, hgr⟩ := run_make_own (P := Try.prog) w2 w2.heap.size 46 30 i0 _ 2 Try.underlying46 hi hz0 hz1 .i64 .i64 N (by rw [hz2]; have := HNB.out; show 16 * N ≤ _; omega) (by have := HNB.out; unfold maxLen; omega) (Nat.le_refl _)
    have HO3 := Lib.hid (show KS.Own w3 w2.heap.size (.slice (some ⟨w2.heap.size, 0, none⟩) 0 N) [] from ⟨hown, fun x hx => by simp at hx⟩)
    have HB3 := Lib.hid (show Below w2.heap.size w2 w3 from (Below.refl _ _).grown hgr (Nat.le_refl _) (fun k hk => by cases hk))
    rw [hNN] at hmk
    clear hNN
    clear hown hgr hi hz0 hz1 hz2 e0 e1 e2 e3
    obtain ⟨e0, e1, e2, e3⟩ := HF.out w3 (Below.call HB2.out HB3.out)
    go_wp2_with fail
    refine (HRC.out w3 (HD0.out.then (Below.call HB2.out HB3.out))).mono ?_
    rintro e w4 ⟨v, rfl, hown4, hb4⟩
    have HB4 := Lib.hid (Below.call HB3.out hb4)
    have HO4 := Lib.hid (HO3.out.below hb4)
    have HIL := Lib.hid (hown4.isL (by have := HRL.out; omega))
    have hG3 : w2.heap.size < w3.heap.size := (HO3.out.lt _ rfl).2
    have hG4 : w2.heap.size < w4.heap.size := Nat.lt_of_lt_of_le hG3 hb4.size
    have HVB := Lib.hid (fun b (hb : v.ownBlock = some b) => (hown4.lt b hb).1)
    clear hb4 hown4 e0 e1 e2 e3 hmk HO3 HB3
    obtain ⟨A, cap, rfl⟩ : ∃ A cap, v = .slice A RS.length cap := by
      obtain ⟨⟨A, cap, h, _⟩, _⟩ := HIL.out
      exact ⟨A, cap, h⟩
    go_wp2_with fail
    obtain ⟨G, hG⟩ : ∃ G, G = w2.heap.size := ⟨_, rfl⟩
    rw [← hG] at HO4 hG3 hG4 ⊢
    have HB4 := Lib.hid (show Below G w2 w4 by rw [hG]; exact HB4.out)
    have HG2 := Lib.hid (show G ≤ w4.heap.size by omega)
    have HB2' := Lib.hid (fun (V : World) (h : Below G w2 V) => show Below w0.heap.size w0 V from Below.call HB2.out (by rw [← hG]; exact h))
    have HGw := Lib.hid (show w.heap.size ≤ G by rw [hG]; exact Nat.le_trans (Nat.le_of_lt hsz0) HB2.out.size)
    clear hG
    go_loopw [8, 36] (fun t i wr => ∃ k : Nat, k ≤ RS.length ∧ i = .int .i64 k ∧ t = .slice (some ⟨G, 0, none⟩) (pairs ((RS.take k).flatMap (blkV d.bl))).length N ∧ KS.Own wr G t (pairs ((RS.take k).flatMap (blkV d.bl))) ∧ w4.grownBy wr (some G)) (fun _ i _ => RS.length - (intOf i).toNat)
    case atStart => exact ⟨0, Nat.zero_le _, rfl, rfl, HO4.out, gb_refl _ _⟩
    case round =>
      obtain ⟨k, hk, rfl, rfl, hown, hgb⟩ := hrel
      have HO := Lib.hid hown
      have HG := Lib.hid hgb
      have h8 := HRL.out
      clear hown hgb HO4
      by_cases hlt : k < RS.length
      · obtain ⟨b, off, rfl, hb, hc, hcell⟩ := rack_cells HIL.out (by omega)
        obtain ⟨c0, c1, c2, c3, c4⟩ := hcell k hlt
        have hbG : b ≠ G := by have := HVB.out b rfl; omega
        have HQ := Lib.hid (HIL.out.okAt k hlt)
        have hco := HRS.out _ (getD_mem' RS k KR.dflt hlt)
        have HS := Lib.hid (show pairs ((RS.take (k + 1)).flatMap (blkV d.bl)) = pairs ((RS.take k).flatMap (blkV d.bl)) ++ (List.replicate (RS.getD k KR.dflt).rows.toNat (pairs (rowV d.bl (RS.getD k KR.dflt)))).flatten by
          rw [take_snoc RS k KR.dflt hlt, List.flatMap_append, pairs_append, List.flatMap_cons, List.flatMap_nil, List.append_nil]
          unfold blkV
          rw [pairs_flat])
        have hpl := pre_len (blkV d.bl) RS KR.dflt k hlt
        rw [blk_len] at hpl
        have hTk : (pairs ((RS.take k).flatMap (blkV d.bl))).length = ((RS.take k).flatMap (blkV d.bl)).length := pairs_len _
        rw [← hTk] at hpl
        have HRW := Lib.hid (fun j hj => row_snoc d.bl (RS.getD k KR.dflt) j hj)
        have hrl := row_len d.bl (RS.getD k KR.dflt)
        have HE0 := Lib.hid (fun (j : Nat) (hj : j < (RS.getD k KR.dflt).cols.toNat) => HP0.out (covV d.bl (RS.getD k KR.dflt).x (RS.getD k KR.dflt).p (RS.getD k KR.dflt).r (cf (j : Int))) (List.mem_flatMap.2 ⟨_, getD_mem' RS k KR.dflt hlt, by unfold rowV; exact List.mem_map.2 ⟨j, List.mem_range.2 hj, rfl⟩⟩))
        have hql := HQL.out
        have c0 := gb_cell HG.out c0 hbG
        have c1 := gb_cell HG.out c1 hbG
        have c2 := gb_cell HG.out c2 hbG
        have c3 := gb_cell HG.out c3 hbG
        have c4 := gb_cell HG.out c4 hbG
        obtain ⟨wo, hwo⟩ : ∃ wo, wo = wr := ⟨_, rfl⟩
        subst hwo
        clear hcell hTk
        generalize pairs ((RS.take k).flatMap (blkV d.bl)) = Tk at *
        generalize RS.getD k KR.dflt = q at *
        generalize rowV d.bl q = row at *
        generalize (RS.flatMap (blkV d.bl)).length = NR at *
        obtain ⟨a1, a2, X, P, R⟩ := q
        dsimp only at *
        obtain ⟨hro1, hro2, hco1, hco2⟩ := hco
        obtain ⟨n, rfl⟩ : ∃ n : Nat, a2 = (n : Int) := ⟨a2.toNat, by omega⟩
        obtain ⟨m, rfl⟩ : ∃ m : Nat, a1 = (m : Int) + 1 := ⟨a1.toNat - 1, by omega⟩
        have hm1 : ((m : Int) + 1).toNat = m + 1 := by omega
        rw [Int.toNat_natCast] at HRW HE0 hrl
        simp only [Int.toNat_natCast, hm1] at hpl HS
        clear hm1
        obtain ⟨w5, hw5⟩ : ∃ w5, w5 = wo.alloc (.cells #[.int .i64 ((m : Int) + 1), .int .i64 n, .float .f64 X, .float .f64 P, .float .f64 R] 79) := ⟨_, rfl⟩
        have hGo : G < wo.heap.size := Nat.lt_of_lt_of_le hG4 HG.out.size
        have HG5 := Lib.hid (show w4.grownBy w5 (some G) by rw [hw5]; exact gb_trans HG.out (gb_below (Below.al (Below.refl _ _) _)))
        have HO5 := Lib.hid (show KS.Own w5 G (.slice (some ⟨G, 0, none⟩) Tk.length N) Tk by rw [hw5]; exact HO.out.alloc _)
        have f0 : w5.cell? ⟨wo.heap.size, 0, none⟩ = some (.int .i64 ((m : Int) + 1)) := by rw [hw5]; exact alloc_cell _ _ _ _ _ rfl
        have f1 : w5.cell? ⟨wo.heap.size, 1, none⟩ = some (.int .i64 n) := by rw [hw5]; exact alloc_cell _ _ _ _ _ rfl
        have f2 : w5.cell? ⟨wo.heap.size, 2, none⟩ = some (.float .f64 X) := by rw [hw5]; exact alloc_cell _ _ _ _ _ rfl
        have f3 : w5.cell? ⟨wo.heap.size, 3, none⟩ = some (.float .f64 P) := by rw [hw5]; exact alloc_cell _ _ _ _ _ rfl
        have f4 : w5.cell? ⟨wo.heap.size, 4, none⟩ = some (.float .f64 R) := by rw [hw5]; exact alloc_cell _ _ _ _ _ rfl
        have HF5 := Lib.hid (show ∀ V, w5.grownBy V (some G) → V.cell? ⟨wo.heap.size, 0, none⟩ = some (.int .i64 ((m : Int) + 1)) ∧ V.cell? ⟨wo.heap.size, 1, none⟩ = some (.int .i64 n) ∧ V.cell? ⟨wo.heap.size, 2, none⟩ = some (.float .f64 X) ∧ V.cell? ⟨wo.heap.size, 3, none⟩ = some (.float .f64 P) ∧ V.cell? ⟨wo.heap.size, 4, none⟩ = some (.float .f64 R) from
          fun V hg => ⟨gb_cell hg f0 (Nat.ne_of_gt hGo), gb_cell hg f1 (Nat.ne_of_gt hGo), gb_cell hg f2 (Nat.ne_of_gt hGo), gb_cell hg f3 (Nat.ne_of_gt hGo), gb_cell hg f4 (Nat.ne_of_gt hGo)⟩)
        go_wp2_with fail
        rw [← hw5]
        clear hw5 c0 c1 c2 c3 c4 f0 f1 f2 f3 f4
        go_loopw [8, 42] (fun t c wr => ∃ j : Nat, j ≤ n ∧ c = .int .i64 j ∧ t = .slice (some ⟨G, 0, none⟩) (Tk ++ pairs (row.take j)).length N ∧ KS.Own wr G t (Tk ++ pairs (row.take j)) ∧ w5.grownBy wr (some G)) (fun _ c _ => n - (intOf c).toNat)
        case atStart =>
          have e : Tk ++ pairs (row.take 0) = Tk := by simp [pairs]
          exact ⟨0, Nat.zero_le _, rfl, by rw [e], by rw [e]; exact HO5.out, gb_refl _ _⟩
        case round =>
          obtain ⟨j, hj, rfl, ht, hown, hgb⟩ := hrel
          rw [ht] at hown
          have HTt := Lib.hid ht
          clear ht
          have HOi := Lib.hid hown
          have HGi := Lib.hid hgb
          clear hown hgb
          have HBi := Lib.hid (gb_base HB4.out HG2.out (gb_trans HG5.out HGi.out))
          by_cases hlj : j < n
          · obtain ⟨e0, e1, e2, e3, e4⟩ := HF5.out wr HGi.out
            obtain ⟨d0, d1, d2, d3⟩ := HF.out wr (HB2'.out wr HBi.out)
            have HCJ := Lib.hid (HCV.out wr (HD0.out.then (HB2'.out wr HBi.out)) ⟨((m : Int) + 1), n, X, P, R⟩ j HQ.out.2.2.2.2)
            have hgood := cov_good d.bl X P R (cf (j : Int)) HQ.out.2.2.2.2 (HE0.out j hlj)
            have HRJ := Lib.hid (HRW.out j hlj)
            have he0 := HE0.out j hlj
            dsimp only at HCJ
            generalize covV d.bl X P R (cf (j : Int)) = t at *
            obtain ⟨t1, t2, t3⟩ := t
            unfold rchVal at HCJ
            dsimp only at *
            subst he0
            have HOKT := Lib.hid (show KS.ok ((t1 : Int), (t2 : Int)) from ⟨show fits (t1 : Int) by unfold fits; omega, show fits (t2 : Int) by unfold fits; omega⟩)
            have hlen : (Tk ++ pairs (row.take j)).length = Tk.length + j := by rw [List.length_append, pairs_len, List.length_take]; omega
            have HLen := Lib.hid hlen
            have HPL := Lib.hid (show Tk.length + (j + 1) ≤ N by
              rw [Nat.succ_mul] at hpl
              omega)
            clear hgood hlen
            obtain ⟨TJ, hTJ⟩ : ∃ TJ, TJ = Tk ++ pairs (row.take j) := ⟨_, rfl⟩
            rw [← hTJ] at HOi HLen HTt
            have HE1 := Lib.hid (show Tk ++ pairs (row.take (j + 1)) = TJ ++ [((t1 : Int), (t2 : Int))] by rw [HRJ.out, ← List.append_assoc, ← hTJ])
            clear hTJ
            go_wp2_with fail
            refine HCJ.out.mono ?_
            rintro e w6 ⟨rfl, hb6⟩
            have HO6 := Lib.hid (HOi.out.below hb6)
            have HG6 := Lib.hid (gb_trans HGi.out (gb_below (row := some G) hb6))
            clear hb6 e0 e1 e2 e3 e4 d0 d1 d2 d3
            go_wp2_with (at_builtin; refine Lk.wpList_room (K := KS) _ rfl _ _ rfl rfl G (w6.heap.size + 1 + 1) G N _ TJ [((t1 : Int), (t2 : Int))] HTt.out rfl ((HO6.out.alloc _).alloc _) (Lk.IsL.lit (K := KS) _ ((t1 : Int), (t2 : Int)) _ HOKT.out rfl (w6.heap.size + 1) (by simp)) (Nat.succ_pos _) ?c0 ?c1 ?c2 ?_)
            case c0 => have h1 := HLen.out; have h2 := HPL.out; simp; omega
            case c1 => have h1 := HLen.out; have h2 := HPL.out; have h3 := HNB.out; simp; omega
            case c2 => have h1 := HG2.out; have h2 := (gb_trans HG5.out HG6.out).size; simp; omega
            intro w7 hown hgrow
            have HO7 := Lib.hid hown
            have HG7 := Lib.hid (gb_trans (gb_trans HG6.out (gb_below (Below.al (Below.al (Below.refl _ _) _) _))) hgrow)
            clear hown hgrow
            go_wp2
            go_roundw
            case rel =>
              exact ⟨j + 1, by omega, num_i (by omega), by rw [HE1.out]; simp, by rw [HE1.out]; exact HO7.out, HG7.out⟩
            case measure => simp [intOf]; omega
          · obtain rfl : j = n := by omega
            have hrt : row.take j = row := List.take_of_length_le (by omega)
            rw [hrt] at HOi HTt
            have hlen : (Tk ++ pairs row).length = Tk.length + j := by rw [List.length_append, pairs_len]; omega
            obtain rfl := HTt.out
            rw [hlen] at HOi HTt ⊢
            obtain ⟨e0, e1, e2, e3, e4⟩ := HF5.out wr HGi.out
            have hpN : Tk.length + (m + 1) * j + (d.bl.length - 1) ≤ N := by omega
            have hp0 : 0 ≤ (Tk.length : Int) + j := by omega
            have hjm : j ≤ (m + 1) * j := Nat.le_mul_of_pos_left j (Nat.succ_pos m)
            have hp1 : (Tk.length : Int) + j ≤ N := by omega
            have hp2 : Tk.length + j ≤ N := by omega
            have hp3 : Tk.length ≤ Tk.length + j := by omega
            have hnb := HNB.out
            have hTk : (Tk.length : Int) < 9223372036854775807 := by omega
            have hp4 : (Tk.length : Int) ≤ max ((Tk.length : Int) + j) 0 := by omega
            clear HTt hrt HCV
            have hpr : (pairs row).length = j := by rw [pairs_len]; exact hrl
            have HPR := Lib.hid hpr
            have HHL := Lib.hid hlen
            have HHP := Lib.hid (show ∀ i, i < m → Tk.length + j + (i + 1) * j ≤ N from fun i hi => by
              have h1 : (i + 1) * j ≤ m * j := Nat.mul_le_mul_right j hi
              rw [Nat.succ_mul] at hpl
              omega)
            clear hpr hlen
            go_wp2_with fail
            clear e0 e1 e2 e3 e4 hp0 hp1 hp2 hp3 hp4 hpN hjm hTk
            obtain ⟨wp, hwp⟩ : ∃ wp, wp = wr := ⟨_, rfl⟩
            subst hwp
            obtain ⟨rv, hrv⟩ : ∃ rv, rv = Value.slice (some ⟨G, Tk.length * 2, none⟩) j j := ⟨_, rfl⟩
            (try rw [show Tk.length + j - Tk.length = j from Nat.add_sub_cancel_left ..])
            rw [← hrv]
            have HRV := Lib.hid hrv
            clear hrv
            go_loopw [8, 72] (fun t c wr => ∃ i : Nat, i ≤ m ∧ c = .int .i64 i ∧ t = .slice (some ⟨G, 0, none⟩) (Tk ++ pairs row ++ (List.replicate i (pairs row)).flatten).length N ∧ KS.Own wr G t (Tk ++ pairs row ++ (List.replicate i (pairs row)).flatten) ∧ w5.grownBy wr (some G)) (fun _ c _ => m - (intOf c).toNat)
            case atStart =>
              have e : Tk ++ pairs row ++ (List.replicate 0 (pairs row)).flatten = Tk ++ pairs row := by simp
              exact ⟨0, Nat.zero_le _, rfl, by rw [e, HHL.out], by rw [e]; exact HOi.out, HGi.out⟩
            case round =>
              obtain ⟨i, hi, rfl, ht, hown, hgb⟩ := hrel
              rw [ht] at hown
              have HTt := Lib.hid ht
              clear ht HOi HGi HBi
              have HOi := Lib.hid hown
              have HGi := Lib.hid hgb
              clear hown hgb
              by_cases hli : i < m
              · have hll : (Tk ++ pairs row ++ (List.replicate i (pairs row)).flatten).length = Tk.length + j + i * j := by rw [List.length_append, HHL.out, rep_len, HPR.out]
                have hN1 := HHP.out i hli
                rw [Nat.succ_mul] at hN1
                have HPT := Lib.hid (show KS.IsL wr wr.heap.size rv (pairs row) by
                  rw [HRV.out]
                  have := Lk.Own.part Tk (pairs row) (List.replicate i (pairs row)).flatten HOi.out rfl (by rw [hll]; omega)
                  rw [HPR.out] at this
                  exact this)
                have HE1 := Lib.hid (show Tk ++ pairs row ++ (List.replicate (i + 1) (pairs row)).flatten = (Tk ++ pairs row ++ (List.replicate i (pairs row)).flatten) ++ pairs row by rw [rep_snoc, List.append_assoc, List.append_assoc, List.append_assoc])
                have HN1 := Lib.hid hN1
                have HLL := Lib.hid hll
                clear hN1 hll
                generalize Tk ++ pairs row ++ (List.replicate i (pairs row)).flatten = TJ at *
                go_wp2_with (at_builtin; refine Lk.wpList_room (K := KS) _ rfl _ _ rfl rfl G wr.heap.size G N _ TJ (pairs row) HTt.out rfl HOi.out HPT.out ?c3 ?c0 ?c1 ?c2 ?_)
                case c3 => rw [HPR.out]; omega
                case c0 => have h1 := HLL.out; have h2 := HN1.out; have h3 := HPR.out; omega
                case c1 => have h1 := HLL.out; have h2 := HN1.out; have h3 := HPR.out; have h4 := HNB.out; omega
                case c2 => have h1 := HG2.out; have h2 := (gb_trans HG5.out HGi.out).size; omega
                intro w7 hown hgrow
                have HO7 := Lib.hid hown
                have HG7 := Lib.hid (gb_trans HGi.out hgrow)
                clear hown hgrow
                go_wp2
                go_roundw
                case rel => exact ⟨i + 1, by omega, num_i (by omega), by rw [HE1.out]; simp, by rw [HE1.out]; exact HO7.out, HG7.out⟩
                case measure => simp [intOf]; omega
              · obtain rfl : i = m := by omega
                have e : Tk ++ pairs row ++ (List.replicate i (pairs row)).flatten = pairs ((RS.take (k + 1)).flatMap (blkV d.bl)) := by
                  rw [HS.out, List.replicate_succ, List.flatten_cons, List.append_assoc]
                rw [e] at HOi HTt
                clear e
                go_wp2
                go_roundw
                case rel => exact ⟨k + 1, by omega, num_i (by omega), HTt.out, by rw [HTt.out]; exact HOi.out, gb_trans HG5.out HGi.out⟩
                case measure => simp [intOf]; omega
      · obtain rfl : k = RS.length := by omega
        rw [List.take_length] at HO ⊢
        obtain ⟨L, hL⟩ : ∃ L, L = d.bl.length - 1 := ⟨_, rfl⟩
        have hxL : x3 = (L : Int) := by have := HX3.out; omega
        have hql := HQL.out
        rw [← hL] at hql HT
        have hTR : (pairs (RS.flatMap (blkV d.bl))).length = (RS.flatMap (blkV d.bl)).length := pairs_len _
        rw [← hTR] at hql
        have HQ2 := Lib.hid hql
        have hL24 : L ≤ 24 := by omega
        clear hTR hql hL
        generalize pairs (RS.flatMap (blkV d.bl)) = TR at *
        subst hxL
        go_wp2_with fail
        go_loopw [8, 80] (fun t c wr => ∃ i : Nat, i ≤ L ∧ c = .int .i64 i ∧ t = .slice (some ⟨G, 0, none⟩) (TR ++ pairs (lanesV i)).length N ∧ KS.Own wr G t (TR ++ pairs (lanesV i)) ∧ w4.grownBy wr (some G)) (fun _ c _ => L - (intOf c).toNat)
        case atStart =>
          have e : TR ++ pairs (lanesV 0) = TR := by simp [lanesV, pairs]
          exact ⟨0, Nat.zero_le _, rfl, by rw [e], by rw [e]; exact HO.out, HG.out⟩
        case round =>
          obtain ⟨i, hi, rfl, ht, hown, hgb⟩ := hrel
          rw [ht] at hown
          have HTt := Lib.hid ht
          clear ht HO HG
          have HOi := Lib.hid hown
          have HGi := Lib.hid hgb
          clear hown hgb
          by_cases hli : i < L
          · have hll : (TR ++ pairs (lanesV i)).length = TR.length + i := by rw [List.length_append, pairs_len]; unfold lanesV; simp
            have HLL := Lib.hid hll
            have HE1 := Lib.hid (show TR ++ pairs (lanesV (i + 1)) = (TR ++ pairs (lanesV i)) ++ [((i : Int), (i : Int))] by
              unfold lanesV
              rw [List.range_succ, List.map_append, pairs_append, List.append_assoc]
              rfl)
            have HOKT := Lib.hid (show KS.ok ((i : Int), (i : Int)) from ⟨show fits (i : Int) by unfold fits; omega, show fits (i : Int) by unfold fits; omega⟩)
            have HON := Lib.hid (fun w => one_any (i : Int) w)
            clear hll
            generalize TR ++ pairs (lanesV i) = TJ at *
            go_wp2_with fail
            refine (HON.out _).mono ?_
            rintro e w6 ⟨rfl, hb6⟩
            have HO6 := Lib.hid (HOi.out.below hb6)
            have HG6 := Lib.hid (gb_trans HGi.out (gb_below (row := some G) hb6))
            clear hb6
            go_wp2_with (at_builtin; refine Lk.wpList_room (K := KS) _ rfl _ _ rfl rfl G (w6.heap.size + 1) G N _ TJ [((i : Int), (i : Int))] HTt.out rfl (HO6.out.alloc _) (Lk.IsL.lit (K := KS) _ ((i : Int), (i : Int)) _ HOKT.out rfl w6.heap.size rfl) (Nat.succ_pos _) ?c0 ?c1 ?c2 ?_)
            case c0 => have h1 := HLL.out; have h2 := HQ2.out; simp; omega
            case c1 => have h1 := HLL.out; have h2 := HQ2.out; have h3 := HNB.out; simp; omega
            case c2 => have h1 := HG2.out; have h2 := HG6.out.size; simp; omega
            intro w7 hown hgrow
            have HO7 := Lib.hid hown
            have HG7 := Lib.hid (gb_trans (gb_trans HG6.out (gb_below (Below.al (Below.refl _ _) _))) hgrow)
            clear hown hgrow
            go_wp2
            go_roundw
            case rel => exact ⟨i + 1, by omega, num_i (by omega), by rw [HE1.out]; simp, by rw [HE1.out]; exact HO7.out, HG7.out⟩
            case measure => simp [intOf]; omega
          · obtain rfl : i = L := by omega
            go_wp2
            go_ret2
            exact ⟨_, rfl, by rw [HT.out, HTt.out]; exact HOi.out.mono HGw.out, Below.call HB0.out (HB2'.out _ (gb_base HB4.out HG2.out HGi.out))⟩
  · have T : tabV d = [] := by unfold tabV; rw [if_neg hc]
    rw [T]
    have hc' : (zchk d != 0) = true := by rw [bne_iff_ne]; exact hc
    clear T hc hd
    generalize zchk d = c at *
    go_enter Try.func19, Try.ntmps19
    go_wp2_with fail
    rw [← hw0]
    clear hw0
    refine (HC.out _ HD0.out).mono ?_
    rintro e w1 ⟨rfl, hb1⟩
    have HB1 := Lib.hid hb1
    clear hb1
    go_wp2
    go_ret2
    exact ⟨_, rfl, Lk.Own.nil _ _, Below.call HB0.out HB1.out⟩
end Go.Proofs.Ytlgpnjbhmoomfaa

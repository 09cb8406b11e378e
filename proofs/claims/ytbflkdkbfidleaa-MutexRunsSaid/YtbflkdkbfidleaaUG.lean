/- Mutexes: who is stuck, whether waits are ordered: the program. -/
import Derived.Test.YtbflkdkbfidleaaUF
namespace Go.Proofs.Ytbflkdkbfidleaa
open Go.RowKit
set_option maxRecDepth 100000 in
set_option maxHeartbeats 4000000 in
theorem run_at9 (s : Nat → Bool) (k : Nat) (hk : k < 9) (w : World) : (Instr.index 56 (.agg #[.bool (s 0), .bool (s 1), .bool (s 2), .bool (s 3), .bool (s 4), .bool (s 5), .bool (s 6), .bool (s 7), .bool (s 8)]) (.int .i64 (k : Int))).run Try.prog w = .ok (.bool (s k)) w := by
  rcases (show k = 0 ∨ k = 1 ∨ k = 2 ∨ k = 3 ∨ k = 4 ∨ k = 5 ∨ k = 6 ∨ k = 7 ∨ k = 8 by omega) with rfl | rfl | rfl | rfl | rfl | rfl | rfl | rfl | rfl <;> kernel_rfl
set_option maxRecDepth 100000 in
set_option maxHeartbeats 4000000 in
theorem stuck_any (v u : Value) (t ws : List Int) (w : World) (hv : KI.IsL w w.heap.size v t) (hu : KI.IsL w w.heap.size u ws) :
    Calls Try.prog 21 #[v, u] w fun e w' => ∃ v', e = .returned v' ∧ KI.Own w' w.heap.size v' (stL t ws) ∧ Below w.heap.size w w' := by
  have HV := Lib.hid hv
  have HU := Lib.hid hu
  have HR := Lib.hid (rwaits_any v u t ws w hv hu)
  obtain ⟨A, c, rfl, hc⟩ := hv.shape
  obtain ⟨A2, c2, rfl, hc2⟩ := hu.shape
  have hS : stL t ws = if rwB t ws then stK t ws 9 else [] := rfl
  have HT := Lib.hid (fun (h : rwB t ws = true) (w : World) hv hu => stuck_arms (.slice A t.length c) (.slice A2 ws.length c2) t ws w hv hu (by unfold rwB at h; rw [Bool.and_eq_true] at h; exact h.1) (by unfold rwB at h; rw [Bool.and_eq_true, decide_eq_true_eq] at h; exact h.2))
  rw [hS]
  clear hS hv hu
  generalize rwB t ws = q at *
  cases q
  · simp only [Bool.false_eq_true, if_false]
    go_enter Try.func21, Try.ntmps21
    go_wp2_with fail
    refine HR.out.mono ?_
    rintro e w1 ⟨rfl, hb⟩
    go_wp2
    go_ret
    exact ⟨_, rfl, Lk.Own.nil _ _, hb⟩
  simp only [if_true]
  go_enter Try.func21, Try.ntmps21
  go_wp2_with fail
  refine HR.out.mono ?_
  rintro e w1 ⟨rfl, hb⟩
  have HB1 := Lib.hid hb
  clear hb
  go_wp2_with fail
  refine (HT.out trivial _ (HV.out.then HB1.out) (HU.out.then HB1.out)).mono ?_
  rintro e w2 ⟨s, rfl, hs, hb⟩
  have HB2 := Lib.hid (Below.call HB1.out hb)
  have HS := Lib.hid hs
  clear hs hb HT HR
  go_wp2
  go_loopw [5, 15] (fun u i wr => ∃ k : Nat, k ≤ 9 ∧ i = .int .i64 k ∧ KI.Own wr w.heap.size u (stK t ws k) ∧ Below w.heap.size w wr) (fun _ i _ => 9 - (intOf i).toNat)
  case atStart => exact ⟨0, by omega, rfl, (show KI.Own w2 w.heap.size (.slice none 0 0) [] from Lk.Own.nil _ _), HB2.out⟩
  case round =>
    obtain ⟨k, hk, rfl, hown, hbl⟩ := hrel
    have HO := Lib.hid hown
    have HB := Lib.hid hbl
    clear hown hbl
    have HSN := Lib.hid (stK_snoc t ws k)
    have HL := Lib.hid (stK_len t ws k)
    by_cases hlt : k < 9
    · have hq := HS.out k hlt
      rw [← hq] at HSN
      clear hq
      generalize stK t ws k = lk at *
      have hat := fun w => run_at9 s k hlt w
      cases hsk : s k
      · rw [hsk] at HSN hat
        clear hsk
        simp only [Bool.false_eq_true, if_false, List.append_nil] at HSN
        go_wp2
        go_roundw
        case rel => exact ⟨k + 1, by omega, num_i (by omega), by rw [HSN.out]; exact HO.out, HB.out⟩
        case measure => simp [intOf]; omega
      · rw [hsk] at HSN hat
        clear hsk
        simp only [if_true] at HSN
        go_wp2_with (at_builtin; refine Lk.wpList_app (K := KI) _ rfl _ _ rfl rfl w.heap.size (wr.heap.size + 1) _ _ lk [(k : Int)] rfl rfl (HO.out.alloc _) (Lk.IsL.lit (K := KI) _ (k : Int) _ (show fits (k : Int) by unfold fits; omega) rfl wr.heap.size rfl) ?c1 ?c2 ?_)
        case c1 => have := HL.out; simp; omega
        case c2 => have := HB.out.size; simp; omega
        intro v1 w4 hown hgrow _
        have HB4 := Lib.hid (Lk.Own.grow' (HO.out.alloc _) (Below.al HB.out _) (by have := HB.out.size; simp; omega) hgrow)
        have HO4 := Lib.hid hown
        clear hown hgrow
        go_wp2
        go_roundw
        case rel => exact ⟨k + 1, by omega, num_i (by omega), by rw [HSN.out]; exact HO4.out, HB4.out⟩
        case measure => simp [intOf]; omega
    · obtain rfl : k = 9 := by omega
      go_wp2
      go_ret
      exact ⟨_, rfl, HO.out, HB.out⟩
set_option maxRecDepth 100000 in
set_option maxHeartbeats 4000000 in
theorem ordered_any (v u : Value) (t ws : List Int) (w : World) (hv : KI.IsL w w.heap.size v t) (hu : KI.IsL w w.heap.size u ws) :
    Calls Try.prog 23 #[v, u] w fun e w' => e = .returned (.bool (ordV t ws)) ∧ Below w.heap.size w w' := by
  have HV := Lib.hid hv
  have HU := Lib.hid hu
  have HR := Lib.hid (rwaits_any v u t ws w hv hu)
  obtain ⟨A, c, rfl, hc⟩ := hv.shape
  obtain ⟨A2, c2, rfl, hc2⟩ := hu.shape
  have hl := hv.2.2
  have hl2 := hu.2.2
  have hS : ordV t ws = (rwB t ws && !(List.range ws.length).any (ordB t ws)) := rfl
  have HAH := Lib.hid (fun k hk h => any_range_hit (p := ordB t ws) (n := ws.length) k hk h)
  have HAN := Lib.hid (fun h => any_range (p := ordB t ws) (n := ws.length) h)
  rw [hS]
  clear hS hv hu
  generalize (List.range ws.length).any (ordB t ws) = z at *
  generalize rwB t ws = q at *
  cases q
  · simp only [Bool.false_and]
    go_enter Try.func23, Try.ntmps23
    go_wp2_with fail
    refine HR.out.mono ?_
    rintro e w1 ⟨rfl, hb⟩
    go_wp2
    go_ret
    exact ⟨rfl, hb⟩
  simp only [Bool.true_and]
  go_enter Try.func23, Try.ntmps23
  go_wp2_with fail
  refine HR.out.mono ?_
  rintro e w1 ⟨rfl, hb⟩
  have HB1 := Lib.hid hb
  clear hb HR
  go_wp2
  go_loopw [13] (fun i wr => ∃ k : Nat, k ≤ ws.length ∧ i = .int .i64 k ∧ (∀ j, j < k → ordB t ws j = false) ∧ Below w.heap.size w wr) (fun i _ => ws.length - (intOf i).toNat)
  case atStart => exact ⟨0, Nat.zero_le _, rfl, fun j hj => absurd hj (Nat.not_lt_zero _), HB1.out⟩
  case round =>
    obtain ⟨k, hk, rfl, hj, hbl⟩ := hrel
    have HJ := Lib.hid hj
    have HB := Lib.hid hbl
    clear hj hbl
    by_cases hlt : k < ws.length
    · obtain ⟨b, off, cap', hs, _, hb, _, hcell, _⟩ := KI.cells (HU.out.then HB.out) (by omega)
      simp only [Value.slice.injEq] at hs
      obtain ⟨rfl, _, rfl⟩ := hs
      have e1 := hcell k hlt
      have HX := Lib.hid (show ordB t ws k = (hasB t.length (ws.getD k 0) && (t.drop (ws.getD k 0).toNat).any (fun x => decide (x = (k : Int) + 1))) from rfl)
      have HHK := Lib.hid (HAH.out k hlt)
      clear hcell
      generalize ws.getD k 0 = x at *
      have HHS := Lib.hid (fun w => has_o A t.length c x w)
      have HHI := Lib.hid (hasB_iff t.length x)
      generalize hasB t.length x = hx at *
      cases hx
      · rw [Bool.false_and] at HX
        go_wp2_with fail
        refine (HHS.out _).mono ?_
        rintro e w2 ⟨rfl, rfl⟩
        go_wp2
        go_roundw
        case rel => exact ⟨k + 1, by omega, num_i (by omega), fun j hj => by
          by_cases e : j = k
          · subst e; exact HX.out
          · exact HJ.out j (by omega), HB.out⟩
        case measure => simp [intOf]; omega
      · obtain ⟨h0, h1⟩ := HHI.out.1 rfl
        obtain ⟨m, rfl⟩ := Int.eq_ofNat_of_zero_le h0
        rw [Bool.true_and, show ((m : Int)).toNat = m from rfl] at HX
        obtain ⟨v', hrun, hil⟩ := Two.IsL.from_ (two_of (HV.out.then HB.out)) m (by omega)
        have HCN := Lib.hid (cont_any v' (t.drop m) ((k : Int) + 1) wr (of_two hil))
        clear hil
        generalize (t.drop m).any (fun x => decide (x = (k : Int) + 1)) = y at *
        have START := True.intro
        go_wp2_with fail
        refine (HHS.out _).mono ?_
        rintro e w2 ⟨rfl, rfl⟩
        go_wp2_with fail
        refine HCN.out.mono ?_
        rintro e w2 ⟨rfl, hb2⟩
        have HB2 := Lib.hid (Below.call HB.out hb2)
        clear hb2 HCN
        cases y
        · go_wp2
          go_roundw
          case rel => exact ⟨k + 1, by omega, num_i (by omega), fun j hj => by
            by_cases e : j = k
            · subst e; exact HX.out
            · exact HJ.out j (by omega), HB2.out⟩
          case measure => simp [intOf]; omega
        · go_wp2
          go_ret
          exact ⟨ret_b (by rw [HHK.out HX.out]; rfl), HB2.out⟩
    · obtain rfl : k = ws.length := by omega
      go_wp2
      go_ret
      exact ⟨ret_b (by rw [HAN.out HJ.out]; rfl), HB.out⟩
end Go.Proofs.Ytbflkdkbfidleaa

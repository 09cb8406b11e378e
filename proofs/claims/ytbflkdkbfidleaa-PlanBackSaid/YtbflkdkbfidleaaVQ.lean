/- Plans: made: the program. -/
import Derived.Test.YtbflkdkbfidleaaVP
import Derived.Test.YtbflkdkbfidleaaVD
namespace Go.Proofs.Ytbflkdkbfidleaa
open Go.RowKit Go.Shelf
set_option maxRecDepth 100000 in
set_option maxHeartbeats 4000000 in
theorem make_any (v : Value) (ids : List Int) (l : Bool) (w : World) (hv : KI.IsL w w.heap.size v ids) (hl : ids.length ≤ 1000) :
    Calls Try.prog 28 #[v, .bool l] w fun e w' => ∃ v', e = .returned v' ∧ KD.Own w' w.heap.size v' (mkV ids l) ∧ Below w.heap.size w w' := by
  have HV := Lib.hid hv
  have HR := Lib.hid (Two.right_any v ids w (two_of hv))
  have hS : mkV ids l = if decide (Two.Inc ids) then ids.flatMap (mkL l) ++ [(3, 0)] ++ (ids.reverse.map frD ++ [(5, 0)]) else [] := rfl
  rw [hS]
  obtain ⟨A, c, rfl, hc⟩ := hv.shape
  clear hS hv
  generalize decide (Two.Inc ids) = q at *
  cases q
  · simp only [Bool.false_eq_true, if_false]
    go_enter Try.func28, Try.ntmps28
    go_wp2_with fail
    refine HR.out.mono ?_
    rintro e w1 ⟨rfl, d, rfl⟩
    go_wp2
    go_ret
    exact ⟨_, rfl, Lk.Own.nil _ _, below_drewN (Below.refl _ _) _⟩
  simp only [if_true]
  have HSN := Lib.hid (fun k h => mkL_snoc l ids k h)
  have HLN := Lib.hid (fun k => mkL_len l (ids.take k))
  go_enter Try.func28, Try.ntmps28
  go_wp2_with fail
  refine HR.out.mono ?_
  rintro e w1 ⟨rfl, d, rfl⟩
  have HB1 := Lib.hid (below_drewN (Below.refl w.heap.size w) d)
  have hsz : (w.drewN d).heap.size = w.heap.size := rfl
  obtain ⟨w1, hw1⟩ : ∃ w1, w1 = w.drewN d := ⟨_, rfl⟩
  rw [← hw1] at HB1 hsz ⊢
  clear hw1 HR
  have HL0 := Lib.hid (show Ls (w1.alloc (.cells #[.slice none 0 0] 58)) w.heap.size (w.heap.size + 1) [] by have := ls_new w1; rw [hsz] at this; exact this)
  have HBW := Lib.hid (Below.al HB1.out (.cells #[.slice none 0 0] 58))
  go_wp2
  clear hsz
  go_loopg [15] ids.length (fun gh i wr => ∃ k : Nat, k ≤ ids.length ∧ gh = ids.length - k ∧ i = .int .i64 k ∧ Ls wr w.heap.size (w.heap.size + 1) ((ids.take k).flatMap (mkL l)) ∧ Below w.heap.size w wr)
  case atStart => exact ⟨0, Nat.zero_le _, rfl, rfl, HL0.out, HBW.out⟩
  case round =>
    obtain ⟨k, hk, rfl, rfl, hls, hbl⟩ := hrel
    have HLS := Lib.hid hls
    have HB := Lib.hid hbl
    clear hls hbl
    have HL := Lib.hid (HLN.out k)
    by_cases hlt : k < ids.length
    · have HS := Lib.hid (HSN.out k hlt)
      obtain ⟨b, off, cap', hs, _, hb, _, hcell, hf⟩ := KI.cells (HV.out.then HB.out) (by omega)
      simp only [Value.slice.injEq] at hs
      obtain ⟨rfl, -, rfl⟩ := hs
      have e1 := hcell k hlt
      have HOK1 := Lib.hid (show KD.ok (1, ids.getD k 0) from ⟨show fits 1 by decide, hf k hlt⟩)
      have HOK2 := Lib.hid (show KD.ok (2, ids.getD k 0) from ⟨show fits 2 by decide, hf k hlt⟩)
      have HTL := Lib.hid (show (ids.take k).length ≤ 1000 by rw [List.length_take]; omega)
      clear hcell hf
      generalize ids.getD k 0 = x at *
      generalize (ids.take k).flatMap (mkL l) = lst at *
      cases l
      · rw [show mkL false x = [(1, x)] from rfl] at HS
        clear HOK2
        obtain ⟨Wc, hWc⟩ : ∃ Wc, Wc = ((wr.alloc (.cells #[.int .i64 1, .int .i64 x] 48)).alloc (.cells #[.int .i64 2, .int .i64 x] 48)).alloc (.cells #[.int .i64 1, .int .i64 x] 48) := ⟨_, rfl⟩
        have HBC := Lib.hid (show Below w.heap.size w Wc by rw [hWc]; exact Below.al (Below.al (Below.al HB.out _) _) _)
        have HLC := Lib.hid (show Ls Wc w.heap.size (w.heap.size + 1) lst by rw [hWc]; exact ((HLS.out.al _).al _).al _)
        have HIL := Lib.hid (show KD.IsL Wc Wc.heap.size (.slice (some ⟨wr.heap.size + 1 + 1, 0, none⟩) 1 1) [(1, x)] by
          rw [hWc, World.size_alloc]
          exact Lk.IsL.lits (K := KD) _ [(1, x)] _ (fun z hz => by simp only [List.mem_cons, List.not_mem_nil, or_false] at hz; subst hz; exact HOK1.out) rfl (by simp) _ (by simp) |>.more (by simp))
        have HSZ := Lib.hid (show w.heap.size + 1 ≤ Wc.heap.size by have := HLC.out.lt; omega)
        have HWR := Lib.hid (write_any Wc w.heap.size (w.heap.size + 1) w.heap.size lst [(1, x)] _ HLC.out HIL.out (by have := HL.out; have := HTL.out; simp; omega) HSZ.out (Nat.le_refl _))
        go_wp2_with fail
        rw [← hWc]
        clear hWc
        refine HWR.out.mono ?_
        rintro e w3 ⟨rfl, hls3, hb3, _, _⟩
        have HL3 := Lib.hid hls3
        have HB3 := Lib.hid (HBC.out.trans hb3)
        clear hls3 hb3
        go_wp2
        go_roundg (ids.length - (k + 1))
        case measure => omega
        case rel => exact ⟨k + 1, by omega, rfl, num_i (by omega), by rw [HS.out]; exact HL3.out, HB3.out⟩
      · rw [show mkL true x = [(1, x), (2, x)] from rfl] at HS
        obtain ⟨Wc, hWc⟩ : ∃ Wc, Wc = ((wr.alloc (.cells #[.int .i64 1, .int .i64 x] 48)).alloc (.cells #[.int .i64 2, .int .i64 x] 48)).alloc (.cells #[.int .i64 1, .int .i64 x, .int .i64 2, .int .i64 x] 48) := ⟨_, rfl⟩
        have HBC := Lib.hid (show Below w.heap.size w Wc by rw [hWc]; exact Below.al (Below.al (Below.al HB.out _) _) _)
        have HLC := Lib.hid (show Ls Wc w.heap.size (w.heap.size + 1) lst by rw [hWc]; exact ((HLS.out.al _).al _).al _)
        have HIL := Lib.hid (show KD.IsL Wc Wc.heap.size (.slice (some ⟨wr.heap.size + 1 + 1, 0, none⟩) 2 2) [(1, x), (2, x)] by
          rw [hWc, World.size_alloc]
          exact Lk.IsL.lits (K := KD) _ [(1, x), (2, x)] _ (fun z hz => by simp only [List.mem_cons, List.not_mem_nil, or_false] at hz; rcases hz with rfl | rfl; exact HOK1.out; exact HOK2.out) rfl (by simp) _ (by simp) |>.more (by simp))
        have HSZ := Lib.hid (show w.heap.size + 1 ≤ Wc.heap.size by have := HLC.out.lt; omega)
        have HWR := Lib.hid (write_any Wc w.heap.size (w.heap.size + 1) w.heap.size lst [(1, x), (2, x)] _ HLC.out HIL.out (by have := HL.out; have := HTL.out; simp; omega) HSZ.out (Nat.le_refl _))
        go_wp2_with fail
        rw [← hWc]
        clear hWc
        refine HWR.out.mono ?_
        rintro e w3 ⟨rfl, hls3, hb3, _, _⟩
        have HL3 := Lib.hid hls3
        have HB3 := Lib.hid (HBC.out.trans hb3)
        clear hls3 hb3
        go_wp2
        go_roundg (ids.length - (k + 1))
        case measure => omega
        case rel => exact ⟨k + 1, by omega, rfl, num_i (by omega), by rw [HS.out]; exact HL3.out, HB3.out⟩
    · obtain rfl : k = ids.length := by omega
      rw [List.take_length] at HLS HL
      have HOK3 := Lib.hid (show KD.ok (3, 0) from ⟨show fits 3 by decide, show fits 0 by decide⟩)
      obtain ⟨lst, hlst⟩ : ∃ lst, ids.flatMap (mkL l) = lst := ⟨_, rfl⟩
      have HHL := Lib.hid hlst
      rw [hlst] at HLS HL
      clear hlst
      have HSZ := Lib.hid (show w.heap.size + 1 ≤ wr.heap.size by have := HLS.out.lt; omega)
      have HWR := Lib.hid (write_any (wr.alloc (.cells #[.int .i64 3, .int .i64 0] 48)) w.heap.size (w.heap.size + 1) w.heap.size lst [(3, 0)] (.slice (some ⟨wr.heap.size, 0, none⟩) 1 1) (HLS.out.al _) (Lk.IsL.lit (K := KD) wr (3, 0) _ HOK3.out rfl wr.heap.size rfl |>.more (by simp)) (by have := HL.out; simp; omega) (by rw [World.size_alloc]; have := HSZ.out; omega) (Nat.le_refl _))
      go_wp2_with fail
      refine HWR.out.mono ?_
      rintro e w3 ⟨rfl, hls3, hb3, _, _⟩
      have HL3 := Lib.hid hls3
      have HB3 := Lib.hid ((Below.al HB.out _).trans hb3)
      have HFI := Lib.hid (finish_any w3 w.heap.size (w.heap.size + 1) w.heap.size (lst ++ [(3, 0)]) ids _ HL3.out (HV.out.below HB3.out) (by have := HL.out; simp; omega) (by have := HL3.out.lt; omega) (Nat.le_refl _))
      clear hls3 hb3 HWR
      go_wp2_with fail
      refine HFI.out.mono ?_
      rintro e w4 ⟨rfl, hls, hb4⟩
      obtain ⟨v3, c3, ho3⟩ := hls.c
      have HO3 := Lib.hid ho3
      have HB4 := Lib.hid (HB3.out.trans hb4)
      clear hls hb4 ho3
      go_wp2
      go_ret
      exact ⟨_, rfl, by rw [HHL.out]; simpa using HO3.out.mono (Nat.le_succ _), HB4.out⟩
end Go.Proofs.Ytbflkdkbfidleaa

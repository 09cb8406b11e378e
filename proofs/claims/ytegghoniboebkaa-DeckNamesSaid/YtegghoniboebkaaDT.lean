/- The part that a text names: what the program answers. -/
import Derived.Test.YtegghoniboebkaaDS
namespace Go.Proofs.Ytegghoniboebkaa
open Go.RowKit
/-- The kind that a sign stands for; 0, if it stands for none. -/
def namK (c : UInt8) : Int := idx [80, 84, 76] c + 1
/-- The part that a text names, and whether it names one. -/
def namT : List UInt8 → Q4 × Bool
  | [] => (⟨0, 0, 0, 0⟩, false)
  | c :: t => if namK c = 3 then (⟨namK c, prsV t, 0, 0⟩, decide (prsE t = 0))
    else (⟨namK c, prsV (cutA t 46), (parseV (cutB t 46)).1, (parseV (cutB t 46)).2⟩, decide (prsE (cutA t 46) = 0) && decide (parseE (cutB t 46) = 0))
set_option maxHeartbeats 1000000 in
theorem sindex_any (s : ByteArray) (l : List UInt8) (hs : IsT s l) (c : UInt8) (w : World) :
    Calls Try.prog 66 #[.string s, .int .u8 (c.toNat : Int)] w fun e w' => e = .returned (.int .i64 (idx l c)) ∧ w = w' := by
  have HI := Lib.hid (indexByte_any s l hs c)
  go_enter Try.func66, Try.ntmps66
  go_wp2_with (go_at_call 73; refine (HI.out _).mono ?_; rintro e w' ⟨rfl, rfl⟩)
  go_ret
  exact ⟨rfl, rfl⟩
theorem namK_bd (c : UInt8) : 0 ≤ namK c ∧ namK c ≤ 3 := by
  unfold namK
  rcases idx_spec [80, 84, 76] c with ⟨h, _⟩ | ⟨p, hp, h, _⟩
  · rw [h]; omega
  · rw [h]; simp at hp; omega
theorem IsT.tail1 {s : ByteArray} {c : UInt8} {t : List UInt8} (h : IsT s (c :: t)) : IsT (s.extract 1 s.size) t := by
  rw [h.size]
  exact h.dropk 1
theorem cutA_len (l : List UInt8) (c : UInt8) : (cutA l c).length ≤ l.length ∧ (cutB l c).length ≤ l.length := by
  rcases idx_spec l c with ⟨_, _, h1, h2⟩ | ⟨p, hp, _, _, h1, h2⟩
  · rw [h1, h2]; exact ⟨Nat.le_refl _, by simp⟩
  · rw [h1, h2, List.length_take, List.length_drop]; omega
theorem beq_dec (y : Int) : (y == 0) = decide (y = 0) := rfl
set_option maxRecDepth 100000 in
set_option maxHeartbeats 4000000 in
theorem named_any (s : ByteArray) (l : List UInt8) (hs : IsT s l) (hl : l.length ≤ 1000000) (w : World) :
    Calls Try.prog 57 #[.string s] w fun e w' => e = .returned (.tuple #[(namT l).1.v, .bool (namT l).2]) ∧ Below w.heap.size w w' := by
  obtain ⟨w0, hw0⟩ : ∃ w0, w0 = w.alloc (.cells #[.int .i64 0, .int .i64 0, .int .i64 0, .int .i64 0] 50) := ⟨_, rfl⟩
  have HB0 := Lib.hid (show Below w.heap.size w w0 by rw [hw0]; exact Below.al (Below.refl _ _) _)
  have HF := Lib.hid (show w.heap.size < w0.heap.size ∧ (w0.cell? ⟨w.heap.size, 0, none⟩ = some (.int .i64 0) ∧ w0.cell? ⟨w.heap.size, 1, none⟩ = some (.int .i64 0) ∧ w0.cell? ⟨w.heap.size, 2, none⟩ = some (.int .i64 0) ∧ w0.cell? ⟨w.heap.size, 3, none⟩ = some (.int .i64 0)) ∧
    (w0.frozen? ⟨w.heap.size, 0, none⟩ = false ∧ w0.frozen? ⟨w.heap.size, 1, none⟩ = false ∧ w0.frozen? ⟨w.heap.size, 2, none⟩ = false ∧ w0.frozen? ⟨w.heap.size, 3, none⟩ = false) from by
      rw [hw0]
      refine ⟨by simp, ⟨?_, ?_, ?_, ?_⟩, ?_, ?_, ?_, ?_⟩
      all_goals simp)
  have HK := Lib.hid (fun w1 (hb : Below w0.heap.size w0 w1) => (show w.heap.size < w1.heap.size ∧ (w1.cell? ⟨w.heap.size, 0, none⟩ = some (.int .i64 0) ∧ w1.cell? ⟨w.heap.size, 1, none⟩ = some (.int .i64 0) ∧ w1.cell? ⟨w.heap.size, 2, none⟩ = some (.int .i64 0) ∧ w1.cell? ⟨w.heap.size, 3, none⟩ = some (.int .i64 0)) ∧
    (w1.frozen? ⟨w.heap.size, 0, none⟩ = false ∧ w1.frozen? ⟨w.heap.size, 1, none⟩ = false ∧ w1.frozen? ⟨w.heap.size, 2, none⟩ = false ∧ w1.frozen? ⟨w.heap.size, 3, none⟩ = false) from by
      obtain ⟨h0, ⟨a0, a1, a2, a3⟩, b0, b1, b2, b3⟩ := HF.out
      exact ⟨Nat.lt_of_lt_of_le h0 hb.size, ⟨keep_cell hb a0, keep_cell hb a1, keep_cell hb a2, keep_cell hb a3⟩, (hb.frozen (p := ⟨_, 0, none⟩) h0).trans b0, (hb.frozen (p := ⟨_, 1, none⟩) h0).trans b1, (hb.frozen (p := ⟨_, 2, none⟩) h0).trans b2, (hb.frozen (p := ⟨_, 3, none⟩) h0).trans b3⟩))
  match l with
  | [] =>
    obtain rfl : s = ⟨#[]⟩ := hs.eq
    clear hs hl HK HF HB0 hw0
    go_enter Try.func57, Try.ntmps57
    go_wp2
    exact bodyPost_ret (v := .tuple #[.agg #[.int .i64 0, .int .i64 0, .int .i64 0, .int .i64 0], .bool false]) (by simp [results, Try.results57, go_sem]) rfl ⟨rfl, Below.al (Below.refl _ _) _⟩
  | c :: t =>
    have hne : ([] == s.toList) = false := by rw [hs.list]; rfl
    have hne2 : (s.toList == []) = false := by rw [hs.list]; rfl
    have hix : ∀ w : World, (Instr.index 9 (.string s) (.int .i64 0)).run Try.prog w = .ok (.int .u8 (c.toNat : Int)) w := fun w => hs.idx 0 (by simp) w
    have HI := Lib.hid (fun w => sindex_any ⟨#[80, 84, 76]⟩ [80, 84, 76] ⟨rfl⟩ c w)
    have hk := namK_bd c
    have hkw : IntKind.i64.wrap (idx [80, 84, 76] c + 1) = namK c := by
      rw [IntKind.wrap_i64]
      unfold namK at *
      omega
    have hl2 : (c :: t).length = t.length + 1 := rfl
    have hsz : 1 ≤ (s.size : Int) := by rw [hs.size]; omega
    have HT := Lib.hid hs.tail1
    have HL := Lib.hid hl
    by_cases h3 : namK c = 3
    · have HN := Lib.hid (show namT (c :: t) = (⟨3, prsV t, 0, 0⟩, decide (prsE t = 0)) by rw [namT, if_pos h3, h3])
      rw [HN.out]
      have HP := Lib.hid (fun w => parse_any (s.extract 1 s.size) t HT.out (by have := HL.out; omega) w)
      rw [h3] at hkw
      clear hs hl hl2 HN h3 hk HT
      generalize prsV t = x at *
      generalize prsE t = y at *
      generalize idx [80, 84, 76] c = z at *
      go_enter Try.func57, Try.ntmps57
      go_wp2_with (go_at_call 66; refine (HI.out _).mono ?_; rintro e w' ⟨rfl, rfl⟩)
      rw [← hw0]
      clear hw0
      refine (HP.out _).mono ?_
      rintro e w1 ⟨rfl, hb1⟩
      obtain ⟨h0, ⟨a0, a1, a2, a3⟩, b0, b1, b2, b3⟩ := HK.out _ hb1
      have HB1 := Lib.hid (Below.call HB0.out hb1)
      clear hb1
      go_wp2
      try rw [Exit.noGoto_ret]
      obtain ⟨y0, y1, y2, y3⟩ := st4 (.int .i64 3) (.int .i64 x) (.int .i64 0) (.int .i64 0) a0 a1 a2 a3
      have hb := below_st4 (.int .i64 3) (.int .i64 x) (.int .i64 0) (.int .i64 0) HB1.out (show w.heap.size ≤ w.heap.size by omega)
      exact bodyPost_ret (v := .tuple #[.agg #[.int .i64 3, .int .i64 x, .int .i64 0, .int .i64 0], .bool (y == 0)]) (by simp [results, Try.results57, go_sem, y0, y1, y2, y3]) rfl ⟨by rw [beq_dec], hb⟩
    · have HN := Lib.hid (show namT (c :: t) = (⟨namK c, prsV (cutA t 46), (parseV (cutB t 46)).1, (parseV (cutB t 46)).2⟩, decide (prsE (cutA t 46) = 0) && decide (parseE (cutB t 46) = 0)) by rw [namT, if_neg h3])
      rw [HN.out]
      have hcl := cutA_len t 46
      have HC := Lib.hid (fun w => cut1_any (s.extract 1 s.size) t HT.out (by have := HL.out; omega) 46 w)
      have HP := Lib.hid (fun w => parse_any ⟨(cutA t 46).toArray⟩ (cutA t 46) ⟨rfl⟩ (by have := HL.out; omega) w)
      have HW := Lib.hid (fun w => wparse_any ⟨(cutB t 46).toArray⟩ (cutB t 46) ⟨rfl⟩ (by have := HL.out; omega) w)
      unfold Cutted at HC
      have hk3 : (namK c == 3) = false := by rw [beq_eq_false_iff_ne]; exact h3
      clear hs hl hl2 HN h3 hk HT hcl
      generalize prsV (cutA t 46) = x at *
      generalize prsE (cutA t 46) = y at *
      generalize parseV (cutB t 46) = pv at *
      generalize parseE (cutB t 46) = y2 at *
      generalize (⟨(cutA t 46).toArray⟩ : ByteArray) = tA at *
      generalize (⟨(cutB t 46).toArray⟩ : ByteArray) = tB at *
      generalize cutF t 46 = tF at *
      obtain ⟨pr, pc⟩ := pv
      dsimp only at *
      generalize namK c = kk at *
      generalize idx [80, 84, 76] c = z at *
      by_cases hyy : y = 0
      · subst hyy
        generalize y2 = yy at *
        go_enter Try.func57, Try.ntmps57
        go_wp2_with (go_at_call 66; refine (HI.out _).mono ?_; rintro e w' ⟨rfl, rfl⟩)
        rw [← hw0]
        clear hw0
        refine (HC.out _).mono ?_
        rintro e w1 ⟨rfl, hb1⟩
        go_wp2_with fail
        refine (HP.out _).mono ?_
        rintro e w2 ⟨rfl, hb2⟩
        have hb2 := Below.call hb1 hb2
        clear hb1
        go_wp2_with fail
        refine (HW.out _).mono ?_
        rintro e w3 ⟨rfl, hb3⟩
        have hb3 := Below.call hb2 hb3
        obtain ⟨h0, ⟨a0, a1, a2, a3⟩, b0, b1, b2, b3⟩ := HK.out _ hb3
        have HB3 := Lib.hid (Below.call HB0.out hb3)
        clear hb2 hb3
        go_wp2
        try rw [Exit.noGoto_ret]
        obtain ⟨y0, y1, y2, y3⟩ := st4 (.int .i64 kk) (.int .i64 x) (.int .i64 pr) (.int .i64 pc) a0 a1 a2 a3
        have hb := below_st4 (.int .i64 kk) (.int .i64 x) (.int .i64 pr) (.int .i64 pc) HB3.out (show w.heap.size ≤ w.heap.size by omega)
        generalize (((w3.setCell ⟨w.heap.size, 0, none⟩ (.int .i64 kk)).setCell ⟨w.heap.size, 1, none⟩ (.int .i64 x)).setCell ⟨w.heap.size, 2, none⟩ (.int .i64 pr)).setCell ⟨w.heap.size, 3, none⟩ (.int .i64 pc) = w5 at *
        have y0' := keep_cell (Below.al (Below.refl _ _) (.cells #[.int .i64 pr, .int .i64 pc] 83)) y0
        have y1' := keep_cell (Below.al (Below.refl _ _) (.cells #[.int .i64 pr, .int .i64 pc] 83)) y1
        have y2' := keep_cell (Below.al (Below.refl _ _) (.cells #[.int .i64 pr, .int .i64 pc] 83)) y2
        have y3' := keep_cell (Below.al (Below.refl _ _) (.cells #[.int .i64 pr, .int .i64 pc] 83)) y3
        exact bodyPost_ret (v := .tuple #[.agg #[.int .i64 kk, .int .i64 x, .int .i64 pr, .int .i64 pc], .bool (yy == 0)]) (by simp [results, Try.results57, go_sem, y0', y1', y2', y3']) rfl ⟨by rw [beq_dec yy]; rfl, Below.al hb _⟩
      · have gy : (y == 0) = false := by rw [beq_eq_false_iff_ne]; exact hyy
        go_enter Try.func57, Try.ntmps57
        go_wp2_with (go_at_call 66; refine (HI.out _).mono ?_; rintro e w' ⟨rfl, rfl⟩)
        rw [← hw0]
        clear hw0
        refine (HC.out _).mono ?_
        rintro e w1 ⟨rfl, hb1⟩
        go_wp2_with fail
        refine (HP.out _).mono ?_
        rintro e w2 ⟨rfl, hb2⟩
        have hb2 := Below.call hb1 hb2
        clear hb1
        go_wp2_with fail
        refine (HW.out _).mono ?_
        rintro e w3 ⟨rfl, hb3⟩
        have hb3 := Below.call hb2 hb3
        obtain ⟨h0, ⟨a0, a1, a2, a3⟩, b0, b1, b2, b3⟩ := HK.out _ hb3
        have HB3 := Lib.hid (Below.call HB0.out hb3)
        clear hb2 hb3
        go_wp2
        try rw [Exit.noGoto_ret]
        obtain ⟨y0, y1, y2, y3⟩ := st4 (.int .i64 kk) (.int .i64 x) (.int .i64 pr) (.int .i64 pc) a0 a1 a2 a3
        have hb := below_st4 (.int .i64 kk) (.int .i64 x) (.int .i64 pr) (.int .i64 pc) HB3.out (show w.heap.size ≤ w.heap.size by omega)
        generalize (((w3.setCell ⟨w.heap.size, 0, none⟩ (.int .i64 kk)).setCell ⟨w.heap.size, 1, none⟩ (.int .i64 x)).setCell ⟨w.heap.size, 2, none⟩ (.int .i64 pr)).setCell ⟨w.heap.size, 3, none⟩ (.int .i64 pc) = w5 at *
        have y0' := keep_cell (Below.al (Below.refl _ _) (.cells #[.int .i64 pr, .int .i64 pc] 83)) y0
        have y1' := keep_cell (Below.al (Below.refl _ _) (.cells #[.int .i64 pr, .int .i64 pc] 83)) y1
        have y2' := keep_cell (Below.al (Below.refl _ _) (.cells #[.int .i64 pr, .int .i64 pc] 83)) y2
        have y3' := keep_cell (Below.al (Below.refl _ _) (.cells #[.int .i64 pr, .int .i64 pc] 83)) y3
        exact bodyPost_ret (v := .tuple #[.agg #[.int .i64 kk, .int .i64 x, .int .i64 pr, .int .i64 pc], .bool false]) (by simp [results, Try.results57, go_sem, y0', y1', y2', y3']) rfl ⟨by rw [show decide (y = 0) = false from decide_eq_false hyy, Bool.false_and], Below.al hb _⟩
end Go.Proofs.Ytegghoniboebkaa

/- The ends of a piece. -/
import Derived.Test.YtchnljdijmgnfaaWD
import Derived.Test.YtchnljdijmgnfaaWE
namespace Go.Proofs.Ytchnljdijmgnfaa
open Go.RowKit
theorem cutA_len (l : List UInt8) (c : UInt8) : (cutA l c).length ≤ l.length := by
  rcases idx_spec l c with ⟨_, _, h, _⟩ | ⟨p, _, _, _, h, _⟩
  · rw [h]; omega
  · rw [h, List.length_take]; omega
theorem cutB_len (l : List UInt8) (c : UInt8) : (cutB l c).length ≤ l.length := by
  rcases idx_spec l c with ⟨_, _, _, h⟩ | ⟨p, _, _, _, _, h⟩
  · rw [h]; simp
  · rw [h, List.length_drop]; omega
/-- The name that a piece ends with. -/
def lastL (l : List UInt8) : List UInt8 := if cutF l 58 = true then cutB l 58 else cutA l 58
theorem lastL_len (l : List UInt8) : (lastL l).length ≤ l.length := by
  unfold lastL
  split
  · exact cutB_len l 58
  · exact cutA_len l 58
def endsL (l : List UInt8) : Option ((Int × Int) × (Int × Int)) := match parseL (cutA l 58) with
  | none => none
  | some a => match parseL (lastL l) with
    | none => none
    | some b => some ((min a.1 b.1, min a.2 b.2), (max a.1 b.1, max a.2 b.2))
def endsV (l : List UInt8) : (Int × Int) × (Int × Int) := (endsL l).getD ((0, 0), (0, 0))
def endsE (l : List UInt8) : Int := if (endsL l).isSome = true then 0 else 60
set_option maxHeartbeats 4000000 in
theorem ends_any (s : ByteArray) (l : List UInt8) (hs : IsT s l) (hsz : l.length ≤ 9223372036854775807) (w : World) : Calls Try.prog 49 #[.string s] w fun e w' => e = .returned (.tuple #[.agg #[.int .i64 (endsV l).1.1, .int .i64 (endsV l).1.2], .agg #[.int .i64 (endsV l).2.1, .int .i64 (endsV l).2.2], .int .i64 (endsE l)]) ∧ Below w.heap.size w w' := by
  have HP := Lib.hid (wparse_any ⟨(cutA l 58).toArray⟩ (cutA l 58) ⟨rfl⟩ (by have := cutA_len l 58; omega))
  have HQ := Lib.hid (wparse_any ⟨(lastL l).toArray⟩ (lastL l) ⟨rfl⟩ (by have := lastL_len l; omega))
  cases hf : cutF l 58
  · have hl : lastL l = cutA l 58 := by rw [lastL, hf]; rfl
    have HC : Hid (∀ w, Calls Try.prog 48 #[.string s, .string ⟨#[58]⟩] w fun e w' => e = .returned (.tuple #[.string ⟨(cutA l 58).toArray⟩, .string ⟨(cutB l 58).toArray⟩, .bool false]) ∧ Below w.heap.size w w') := Lib.hid (fun w => by
      have := cut1_any s l hs hsz 58 w
      unfold Cutted at this
      rw [hf] at this
      exact this)
    clear hf
    cases hpa : parseL (cutA l 58) with
    | none =>
      have e1 : endsL l = none := by rw [endsL, hpa]
      have e2 : endsV l = ((0, 0), (0, 0)) := by rw [endsV, e1]; rfl
      have e3 : endsE l = 60 := by rw [endsE, e1]; rfl
      have e4 : parseV (cutA l 58) = (0, 0) := by rw [parseV, hpa]; rfl
      have e5 : parseE (cutA l 58) = 60 := by rw [parseE, hpa]; rfl
      rw [e2, e3]
      rw [e4, e5] at HP
      clear e1 e2 e3 e4 e5 HQ hpa hs hsz
      simp only at HP ⊢
      generalize (⟨(cutA l 58).toArray⟩ : ByteArray) = sA at *
      generalize (⟨(cutB l 58).toArray⟩ : ByteArray) = sB at *
      go_enter Try.func49, Try.ntmps49
      go_wp2_with fail
      refine (HC.out _).mono ?_
      rintro e w1 ⟨rfl, hb1⟩
      obtain ⟨hc1, hf1⟩ := bcell hb1
      have HB1 := Lib.hid hb1
      have hz1_0 : w.heap.size < w1.heap.size := by (have := hb1.size; (try simp at this) <;> omega)
      have hz1_1 : w.heap.size + 1 < w1.heap.size := by (have := hb1.size; (try simp at this) <;> omega)
      clear hb1
      go_wp2_with fail
      refine (HP.out _).mono ?_
      rintro e w2 ⟨rfl, hb2⟩
      obtain ⟨hc2, hf2⟩ := bcell hb2
      have HB2 := Lib.hid hb2
      have hz2_0 : w.heap.size < w2.heap.size := by (have := hb2.size; (try simp at this) <;> omega)
      have hz2_1 : w.heap.size + 1 < w2.heap.size := by (have := hb2.size; (try simp at this) <;> omega)
      clear hb2
      have q0 : w2.cell? ⟨w.heap.size, 0, none⟩ = some (.int .i64 0) := by (rw [hc2 _ _ hz1_0, hc1 _ _ (by simp <;> omega), World.cell?_alloc_lt _ _ _ (by simp)]; go_simp)
      have q1 : w2.cell? ⟨w.heap.size, 1, none⟩ = some (.int .i64 0) := by (rw [hc2 _ _ hz1_0, hc1 _ _ (by simp <;> omega), World.cell?_alloc_lt _ _ _ (by simp)]; go_simp)
      have q2 : w2.cell? ⟨w.heap.size + 1, 0, none⟩ = some (.int .i64 0) := by (rw [hc2 _ _ hz1_1, hc1 _ _ (by simp <;> omega)]; go_simp)
      have q3 : w2.cell? ⟨w.heap.size + 1, 1, none⟩ = some (.int .i64 0) := by (rw [hc2 _ _ hz1_1, hc1 _ _ (by simp <;> omega)]; go_simp)
      go_wp2
      refine bodyPost_ret (v := .tuple #[.agg #[.int .i64 0, .int .i64 0], .agg #[.int .i64 0, .int .i64 0], .int .i64 60]) (by simp [results, Try.results49, go_sem, q0, q1, q2, q3, hz2_0, hz2_1]) rfl ⟨rfl, ?_⟩
      (repeat (first | exact Below.refl _ _ | (with_reducible refine Below.st ?_ (by simp <;> omega)) | (with_reducible refine Below.al ?_ _) | (with_reducible refine Below.call ?_ HB1.out) | (with_reducible refine Below.call ?_ HB2.out) | (with_reducible refine Below.call ?_ HB3.out) ))
    | some a =>
      have e4 : parseV (cutA l 58) = a := by rw [parseV, hpa]; rfl
      have e5 : parseE (cutA l 58) = 0 := by rw [parseE, hpa]; rfl
      rw [e4, e5] at HP
      cases hpb : parseL (lastL l) with
      | none =>
        have e1 : endsL l = none := by rw [endsL, hpa]; simp only [hpb]
        have e2 : endsV l = ((0, 0), (0, 0)) := by rw [endsV, e1]; rfl
        have e3 : endsE l = 60 := by rw [endsE, e1]; rfl
        have e6 : parseV (lastL l) = (0, 0) := by rw [parseV, hpb]; rfl
        have e7 : parseE (lastL l) = 60 := by rw [parseE, hpb]; rfl
        rw [e2, e3]
        rw [e6, e7] at HQ
        simp only at HP HQ ⊢
        rw [hl] at HQ
        clear e1 e2 e3 e4 e5 e6 e7 hpa hpb hs hsz hl
        generalize (⟨(cutA l 58).toArray⟩ : ByteArray) = sA at *
        generalize (⟨(cutB l 58).toArray⟩ : ByteArray) = sB at *
        obtain ⟨a1, a2⟩ := a
        simp only at HP
        go_enter Try.func49, Try.ntmps49
        go_wp2_with fail
        refine (HC.out _).mono ?_
        rintro e w1 ⟨rfl, hb1⟩
        obtain ⟨hc1, hf1⟩ := bcell hb1
        have HB1 := Lib.hid hb1
        have hz1_0 : w.heap.size < w1.heap.size := by (have := hb1.size; (try simp at this) <;> omega)
        have hz1_1 : w.heap.size + 1 < w1.heap.size := by (have := hb1.size; (try simp at this) <;> omega)
        clear hb1
        go_wp2_with fail
        refine (HP.out _).mono ?_
        rintro e w2 ⟨rfl, hb2⟩
        obtain ⟨hc2, hf2⟩ := bcell hb2
        have HB2 := Lib.hid hb2
        have hz2_0 : w.heap.size < w2.heap.size := by (have := hb2.size; (try simp at this) <;> omega)
        have hz2_1 : w.heap.size + 1 < w2.heap.size := by (have := hb2.size; (try simp at this) <;> omega)
        clear hb2
        go_wp2_with fail
        refine (HQ.out _).mono ?_
        rintro e w3 ⟨rfl, hb3⟩
        obtain ⟨hc3, hf3⟩ := bcell hb3
        have HB3 := Lib.hid hb3
        have hz3_0 : w.heap.size < w3.heap.size := by (have := hb3.size; (try simp at this) <;> omega)
        have hz3_1 : w.heap.size + 1 < w3.heap.size := by (have := hb3.size; (try simp at this) <;> omega)
        have hz3_2 : w.heap.size + 1 + 1 < w3.heap.size := by (have := hb3.size; (try simp at this) <;> omega)
        clear hb3
        have q0 : w3.cell? ⟨w.heap.size, 0, none⟩ = some (.int .i64 0) := by (rw [hc3 _ _ (by simp; omega), World.cell?_alloc_lt _ _ _ hz2_0, hc2 _ _ hz1_0, hc1 _ _ (by simp <;> omega), World.cell?_alloc_lt _ _ _ (by simp)]; go_simp)
        have q1 : w3.cell? ⟨w.heap.size, 1, none⟩ = some (.int .i64 0) := by (rw [hc3 _ _ (by simp; omega), World.cell?_alloc_lt _ _ _ hz2_0, hc2 _ _ hz1_0, hc1 _ _ (by simp <;> omega), World.cell?_alloc_lt _ _ _ (by simp)]; go_simp)
        have q2 : w3.cell? ⟨w.heap.size + 1, 0, none⟩ = some (.int .i64 0) := by (rw [hc3 _ _ (by simp; omega), World.cell?_alloc_lt _ _ _ hz2_1, hc2 _ _ hz1_1, hc1 _ _ (by simp <;> omega)]; go_simp)
        have q3 : w3.cell? ⟨w.heap.size + 1, 1, none⟩ = some (.int .i64 0) := by (rw [hc3 _ _ (by simp; omega), World.cell?_alloc_lt _ _ _ hz2_1, hc2 _ _ hz1_1, hc1 _ _ (by simp <;> omega)]; go_simp)
        go_wp2
        refine bodyPost_ret (v := .tuple #[.agg #[.int .i64 0, .int .i64 0], .agg #[.int .i64 0, .int .i64 0], .int .i64 60]) (by simp [results, Try.results49, go_sem, q0, q1, q2, q3, hz3_0, hz3_1]) rfl ⟨rfl, ?_⟩
        (repeat (first | exact Below.refl _ _ | (with_reducible refine Below.st ?_ (by simp <;> omega)) | (with_reducible refine Below.al ?_ _) | (with_reducible refine Below.call ?_ HB1.out) | (with_reducible refine Below.call ?_ HB2.out) | (with_reducible refine Below.call ?_ HB3.out) ))
      | some b =>
        have e1 : endsL l = some ((min a.1 b.1, min a.2 b.2), (max a.1 b.1, max a.2 b.2)) := by rw [endsL, hpa]; simp only [hpb]
        have e2 : endsV l = ((min a.1 b.1, min a.2 b.2), (max a.1 b.1, max a.2 b.2)) := by rw [endsV, e1]; rfl
        have e3 : endsE l = 0 := by rw [endsE, e1]; rfl
        have e6 : parseV (lastL l) = b := by rw [parseV, hpb]; rfl
        have e7 : parseE (lastL l) = 0 := by rw [parseE, hpb]; rfl
        rw [e2, e3]
        rw [e6, e7] at HQ
        simp only at HP HQ ⊢
        rw [hl] at HQ
        clear e1 e2 e3 e4 e5 e6 e7 hpa hpb hs hsz hl
        generalize (⟨(cutA l 58).toArray⟩ : ByteArray) = sA at *
        generalize (⟨(cutB l 58).toArray⟩ : ByteArray) = sB at *
        obtain ⟨a1, a2⟩ := a
        obtain ⟨b1, b2⟩ := b
        simp only at HP HQ ⊢
        go_enter Try.func49, Try.ntmps49
        go_wp2_with fail
        refine (HC.out _).mono ?_
        rintro e w1 ⟨rfl, hb1⟩
        obtain ⟨hc1, hf1⟩ := bcell hb1
        have HB1 := Lib.hid hb1
        have hz1_0 : w.heap.size < w1.heap.size := by (have := hb1.size; (try simp at this) <;> omega)
        have hz1_1 : w.heap.size + 1 < w1.heap.size := by (have := hb1.size; (try simp at this) <;> omega)
        clear hb1
        go_wp2_with fail
        refine (HP.out _).mono ?_
        rintro e w2 ⟨rfl, hb2⟩
        obtain ⟨hc2, hf2⟩ := bcell hb2
        have HB2 := Lib.hid hb2
        have hz2_0 : w.heap.size < w2.heap.size := by (have := hb2.size; (try simp at this) <;> omega)
        have hz2_1 : w.heap.size + 1 < w2.heap.size := by (have := hb2.size; (try simp at this) <;> omega)
        clear hb2
        go_wp2_with fail
        refine (HQ.out _).mono ?_
        rintro e w3 ⟨rfl, hb3⟩
        obtain ⟨hc3, hf3⟩ := bcell hb3
        have HB3 := Lib.hid hb3
        have hz3_0 : w.heap.size < w3.heap.size := by (have := hb3.size; (try simp at this) <;> omega)
        have hz3_1 : w.heap.size + 1 < w3.heap.size := by (have := hb3.size; (try simp at this) <;> omega)
        have hz3_2 : w.heap.size + 1 + 1 < w3.heap.size := by (have := hb3.size; (try simp at this) <;> omega)
        clear hb3
        have q0 : w3.cell? ⟨w.heap.size, 0, none⟩ = some (.int .i64 0) := by (rw [hc3 _ _ (by simp; omega), World.cell?_alloc_lt _ _ _ hz2_0, hc2 _ _ hz1_0, hc1 _ _ (by simp <;> omega), World.cell?_alloc_lt _ _ _ (by simp)]; go_simp)
        have q1 : w3.cell? ⟨w.heap.size, 1, none⟩ = some (.int .i64 0) := by (rw [hc3 _ _ (by simp; omega), World.cell?_alloc_lt _ _ _ hz2_0, hc2 _ _ hz1_0, hc1 _ _ (by simp <;> omega), World.cell?_alloc_lt _ _ _ (by simp)]; go_simp)
        have q2 : w3.cell? ⟨w.heap.size + 1, 0, none⟩ = some (.int .i64 0) := by (rw [hc3 _ _ (by simp; omega), World.cell?_alloc_lt _ _ _ hz2_1, hc2 _ _ hz1_1, hc1 _ _ (by simp <;> omega)]; go_simp)
        have q3 : w3.cell? ⟨w.heap.size + 1, 1, none⟩ = some (.int .i64 0) := by (rw [hc3 _ _ (by simp; omega), World.cell?_alloc_lt _ _ _ hz2_1, hc2 _ _ hz1_1, hc1 _ _ (by simp <;> omega)]; go_simp)
        have hq : w2.heap.size < w3.heap.size := by have := HB3.out.size; simp at this; omega
        have qa : w3.cell? ⟨w2.heap.size, 0, none⟩ = some (.int .i64 a1) := by (rw [hc3 _ _ (by simp)]; go_simp)
        have qb : w3.cell? ⟨w2.heap.size, 1, none⟩ = some (.int .i64 a2) := by (rw [hc3 _ _ (by simp)]; go_simp)
        go_wp2
        have hz3_3 : w.heap.size + 1 < w3.heap.size := hz3_1
        have HB5 : Hid (Below w.heap.size w (((((w3.setCell ⟨w.heap.size, 0, none⟩ (.int .i64 (min a1 b1))).setCell ⟨w.heap.size, 1, none⟩ (.int .i64 (min a2 b2))).setCell ⟨w.heap.size + 1, 0, none⟩ (.int .i64 (max a1 b1))).setCell ⟨w.heap.size + 1, 1, none⟩ (.int .i64 (max a2 b2))).alloc (.cells #[.int .i64 b1, .int .i64 b2] 38))) := Lib.hid (by
          (repeat (first | exact Below.refl _ _ | (with_reducible refine Below.st ?_ (by simp <;> omega)) | (with_reducible refine Below.al ?_ _) | (with_reducible refine Below.call ?_ HB1.out) | (with_reducible refine Below.call ?_ HB2.out) | (with_reducible refine Below.call ?_ HB3.out) )))
        have r0 : ((((((w3.setCell ⟨w.heap.size, 0, none⟩ (.int .i64 (min a1 b1))).setCell ⟨w.heap.size, 1, none⟩ (.int .i64 (min a2 b2))).setCell ⟨w.heap.size + 1, 0, none⟩ (.int .i64 (max a1 b1))).setCell ⟨w.heap.size + 1, 1, none⟩ (.int .i64 (max a2 b2))).alloc (.cells #[.int .i64 b1, .int .i64 b2] 38))).cell? ⟨w.heap.size, 0, none⟩ = some (.int .i64 (min a1 b1)) := by simp [go_sem, q0, hz3_0]
        have r1 : ((((((w3.setCell ⟨w.heap.size, 0, none⟩ (.int .i64 (min a1 b1))).setCell ⟨w.heap.size, 1, none⟩ (.int .i64 (min a2 b2))).setCell ⟨w.heap.size + 1, 0, none⟩ (.int .i64 (max a1 b1))).setCell ⟨w.heap.size + 1, 1, none⟩ (.int .i64 (max a2 b2))).alloc (.cells #[.int .i64 b1, .int .i64 b2] 38))).cell? ⟨w.heap.size, 1, none⟩ = some (.int .i64 (min a2 b2)) := by simp [go_sem, q1, hz3_0]
        have r2 : ((((((w3.setCell ⟨w.heap.size, 0, none⟩ (.int .i64 (min a1 b1))).setCell ⟨w.heap.size, 1, none⟩ (.int .i64 (min a2 b2))).setCell ⟨w.heap.size + 1, 0, none⟩ (.int .i64 (max a1 b1))).setCell ⟨w.heap.size + 1, 1, none⟩ (.int .i64 (max a2 b2))).alloc (.cells #[.int .i64 b1, .int .i64 b2] 38))).cell? ⟨w.heap.size + 1, 0, none⟩ = some (.int .i64 (max a1 b1)) := by simp [go_sem, q2, hz3_1]
        have r3 : ((((((w3.setCell ⟨w.heap.size, 0, none⟩ (.int .i64 (min a1 b1))).setCell ⟨w.heap.size, 1, none⟩ (.int .i64 (min a2 b2))).setCell ⟨w.heap.size + 1, 0, none⟩ (.int .i64 (max a1 b1))).setCell ⟨w.heap.size + 1, 1, none⟩ (.int .i64 (max a2 b2))).alloc (.cells #[.int .i64 b1, .int .i64 b2] 38))).cell? ⟨w.heap.size + 1, 1, none⟩ = some (.int .i64 (max a2 b2)) := by simp [go_sem, q3, hz3_1]
        have g0 : ((((((w3.setCell ⟨w.heap.size, 0, none⟩ (.int .i64 (min a1 b1))).setCell ⟨w.heap.size, 1, none⟩ (.int .i64 (min a2 b2))).setCell ⟨w.heap.size + 1, 0, none⟩ (.int .i64 (max a1 b1))).setCell ⟨w.heap.size + 1, 1, none⟩ (.int .i64 (max a2 b2))).alloc (.cells #[.int .i64 b1, .int .i64 b2] 38))).frozen? ⟨w.heap.size, 0, none⟩ = false := by (have u := hf3 (w.heap.size) 0 (by simp; omega); rw [frozen?_alloc_cells, hf2 _ _ hz1_0, hf1 _ _ (by simp <;> omega)] at u; simp [go_sem, frozen?_alloc_cells, u] <;> (unfold World.frozen?; simp))
        have g1 : ((((((w3.setCell ⟨w.heap.size, 0, none⟩ (.int .i64 (min a1 b1))).setCell ⟨w.heap.size, 1, none⟩ (.int .i64 (min a2 b2))).setCell ⟨w.heap.size + 1, 0, none⟩ (.int .i64 (max a1 b1))).setCell ⟨w.heap.size + 1, 1, none⟩ (.int .i64 (max a2 b2))).alloc (.cells #[.int .i64 b1, .int .i64 b2] 38))).frozen? ⟨w.heap.size, 1, none⟩ = false := by (have u := hf3 (w.heap.size) 1 (by simp; omega); rw [frozen?_alloc_cells, hf2 _ _ hz1_0, hf1 _ _ (by simp <;> omega)] at u; simp [go_sem, frozen?_alloc_cells, u] <;> (unfold World.frozen?; simp))
        have g2 : ((((((w3.setCell ⟨w.heap.size, 0, none⟩ (.int .i64 (min a1 b1))).setCell ⟨w.heap.size, 1, none⟩ (.int .i64 (min a2 b2))).setCell ⟨w.heap.size + 1, 0, none⟩ (.int .i64 (max a1 b1))).setCell ⟨w.heap.size + 1, 1, none⟩ (.int .i64 (max a2 b2))).alloc (.cells #[.int .i64 b1, .int .i64 b2] 38))).frozen? ⟨w.heap.size + 1, 0, none⟩ = false := by (have u := hf3 (w.heap.size + 1) 0 (by simp; omega); rw [frozen?_alloc_cells, hf2 _ _ hz1_1, hf1 _ _ (by simp <;> omega)] at u; simp [go_sem, frozen?_alloc_cells, u] <;> (unfold World.frozen?; simp))
        have g3 : ((((((w3.setCell ⟨w.heap.size, 0, none⟩ (.int .i64 (min a1 b1))).setCell ⟨w.heap.size, 1, none⟩ (.int .i64 (min a2 b2))).setCell ⟨w.heap.size + 1, 0, none⟩ (.int .i64 (max a1 b1))).setCell ⟨w.heap.size + 1, 1, none⟩ (.int .i64 (max a2 b2))).alloc (.cells #[.int .i64 b1, .int .i64 b2] 38))).frozen? ⟨w.heap.size + 1, 1, none⟩ = false := by (have u := hf3 (w.heap.size + 1) 1 (by simp; omega); rw [frozen?_alloc_cells, hf2 _ _ hz1_1, hf1 _ _ (by simp <;> omega)] at u; simp [go_sem, frozen?_alloc_cells, u] <;> (unfold World.frozen?; simp))
        generalize (((((w3.setCell ⟨w.heap.size, 0, none⟩ (.int .i64 (min a1 b1))).setCell ⟨w.heap.size, 1, none⟩ (.int .i64 (min a2 b2))).setCell ⟨w.heap.size + 1, 0, none⟩ (.int .i64 (max a1 b1))).setCell ⟨w.heap.size + 1, 1, none⟩ (.int .i64 (max a2 b2))).alloc (.cells #[.int .i64 b1, .int .i64 b2] 38)) = w5 at *
        clear hz1_0 hz1_1 hz2_0 hz2_1 hz3_0 hz3_1 hz3_2 hc1 hc2 hc3 hf1 hf2 hf3 q0 q1 q2 q3 qa qb hz3_3 HB1 HB2 HB3
        go_region
        go_wp2
        refine bodyPost_ret (v := .tuple #[.agg #[.int .i64 (min a1 b1), .int .i64 (min a2 b2)], .agg #[.int .i64 (max a1 b1), .int .i64 (max a2 b2)], .int .i64 0]) (by simp [results, Try.results49, go_sem, r0, r1, r2, r3]) rfl ⟨rfl, ?_⟩
        (repeat (first | exact HB5.out | (with_reducible refine Below.drew ?_) | (with_reducible refine Below.st ?_ (by simp <;> omega))))
  · have hl : lastL l = cutB l 58 := by rw [lastL, hf]; rfl
    have HC : Hid (∀ w, Calls Try.prog 48 #[.string s, .string ⟨#[58]⟩] w fun e w' => e = .returned (.tuple #[.string ⟨(cutA l 58).toArray⟩, .string ⟨(cutB l 58).toArray⟩, .bool true]) ∧ Below w.heap.size w w') := Lib.hid (fun w => by
      have := cut1_any s l hs hsz 58 w
      unfold Cutted at this
      rw [hf] at this
      exact this)
    clear hf
    cases hpa : parseL (cutA l 58) with
    | none =>
      have e1 : endsL l = none := by rw [endsL, hpa]
      have e2 : endsV l = ((0, 0), (0, 0)) := by rw [endsV, e1]; rfl
      have e3 : endsE l = 60 := by rw [endsE, e1]; rfl
      have e4 : parseV (cutA l 58) = (0, 0) := by rw [parseV, hpa]; rfl
      have e5 : parseE (cutA l 58) = 60 := by rw [parseE, hpa]; rfl
      rw [e2, e3]
      rw [e4, e5] at HP
      clear e1 e2 e3 e4 e5 HQ hpa hs hsz
      simp only at HP ⊢
      generalize (⟨(cutA l 58).toArray⟩ : ByteArray) = sA at *
      generalize (⟨(cutB l 58).toArray⟩ : ByteArray) = sB at *
      go_enter Try.func49, Try.ntmps49
      go_wp2_with fail
      refine (HC.out _).mono ?_
      rintro e w1 ⟨rfl, hb1⟩
      obtain ⟨hc1, hf1⟩ := bcell hb1
      have HB1 := Lib.hid hb1
      have hz1_0 : w.heap.size < w1.heap.size := by (have := hb1.size; (try simp at this) <;> omega)
      have hz1_1 : w.heap.size + 1 < w1.heap.size := by (have := hb1.size; (try simp at this) <;> omega)
      clear hb1
      go_wp2_with fail
      refine (HP.out _).mono ?_
      rintro e w2 ⟨rfl, hb2⟩
      obtain ⟨hc2, hf2⟩ := bcell hb2
      have HB2 := Lib.hid hb2
      have hz2_0 : w.heap.size < w2.heap.size := by (have := hb2.size; (try simp at this) <;> omega)
      have hz2_1 : w.heap.size + 1 < w2.heap.size := by (have := hb2.size; (try simp at this) <;> omega)
      clear hb2
      have q0 : w2.cell? ⟨w.heap.size, 0, none⟩ = some (.int .i64 0) := by (rw [hc2 _ _ hz1_0, hc1 _ _ (by simp <;> omega), World.cell?_alloc_lt _ _ _ (by simp)]; go_simp)
      have q1 : w2.cell? ⟨w.heap.size, 1, none⟩ = some (.int .i64 0) := by (rw [hc2 _ _ hz1_0, hc1 _ _ (by simp <;> omega), World.cell?_alloc_lt _ _ _ (by simp)]; go_simp)
      have q2 : w2.cell? ⟨w.heap.size + 1, 0, none⟩ = some (.int .i64 0) := by (rw [hc2 _ _ hz1_1, hc1 _ _ (by simp <;> omega)]; go_simp)
      have q3 : w2.cell? ⟨w.heap.size + 1, 1, none⟩ = some (.int .i64 0) := by (rw [hc2 _ _ hz1_1, hc1 _ _ (by simp <;> omega)]; go_simp)
      go_wp2
      refine bodyPost_ret (v := .tuple #[.agg #[.int .i64 0, .int .i64 0], .agg #[.int .i64 0, .int .i64 0], .int .i64 60]) (by simp [results, Try.results49, go_sem, q0, q1, q2, q3, hz2_0, hz2_1]) rfl ⟨rfl, ?_⟩
      (repeat (first | exact Below.refl _ _ | (with_reducible refine Below.st ?_ (by simp <;> omega)) | (with_reducible refine Below.al ?_ _) | (with_reducible refine Below.call ?_ HB1.out) | (with_reducible refine Below.call ?_ HB2.out) | (with_reducible refine Below.call ?_ HB3.out) ))
    | some a =>
      have e4 : parseV (cutA l 58) = a := by rw [parseV, hpa]; rfl
      have e5 : parseE (cutA l 58) = 0 := by rw [parseE, hpa]; rfl
      rw [e4, e5] at HP
      cases hpb : parseL (lastL l) with
      | none =>
        have e1 : endsL l = none := by rw [endsL, hpa]; simp only [hpb]
        have e2 : endsV l = ((0, 0), (0, 0)) := by rw [endsV, e1]; rfl
        have e3 : endsE l = 60 := by rw [endsE, e1]; rfl
        have e6 : parseV (lastL l) = (0, 0) := by rw [parseV, hpb]; rfl
        have e7 : parseE (lastL l) = 60 := by rw [parseE, hpb]; rfl
        rw [e2, e3]
        rw [e6, e7] at HQ
        simp only at HP HQ ⊢
        rw [hl] at HQ
        clear e1 e2 e3 e4 e5 e6 e7 hpa hpb hs hsz hl
        generalize (⟨(cutA l 58).toArray⟩ : ByteArray) = sA at *
        generalize (⟨(cutB l 58).toArray⟩ : ByteArray) = sB at *
        obtain ⟨a1, a2⟩ := a
        simp only at HP
        go_enter Try.func49, Try.ntmps49
        go_wp2_with fail
        refine (HC.out _).mono ?_
        rintro e w1 ⟨rfl, hb1⟩
        obtain ⟨hc1, hf1⟩ := bcell hb1
        have HB1 := Lib.hid hb1
        have hz1_0 : w.heap.size < w1.heap.size := by (have := hb1.size; (try simp at this) <;> omega)
        have hz1_1 : w.heap.size + 1 < w1.heap.size := by (have := hb1.size; (try simp at this) <;> omega)
        clear hb1
        go_wp2_with fail
        refine (HP.out _).mono ?_
        rintro e w2 ⟨rfl, hb2⟩
        obtain ⟨hc2, hf2⟩ := bcell hb2
        have HB2 := Lib.hid hb2
        have hz2_0 : w.heap.size < w2.heap.size := by (have := hb2.size; (try simp at this) <;> omega)
        have hz2_1 : w.heap.size + 1 < w2.heap.size := by (have := hb2.size; (try simp at this) <;> omega)
        clear hb2
        go_wp2_with fail
        refine (HQ.out _).mono ?_
        rintro e w3 ⟨rfl, hb3⟩
        obtain ⟨hc3, hf3⟩ := bcell hb3
        have HB3 := Lib.hid hb3
        have hz3_0 : w.heap.size < w3.heap.size := by (have := hb3.size; (try simp at this) <;> omega)
        have hz3_1 : w.heap.size + 1 < w3.heap.size := by (have := hb3.size; (try simp at this) <;> omega)
        have hz3_2 : w.heap.size + 1 + 1 < w3.heap.size := by (have := hb3.size; (try simp at this) <;> omega)
        clear hb3
        have q0 : w3.cell? ⟨w.heap.size, 0, none⟩ = some (.int .i64 0) := by (rw [hc3 _ _ (by simp; omega), World.cell?_alloc_lt _ _ _ hz2_0, hc2 _ _ hz1_0, hc1 _ _ (by simp <;> omega), World.cell?_alloc_lt _ _ _ (by simp)]; go_simp)
        have q1 : w3.cell? ⟨w.heap.size, 1, none⟩ = some (.int .i64 0) := by (rw [hc3 _ _ (by simp; omega), World.cell?_alloc_lt _ _ _ hz2_0, hc2 _ _ hz1_0, hc1 _ _ (by simp <;> omega), World.cell?_alloc_lt _ _ _ (by simp)]; go_simp)
        have q2 : w3.cell? ⟨w.heap.size + 1, 0, none⟩ = some (.int .i64 0) := by (rw [hc3 _ _ (by simp; omega), World.cell?_alloc_lt _ _ _ hz2_1, hc2 _ _ hz1_1, hc1 _ _ (by simp <;> omega)]; go_simp)
        have q3 : w3.cell? ⟨w.heap.size + 1, 1, none⟩ = some (.int .i64 0) := by (rw [hc3 _ _ (by simp; omega), World.cell?_alloc_lt _ _ _ hz2_1, hc2 _ _ hz1_1, hc1 _ _ (by simp <;> omega)]; go_simp)
        go_wp2
        refine bodyPost_ret (v := .tuple #[.agg #[.int .i64 0, .int .i64 0], .agg #[.int .i64 0, .int .i64 0], .int .i64 60]) (by simp [results, Try.results49, go_sem, q0, q1, q2, q3, hz3_0, hz3_1]) rfl ⟨rfl, ?_⟩
        (repeat (first | exact Below.refl _ _ | (with_reducible refine Below.st ?_ (by simp <;> omega)) | (with_reducible refine Below.al ?_ _) | (with_reducible refine Below.call ?_ HB1.out) | (with_reducible refine Below.call ?_ HB2.out) | (with_reducible refine Below.call ?_ HB3.out) ))
      | some b =>
        have e1 : endsL l = some ((min a.1 b.1, min a.2 b.2), (max a.1 b.1, max a.2 b.2)) := by rw [endsL, hpa]; simp only [hpb]
        have e2 : endsV l = ((min a.1 b.1, min a.2 b.2), (max a.1 b.1, max a.2 b.2)) := by rw [endsV, e1]; rfl
        have e3 : endsE l = 0 := by rw [endsE, e1]; rfl
        have e6 : parseV (lastL l) = b := by rw [parseV, hpb]; rfl
        have e7 : parseE (lastL l) = 0 := by rw [parseE, hpb]; rfl
        rw [e2, e3]
        rw [e6, e7] at HQ
        simp only at HP HQ ⊢
        rw [hl] at HQ
        clear e1 e2 e3 e4 e5 e6 e7 hpa hpb hs hsz hl
        generalize (⟨(cutA l 58).toArray⟩ : ByteArray) = sA at *
        generalize (⟨(cutB l 58).toArray⟩ : ByteArray) = sB at *
        obtain ⟨a1, a2⟩ := a
        obtain ⟨b1, b2⟩ := b
        simp only at HP HQ ⊢
        go_enter Try.func49, Try.ntmps49
        go_wp2_with fail
        refine (HC.out _).mono ?_
        rintro e w1 ⟨rfl, hb1⟩
        obtain ⟨hc1, hf1⟩ := bcell hb1
        have HB1 := Lib.hid hb1
        have hz1_0 : w.heap.size < w1.heap.size := by (have := hb1.size; (try simp at this) <;> omega)
        have hz1_1 : w.heap.size + 1 < w1.heap.size := by (have := hb1.size; (try simp at this) <;> omega)
        clear hb1
        go_wp2_with fail
        refine (HP.out _).mono ?_
        rintro e w2 ⟨rfl, hb2⟩
        obtain ⟨hc2, hf2⟩ := bcell hb2
        have HB2 := Lib.hid hb2
        have hz2_0 : w.heap.size < w2.heap.size := by (have := hb2.size; (try simp at this) <;> omega)
        have hz2_1 : w.heap.size + 1 < w2.heap.size := by (have := hb2.size; (try simp at this) <;> omega)
        clear hb2
        go_wp2_with fail
        refine (HQ.out _).mono ?_
        rintro e w3 ⟨rfl, hb3⟩
        obtain ⟨hc3, hf3⟩ := bcell hb3
        have HB3 := Lib.hid hb3
        have hz3_0 : w.heap.size < w3.heap.size := by (have := hb3.size; (try simp at this) <;> omega)
        have hz3_1 : w.heap.size + 1 < w3.heap.size := by (have := hb3.size; (try simp at this) <;> omega)
        have hz3_2 : w.heap.size + 1 + 1 < w3.heap.size := by (have := hb3.size; (try simp at this) <;> omega)
        clear hb3
        have q0 : w3.cell? ⟨w.heap.size, 0, none⟩ = some (.int .i64 0) := by (rw [hc3 _ _ (by simp; omega), World.cell?_alloc_lt _ _ _ hz2_0, hc2 _ _ hz1_0, hc1 _ _ (by simp <;> omega), World.cell?_alloc_lt _ _ _ (by simp)]; go_simp)
        have q1 : w3.cell? ⟨w.heap.size, 1, none⟩ = some (.int .i64 0) := by (rw [hc3 _ _ (by simp; omega), World.cell?_alloc_lt _ _ _ hz2_0, hc2 _ _ hz1_0, hc1 _ _ (by simp <;> omega), World.cell?_alloc_lt _ _ _ (by simp)]; go_simp)
        have q2 : w3.cell? ⟨w.heap.size + 1, 0, none⟩ = some (.int .i64 0) := by (rw [hc3 _ _ (by simp; omega), World.cell?_alloc_lt _ _ _ hz2_1, hc2 _ _ hz1_1, hc1 _ _ (by simp <;> omega)]; go_simp)
        have q3 : w3.cell? ⟨w.heap.size + 1, 1, none⟩ = some (.int .i64 0) := by (rw [hc3 _ _ (by simp; omega), World.cell?_alloc_lt _ _ _ hz2_1, hc2 _ _ hz1_1, hc1 _ _ (by simp <;> omega)]; go_simp)
        have hq : w2.heap.size < w3.heap.size := by have := HB3.out.size; simp at this; omega
        have qa : w3.cell? ⟨w2.heap.size, 0, none⟩ = some (.int .i64 a1) := by (rw [hc3 _ _ (by simp)]; go_simp)
        have qb : w3.cell? ⟨w2.heap.size, 1, none⟩ = some (.int .i64 a2) := by (rw [hc3 _ _ (by simp)]; go_simp)
        go_wp2
        have hz3_3 : w.heap.size + 1 < w3.heap.size := hz3_1
        have HB5 : Hid (Below w.heap.size w (((((w3.setCell ⟨w.heap.size, 0, none⟩ (.int .i64 (min a1 b1))).setCell ⟨w.heap.size, 1, none⟩ (.int .i64 (min a2 b2))).setCell ⟨w.heap.size + 1, 0, none⟩ (.int .i64 (max a1 b1))).setCell ⟨w.heap.size + 1, 1, none⟩ (.int .i64 (max a2 b2))).alloc (.cells #[.int .i64 b1, .int .i64 b2] 38))) := Lib.hid (by
          (repeat (first | exact Below.refl _ _ | (with_reducible refine Below.st ?_ (by simp <;> omega)) | (with_reducible refine Below.al ?_ _) | (with_reducible refine Below.call ?_ HB1.out) | (with_reducible refine Below.call ?_ HB2.out) | (with_reducible refine Below.call ?_ HB3.out) )))
        have r0 : ((((((w3.setCell ⟨w.heap.size, 0, none⟩ (.int .i64 (min a1 b1))).setCell ⟨w.heap.size, 1, none⟩ (.int .i64 (min a2 b2))).setCell ⟨w.heap.size + 1, 0, none⟩ (.int .i64 (max a1 b1))).setCell ⟨w.heap.size + 1, 1, none⟩ (.int .i64 (max a2 b2))).alloc (.cells #[.int .i64 b1, .int .i64 b2] 38))).cell? ⟨w.heap.size, 0, none⟩ = some (.int .i64 (min a1 b1)) := by simp [go_sem, q0, hz3_0]
        have r1 : ((((((w3.setCell ⟨w.heap.size, 0, none⟩ (.int .i64 (min a1 b1))).setCell ⟨w.heap.size, 1, none⟩ (.int .i64 (min a2 b2))).setCell ⟨w.heap.size + 1, 0, none⟩ (.int .i64 (max a1 b1))).setCell ⟨w.heap.size + 1, 1, none⟩ (.int .i64 (max a2 b2))).alloc (.cells #[.int .i64 b1, .int .i64 b2] 38))).cell? ⟨w.heap.size, 1, none⟩ = some (.int .i64 (min a2 b2)) := by simp [go_sem, q1, hz3_0]
        have r2 : ((((((w3.setCell ⟨w.heap.size, 0, none⟩ (.int .i64 (min a1 b1))).setCell ⟨w.heap.size, 1, none⟩ (.int .i64 (min a2 b2))).setCell ⟨w.heap.size + 1, 0, none⟩ (.int .i64 (max a1 b1))).setCell ⟨w.heap.size + 1, 1, none⟩ (.int .i64 (max a2 b2))).alloc (.cells #[.int .i64 b1, .int .i64 b2] 38))).cell? ⟨w.heap.size + 1, 0, none⟩ = some (.int .i64 (max a1 b1)) := by simp [go_sem, q2, hz3_1]
        have r3 : ((((((w3.setCell ⟨w.heap.size, 0, none⟩ (.int .i64 (min a1 b1))).setCell ⟨w.heap.size, 1, none⟩ (.int .i64 (min a2 b2))).setCell ⟨w.heap.size + 1, 0, none⟩ (.int .i64 (max a1 b1))).setCell ⟨w.heap.size + 1, 1, none⟩ (.int .i64 (max a2 b2))).alloc (.cells #[.int .i64 b1, .int .i64 b2] 38))).cell? ⟨w.heap.size + 1, 1, none⟩ = some (.int .i64 (max a2 b2)) := by simp [go_sem, q3, hz3_1]
        have g0 : ((((((w3.setCell ⟨w.heap.size, 0, none⟩ (.int .i64 (min a1 b1))).setCell ⟨w.heap.size, 1, none⟩ (.int .i64 (min a2 b2))).setCell ⟨w.heap.size + 1, 0, none⟩ (.int .i64 (max a1 b1))).setCell ⟨w.heap.size + 1, 1, none⟩ (.int .i64 (max a2 b2))).alloc (.cells #[.int .i64 b1, .int .i64 b2] 38))).frozen? ⟨w.heap.size, 0, none⟩ = false := by (have u := hf3 (w.heap.size) 0 (by simp; omega); rw [frozen?_alloc_cells, hf2 _ _ hz1_0, hf1 _ _ (by simp <;> omega)] at u; simp [go_sem, frozen?_alloc_cells, u] <;> (unfold World.frozen?; simp))
        have g1 : ((((((w3.setCell ⟨w.heap.size, 0, none⟩ (.int .i64 (min a1 b1))).setCell ⟨w.heap.size, 1, none⟩ (.int .i64 (min a2 b2))).setCell ⟨w.heap.size + 1, 0, none⟩ (.int .i64 (max a1 b1))).setCell ⟨w.heap.size + 1, 1, none⟩ (.int .i64 (max a2 b2))).alloc (.cells #[.int .i64 b1, .int .i64 b2] 38))).frozen? ⟨w.heap.size, 1, none⟩ = false := by (have u := hf3 (w.heap.size) 1 (by simp; omega); rw [frozen?_alloc_cells, hf2 _ _ hz1_0, hf1 _ _ (by simp <;> omega)] at u; simp [go_sem, frozen?_alloc_cells, u] <;> (unfold World.frozen?; simp))
        have g2 : ((((((w3.setCell ⟨w.heap.size, 0, none⟩ (.int .i64 (min a1 b1))).setCell ⟨w.heap.size, 1, none⟩ (.int .i64 (min a2 b2))).setCell ⟨w.heap.size + 1, 0, none⟩ (.int .i64 (max a1 b1))).setCell ⟨w.heap.size + 1, 1, none⟩ (.int .i64 (max a2 b2))).alloc (.cells #[.int .i64 b1, .int .i64 b2] 38))).frozen? ⟨w.heap.size + 1, 0, none⟩ = false := by (have u := hf3 (w.heap.size + 1) 0 (by simp; omega); rw [frozen?_alloc_cells, hf2 _ _ hz1_1, hf1 _ _ (by simp <;> omega)] at u; simp [go_sem, frozen?_alloc_cells, u] <;> (unfold World.frozen?; simp))
        have g3 : ((((((w3.setCell ⟨w.heap.size, 0, none⟩ (.int .i64 (min a1 b1))).setCell ⟨w.heap.size, 1, none⟩ (.int .i64 (min a2 b2))).setCell ⟨w.heap.size + 1, 0, none⟩ (.int .i64 (max a1 b1))).setCell ⟨w.heap.size + 1, 1, none⟩ (.int .i64 (max a2 b2))).alloc (.cells #[.int .i64 b1, .int .i64 b2] 38))).frozen? ⟨w.heap.size + 1, 1, none⟩ = false := by (have u := hf3 (w.heap.size + 1) 1 (by simp; omega); rw [frozen?_alloc_cells, hf2 _ _ hz1_1, hf1 _ _ (by simp <;> omega)] at u; simp [go_sem, frozen?_alloc_cells, u] <;> (unfold World.frozen?; simp))
        generalize (((((w3.setCell ⟨w.heap.size, 0, none⟩ (.int .i64 (min a1 b1))).setCell ⟨w.heap.size, 1, none⟩ (.int .i64 (min a2 b2))).setCell ⟨w.heap.size + 1, 0, none⟩ (.int .i64 (max a1 b1))).setCell ⟨w.heap.size + 1, 1, none⟩ (.int .i64 (max a2 b2))).alloc (.cells #[.int .i64 b1, .int .i64 b2] 38)) = w5 at *
        clear hz1_0 hz1_1 hz2_0 hz2_1 hz3_0 hz3_1 hz3_2 hc1 hc2 hc3 hf1 hf2 hf3 q0 q1 q2 q3 qa qb hz3_3 HB1 HB2 HB3
        go_region
        go_wp2
        refine bodyPost_ret (v := .tuple #[.agg #[.int .i64 (min a1 b1), .int .i64 (min a2 b2)], .agg #[.int .i64 (max a1 b1), .int .i64 (max a2 b2)], .int .i64 0]) (by simp [results, Try.results49, go_sem, r0, r1, r2, r3]) rfl ⟨rfl, ?_⟩
        (repeat (first | exact HB5.out | (with_reducible refine Below.drew ?_) | (with_reducible refine Below.st ?_ (by simp <;> omega))))
end Go.Proofs.Ytchnljdijmgnfaa

/- The place of a name. -/
import Derived.Test.YtegghoniboebkaaWC
namespace Go.Proofs.Ytegghoniboebkaa
open Go.RowKit
/-- The place that a text names, if it names one. -/
def parseL (l : List UInt8) : Option (Int × Int) := match prs (l.drop (rowK l)) with
  | some n => if rightB (rowV l, n - 1) = true then some (rowV l, n - 1) else none
  | none => none
def parseV (l : List UInt8) : Int × Int := (parseL l).getD (0, 0)
def parseE (l : List UInt8) : Int := if (parseL l).isSome = true then 0 else 60
theorem right_wrap (r n : Int) (h : fits n) : rightB (r, IntKind.i64.wrap (n - 1)) = rightB (r, n - 1) := by
  rw [rightB, rightB, IntKind.wrap_i64]
  unfold fits at h
  rw [Bool.eq_iff_iff, decide_eq_true_eq, decide_eq_true_eq]
  simp only
  constructor <;> intro k <;> omega
theorem right_wrap_eq (r n : Int) (h : rightB (r, n - 1) = true) : IntKind.i64.wrap (n - 1) = n - 1 := by
  rw [right_iff] at h
  simp only at h
  rw [IntKind.wrap_i64]
  omega
theorem prsV_fits (l : List UInt8) : fits (prsV l) := by
  unfold prsV
  cases h : prs l with
  | none => decide
  | some n => exact (prs_back l n h).2
set_option maxHeartbeats 2000000 in
theorem wparse_any (s : ByteArray) (l : List UInt8) (hs : IsT s l) (hsz : l.length ≤ 9223372036854775807) (w : World) : Calls Try.prog 69 #[.string s] w fun e w' => e = .returned (.tuple #[.agg #[.int .i64 (parseV l).1, .int .i64 (parseV l).2], .int .i64 (parseE l)]) ∧ Below w.heap.size w w' := by
  have HRO := Lib.hid (rowOf_any s l hs hsz)
  have HPA := Lib.hid (parse_any ⟨(l.drop (rowK l)).toArray⟩ (l.drop (rowK l)) ⟨rfl⟩ (by rw [List.length_drop]; omega))
  have HRI := Lib.hid (right_any (rowV l, IntKind.i64.wrap (prsV (l.drop (rowK l)) - 1)))
  rw [right_wrap _ _ (prsV_fits _)] at HRI
  clear hs hsz
  cases hp : prs (l.drop (rowK l)) with
  | none =>
    have e1 : prsV (l.drop (rowK l)) = 0 := by rw [prsV, hp]; rfl
    have e2 : prsE (l.drop (rowK l)) = 30 := by rw [prsE, hp]; rfl
    have e3 : parseL l = none := by rw [parseL, hp]
    have e4 : parseV l = (0, 0) := by rw [parseV, e3]; rfl
    have e5 : parseE l = 60 := by rw [parseE, e3]; rfl
    rw [e1, e2] at HPA
    rw [e4, e5]
    clear e1 e2 e3 e4 e5 HRI
    generalize rowV l = r at *
    generalize (⟨(l.drop (rowK l)).toArray⟩ : ByteArray) = t at *
    clear hp
    go_enter Try.func69, Try.ntmps69
    go_wp2_with fail
    refine (HRO.out _).mono ?_
    rintro e w1 ⟨rfl, hb1⟩
    obtain ⟨hc1, hf1⟩ := bcell hb1
    have HB1 := Lib.hid hb1
    have hz1_0 : w.heap.size < w1.heap.size := by (have := hb1.size; (try simp at this) <;> omega)
    clear hb1
    go_wp2_with fail
    refine (HPA.out _).mono ?_
    rintro e w2 ⟨rfl, hb2⟩
    obtain ⟨hc2, hf2⟩ := bcell hb2
    have HB2 := Lib.hid hb2
    have hz2_0 : w.heap.size < w2.heap.size := by (have := hb2.size; (try simp at this) <;> omega)
    clear hb2
    go_wp2
    refine bodyPost_ret (v := .tuple #[.agg #[.int .i64 0, .int .i64 0], .int .i64 60]) (by simp [results, Try.results69, go_sem, hc1, hc2, hz1_0, hz2_0]) rfl ⟨rfl, ?_⟩
    (repeat (first | exact Below.refl _ _ | (with_reducible refine Below.st ?_ (by simp <;> omega)) | (with_reducible refine Below.al ?_ _) | (with_reducible refine Below.call ?_ HB1.out) | (with_reducible refine Below.call ?_ HB2.out) | (with_reducible refine Below.call ?_ HB3.out) | (with_reducible refine Below.call ?_ HB4.out) ))
  | some n =>
    have e1 : prsV (l.drop (rowK l)) = n := by rw [prsV, hp]; rfl
    have e2 : prsE (l.drop (rowK l)) = 0 := by rw [prsE, hp]; rfl
    rw [e1] at HRI
    rw [e1, e2] at HPA
    cases hr : rightB (rowV l, n - 1)
    · have e3 : parseL l = none := by rw [parseL, hp]; simp [hr]
      have e4 : parseV l = (0, 0) := by rw [parseV, e3]; rfl
      have e5 : parseE l = 60 := by rw [parseE, e3]; rfl
      rw [e4, e5]
      rw [hr] at HRI
      simp only at HRI
      clear e1 e2 e3 e4 e5 hr hp
      generalize rowV l = r at *
      generalize (⟨(l.drop (rowK l)).toArray⟩ : ByteArray) = t at *
      generalize hm : IntKind.i64.wrap (n - 1) = m at *
      go_enter Try.func69, Try.ntmps69
      go_wp2_with fail
      refine (HRO.out _).mono ?_
      rintro e w1 ⟨rfl, hb1⟩
      obtain ⟨hc1, hf1⟩ := bcell hb1
      have HB1 := Lib.hid hb1
      have hz1_0 : w.heap.size < w1.heap.size := by (have := hb1.size; (try simp at this) <;> omega)
      clear hb1
      go_wp2_with fail
      refine (HPA.out _).mono ?_
      rintro e w2 ⟨rfl, hb2⟩
      obtain ⟨hc2, hf2⟩ := bcell hb2
      have HB2 := Lib.hid hb2
      have hz2_0 : w.heap.size < w2.heap.size := by (have := hb2.size; (try simp at this) <;> omega)
      clear hb2
      go_wp2_with fail
      refine (HRI.out _).mono ?_
      rintro e w3 ⟨rfl, hb3⟩
      obtain ⟨hc3, hf3⟩ := bcell hb3
      have HB3 := Lib.hid hb3
      have hz3_0 : w.heap.size < w3.heap.size := by (have := hb3.size; (try simp at this) <;> omega)
      clear hb3
      have q0 : w3.cell? ⟨w.heap.size, 0, none⟩ = some (.int .i64 0) := by (rw [hc3 _ _ (by simp; omega), World.cell?_alloc_lt _ _ _ hz2_0, hc2 _ _ hz1_0, hc1 _ _ (by simp)]; go_simp)
      have q1 : w3.cell? ⟨w.heap.size, 1, none⟩ = some (.int .i64 0) := by (rw [hc3 _ _ (by simp; omega), World.cell?_alloc_lt _ _ _ hz2_0, hc2 _ _ hz1_0, hc1 _ _ (by simp)]; go_simp)
      go_wp2
      refine bodyPost_ret (v := .tuple #[.agg #[.int .i64 0, .int .i64 0], .int .i64 60]) (by simp [results, Try.results69, go_sem, q0, q1]) rfl ⟨rfl, ?_⟩
      (repeat (first | exact Below.refl _ _ | (with_reducible refine Below.st ?_ (by simp <;> omega)) | (with_reducible refine Below.al ?_ _) | (with_reducible refine Below.call ?_ HB1.out) | (with_reducible refine Below.call ?_ HB2.out) | (with_reducible refine Below.call ?_ HB3.out) | (with_reducible refine Below.call ?_ HB4.out) ))
    · have e3 : parseL l = some (rowV l, n - 1) := by rw [parseL, hp]; simp [hr]
      have e4 : parseV l = (rowV l, n - 1) := by rw [parseV, e3]; rfl
      have e5 : parseE l = 0 := by rw [parseE, e3]; rfl
      have e6 := right_wrap_eq _ _ hr
      rw [e4, e5]
      rw [hr, e6] at HRI
      simp only at HRI ⊢
      clear e1 e2 e3 e4 e5 hr hp
      generalize rowV l = r at *
      generalize (⟨(l.drop (rowK l)).toArray⟩ : ByteArray) = t at *
      go_enter Try.func69, Try.ntmps69
      go_wp2_with fail
      refine (HRO.out _).mono ?_
      rintro e w1 ⟨rfl, hb1⟩
      obtain ⟨hc1, hf1⟩ := bcell hb1
      have HB1 := Lib.hid hb1
      have hz1_0 : w.heap.size < w1.heap.size := by (have := hb1.size; (try simp at this) <;> omega)
      clear hb1
      go_wp2_with fail
      refine (HPA.out _).mono ?_
      rintro e w2 ⟨rfl, hb2⟩
      obtain ⟨hc2, hf2⟩ := bcell hb2
      have HB2 := Lib.hid hb2
      have hz2_0 : w.heap.size < w2.heap.size := by (have := hb2.size; (try simp at this) <;> omega)
      clear hb2
      go_wp2_with fail
      refine (HRI.out _).mono ?_
      rintro e w3 ⟨rfl, hb3⟩
      obtain ⟨hc3, hf3⟩ := bcell hb3
      have HB3 := Lib.hid hb3
      have hz3_0 : w.heap.size < w3.heap.size := by (have := hb3.size; (try simp at this) <;> omega)
      clear hb3
      have q0 : w3.cell? ⟨w.heap.size, 0, none⟩ = some (.int .i64 0) := by (rw [hc3 _ _ (by simp; omega), World.cell?_alloc_lt _ _ _ hz2_0, hc2 _ _ hz1_0, hc1 _ _ (by simp)]; go_simp)
      have q1 : w3.cell? ⟨w.heap.size, 1, none⟩ = some (.int .i64 0) := by (rw [hc3 _ _ (by simp; omega), World.cell?_alloc_lt _ _ _ hz2_0, hc2 _ _ hz1_0, hc1 _ _ (by simp)]; go_simp)
      have hq : w2.heap.size < w3.heap.size := by have := HB3.out.size; simp at this; omega
      go_wp2
      refine bodyPost_ret (v := .tuple #[.agg #[.int .i64 r, .int .i64 (n - 1)], .int .i64 0]) (by simp [results, Try.results69, go_sem, q0, q1]) rfl ⟨rfl, ?_⟩
      (repeat (first | exact Below.refl _ _ | (with_reducible refine Below.st ?_ (by simp <;> omega)) | (with_reducible refine Below.al ?_ _) | (with_reducible refine Below.call ?_ HB1.out) | (with_reducible refine Below.call ?_ HB2.out) | (with_reducible refine Below.call ?_ HB3.out) | (with_reducible refine Below.call ?_ HB4.out) ))
end Go.Proofs.Ytegghoniboebkaa

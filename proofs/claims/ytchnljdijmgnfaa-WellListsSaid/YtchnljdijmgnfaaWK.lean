/- The reference's place of a name. -/
import Derived.Test.YtchnljdijmgnfaaWJ
import Derived.Test.YtchnljdijmgnfaaWM
namespace Go.Proofs.Ytchnljdijmgnfaa
open Go.RowKit
def Miss (l : List UInt8) (p : Int × Int) : Prop := nameL p ≠ l
theorem miss_none (l : List UInt8) (h : ∀ a b : Nat, a < 32 → b < 48 → Miss l ((a : Int), (b : Int))) : parseL l = none := by
  cases hp : parseL l with
  | none => rfl
  | some p =>
    obtain ⟨hr, hn⟩ := name_parse l p hp
    obtain ⟨a, b⟩ := p
    obtain ⟨h1, h2, h3, h4⟩ := (right_iff _).1 hr
    simp only at h1 h2 h3 h4
    obtain ⟨a, rfl⟩ : ∃ k : Nat, a = (k : Int) := ⟨a.toNat, by omega⟩
    obtain ⟨b, rfl⟩ : ∃ k : Nat, b = (k : Int) := ⟨b.toNat, by omega⟩
    exact absurd hn (h a b (by omega) (by omega))
theorem hit_some (l : List UInt8) (a b : Nat) (ha : a < 32) (hb : b < 48) (h : nameL ((a : Int), (b : Int)) = l) : parseL l = some ((a : Int), (b : Int)) := by
  rw [← h]
  exact parse_name _ ((right_iff _).2 (by simp only; omega))
theorem txt_two : ∀ b : Nat, b < 48 → (txt ((b : Int) + 1)).length ≤ 2 := fun b hb => by
  unfold txt
  rw [if_neg (by omega)]
  exact dig_len 1 _ (by omega)
theorem name_four (a b : Nat) (_ha : a < 32) (hb : b < 48) : (nameL ((a : Int), (b : Int))).length ≤ 4 := by
  cases h : rightB ((a : Int), (b : Int))
  · rw [nameL_no h]; simp
  · rw [nameL_yes h, List.length_append]
    have := (nm_len ((a : Int)).toNat).2
    have := txt_two b hb
    simp only
    omega
set_option maxHeartbeats 4000000 in
theorem rparse_any (s : ByteArray) (l : List UInt8) (hs : IsT s l) (hsz : l.length ≤ 9223372036854775807) (w : World) : Calls Try.prog 28 #[.string s] w fun e w' => e = .returned (.tuple #[.agg #[.int .i64 (parseV l).1, .int .i64 (parseV l).2], .int .i64 (parseE l)]) ∧ Below w.heap.size w w' := by
  have hz := hs.size
  by_cases hlen : l.length ≤ 4
  · have HSZ := Lib.hid hs
    have hd : decide ((4 : Int) < (l.length : Int)) = false := by (rw [decide_eq_false_iff_not]; omega)
    have hl4 : (l.length : Int) ≤ 4 := by omega
    clear hs
    go_enter Try.func28, Try.ntmps28
    go_wp2
    go_loopw [4] (fun r wr => ∃ a : Nat, a ≤ 32 ∧ r = .int .i64 (a : Int) ∧ (∀ x y : Nat, x < a → y < 48 → Miss l ((x : Int), (y : Int))) ∧ wr.cell? ⟨w.heap.size, 0, none⟩ = some (.int .i64 0) ∧ wr.cell? ⟨w.heap.size, 1, none⟩ = some (.int .i64 0) ∧ wr.frozen? ⟨w.heap.size, 0, none⟩ = false ∧ wr.frozen? ⟨w.heap.size, 1, none⟩ = false ∧ Below w.heap.size w wr) (fun r _ => 32 - (intOf r).toNat)
    case atStart => exact ⟨0, Nat.zero_le _, rfl, (fun x y hx => absurd hx (Nat.not_lt_zero x)), by go_simp, by go_simp, by (rw [frozen?_alloc_cells]; unfold World.frozen?; simp), by (rw [frozen?_alloc_cells]; unfold World.frozen?; simp), Below.al (Below.refl _ _) _⟩
    case round =>
      obtain ⟨a, ha, rfl, hmiss, c0, c1, g0, g1, hb⟩ := hrel
      have HM := Lib.hid hmiss
      have HB := Lib.hid hb
      have hsz1 : w.heap.size < wr.heap.size := by
        rcases Nat.lt_or_ge w.heap.size wr.heap.size with q | q
        · exact q
        · exact absurd c0 (by simp [World.cell?, Array.getElem?_eq_none q])
      clear hmiss hb
      by_cases hlt : a < 32
      · have hd1 : decide ((a : Int) < 32) = true := by (rw [decide_eq_true_eq]; omega)
        obtain ⟨wo, hwo⟩ : ∃ wo, wo = wr := ⟨_, rfl⟩
        subst hwo
        go_wp2
        go_loopw [5] (fun r wr => ∃ c : Nat, c ≤ 48 ∧ r = .int .i64 (c : Int) ∧ (∀ y : Nat, y < c → Miss l ((a : Int), (y : Int))) ∧ wr.cell? ⟨w.heap.size, 0, none⟩ = some (.int .i64 0) ∧ wr.cell? ⟨w.heap.size, 1, none⟩ = some (.int .i64 0) ∧ wr.frozen? ⟨w.heap.size, 0, none⟩ = false ∧ wr.frozen? ⟨w.heap.size, 1, none⟩ = false ∧ Below w.heap.size w wr) (fun r _ => 48 - (intOf r).toNat)
        case atStart => exact ⟨0, Nat.zero_le _, rfl, (fun y hy => absurd hy (Nat.not_lt_zero y)), c0, c1, g0, g1, HB.out⟩
        case round =>
          clear c0 c1 g0 g1 hsz1
          obtain ⟨c, hc, rfl, hmiss, c0, c1, g0, g1, hb⟩ := hrel
          have HM2 := Lib.hid hmiss
          have HB2 := Lib.hid hb
          have hsz1 : w.heap.size < wr.heap.size := by
            rcases Nat.lt_or_ge w.heap.size wr.heap.size with q | q
            · exact q
            · exact absurd c0 (by simp [World.cell?, Array.getElem?_eq_none q])
          clear hmiss hb
          by_cases hlt2 : c < 48
          · have hd2 : decide ((c : Int) < 48) = true := by (rw [decide_eq_true_eq]; omega)
            have HN := Lib.hid (rname_any ((a : Int), (c : Int)))
            go_wp2_with fail
            refine (HN.out _).mono ?_
            rintro e w1 ⟨rfl, hb1⟩
            have k0 := keep_cell (a := ⟨w.heap.size, 0, none⟩) (v := .int .i64 0) hb1 c0
            have k1 := keep_cell (a := ⟨w.heap.size, 1, none⟩) (v := .int .i64 0) hb1 c1
            have f0 : w1.frozen? ⟨w.heap.size, 0, none⟩ = false := (hb1.frozen (p := ⟨w.heap.size, 0, none⟩) hsz1).trans g0
            have f1 : w1.frozen? ⟨w.heap.size, 1, none⟩ = false := (hb1.frozen (p := ⟨w.heap.size, 1, none⟩) hsz1).trans g1
            have HB3 := Lib.hid (Below.call HB2.out hb1)
            have hs := HSZ.out.eq
            subst hs
            by_cases hit : nameL ((a : Int), (c : Int)) = l
            · have hpl := hit_some l a c hlt hlt2 hit
              have E1 := Lib.hid (show parseV l = ((a : Int), (c : Int)) by rw [parseV, hpl]; rfl)
              have E2 := Lib.hid (show parseE l = 0 by rw [parseE, hpl]; rfl)
              have hq : (nameL ((a : Int), (c : Int)) == l) = true := by rw [hit]; exact beq_self_eq_true l
              clear hpl hit
              go_wp2
              rw [E1.out, E2.out]
              refine bodyPost_ret (v := .tuple #[.agg #[.int .i64 (a : Int), .int .i64 (c : Int)], .int .i64 0]) (by simp [results, Try.results28, go_sem, k0, k1]) rfl ⟨?_, ?_⟩
              · rfl
              · repeat (first | exact HB3.out | (with_reducible refine Below.st ?_ (by simp)))
            · have hq : (nameL ((a : Int), (c : Int)) == l) = false := by simpa using hit
              have HH := Lib.hid hit
              clear hit
              go_wp2
              go_roundw
              case rel =>
                refine ⟨c + 1, by omega, num_i (by omega), ?_, k0, k1, f0, f1, HB3.out⟩
                intro y hy
                rcases Nat.lt_or_ge y c with q | q
                · exact HM2.out y q
                · obtain rfl : y = c := by omega
                  exact HH.out
              case measure => simp [intOf]; omega
          · obtain rfl : c = 48 := by omega
            have hd2 : decide (((48 : Nat) : Int) < 48) = false := by decide
            go_wp2
            go_roundw
            case rel =>
              refine ⟨a + 1, by omega, num_i (by omega), ?_, c0, c1, g0, g1, HB2.out⟩
              intro x y hx hy
              rcases Nat.lt_or_ge x a with q | q
              · exact HM.out x y q hy
              · obtain rfl : x = a := by omega
                exact HM2.out y hy
            case measure => simp [intOf]; omega
      · obtain rfl : a = 32 := by omega
        have hd1 : decide (((32 : Nat) : Int) < 32) = false := by decide
        have hnone : parseL l = none := miss_none l (fun x y hx hy => HM.out x y hx hy)
        have e1 : parseV l = (0, 0) := by rw [parseV, hnone]; rfl
        have e2 : parseE l = 60 := by rw [parseE, hnone]; rfl
        clear hnone
        go_wp2
        rw [e1, e2]
        refine bodyPost_ret (v := .tuple #[.agg #[.int .i64 0, .int .i64 0], .int .i64 60]) (by simp [results, Try.results28, go_sem, c0, c1]) rfl ⟨?_, ?_⟩
        · rfl
        · repeat (first | exact HB.out | (with_reducible refine Below.st ?_ (by simp)))
  · have hnone : parseL l = none := miss_none l (fun a b ha hb e => by have := name_four a b ha hb; rw [e] at this; omega)
    have e1 : parseV l = (0, 0) := by rw [parseV, hnone]; rfl
    have e2 : parseE l = 60 := by rw [parseE, hnone]; rfl
    rw [e1, e2]
    have hd : decide ((4 : Int) < (l.length : Int)) = true := by (rw [decide_eq_true_eq]; omega)
    have hl5 : (5 : Int) ≤ (l.length : Int) := by omega
    clear e1 e2 hnone hs
    go_enter Try.func28, Try.ntmps28
    go_wp2
    refine bodyPost_ret (v := .tuple #[.agg #[.int .i64 0, .int .i64 0], .int .i64 60]) (by simp [results, Try.results28, go_sem]) rfl ⟨?_, ?_⟩
    · rfl
    · repeat (first | exact Below.refl _ _ | (with_reducible refine Below.st ?_ (by simp)) | (with_reducible refine Below.al ?_ _))
end Go.Proofs.Ytchnljdijmgnfaa

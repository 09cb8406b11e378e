/- The text of a number: what the program and the reference answer. -/
import Derived.Test.YtegghoniboebkaaNA
import Derived.Test.YtegghoniboebkaaMB
import Derived.Laws.IdiomStrings
namespace Go.Proofs.Ytegghoniboebkaa
open Go.RowKit

/-- A sign of a text, as a value. -/
def sgn (b : UInt8) : Value := .int .u8 (b.toNat : Int)
/-- The row of 20 signs whose last ones are written. -/
def rowOf (k : Nat) (sfx : List UInt8) : Array Value := (List.replicate k (Value.int .u8 0) ++ sfx.map sgn).toArray

theorem rowOf_set (q : Nat) (sfx : List UInt8) (b : UInt8) : (rowOf (q + 1) sfx).setIfInBounds q (sgn b) = rowOf q (b :: sfx) := by
  unfold rowOf
  rw [List.setIfInBounds_toArray]
  congr 1
  rw [List.replicate_succ', List.append_assoc, List.set_append_right _ _ (by simp)]
  simp
theorem rowOf_at (q : Nat) (sfx : List UInt8) (j : Nat) (h : j < sfx.length) : (rowOf q sfx)[q + j]? = some (sgn sfx[j]) := by
  unfold rowOf
  rw [List.getElem?_toArray, List.getElem?_append_right (by simp)]
  simp [h]
theorem row_store (w : World) (B q : Nat) (sfx : List UInt8) (b : UInt8) (x : Int) (hx : x = (b.toNat : Int)) (h : w.heap[B]? = some (.cells (rowOf (q + 1) sfx) 90 (0, 0))) :
    (w.setCell ⟨B, q, none⟩ (.int .u8 x)).heap[B]? = some (.cells (rowOf q (b :: sfx)) 90 (0, 0)) := by
  rw [heap_setCell_same w B q _ _ _ h, hx, ← rowOf_set]
  rfl
theorem slice20 (w : World) (B q : Nat) (h : q < 20) : (Instr.sliceAt 90 (.pointer (some ⟨B, 0, none⟩)) (some (.int .i64 (q : Int))) none none).run Try.prog w = .ok (.slice (some ⟨B, q, none⟩) (20 - q) (20 - q)) w := by
  have hl : Try.prog.arrayLen 90 = 20 := by kernel_rfl
  have he : Try.prog.elem 90 = 5 := by kernel_rfl
  have hs : (sizeOf 5).run Try.prog w = .ok 1 w := by kernel_rfl
  rw [run_sliceAt_array_l (P := Try.prog) w 90 _ (by rw [hl, he]; exact Try.underlying90) .i64 q (by omega) (by rw [hl]; omega), hl, he, hs]
  simp only [Result.andThen, slicedAt, Int.toNat_natCast, Nat.mul_one]
  rw [if_neg (by omega), Addr.add_lit]
  simp
theorem conv20 (w : World) (B q : Nat) (sfx : List UInt8) (hq : q + sfx.length = 20) (h : w.heap[B]? = some (.cells (rowOf q sfx) 90 (0, 0))) :
    (convert 92 9 (.slice (some ⟨B, q, none⟩) (20 - q) (20 - q))).run Try.prog w = .ok (.string ⟨sfx.toArray⟩) w := by
  have e := run_convert_bytes_back (P := Try.prog) w 92 9 5 ⟨B, q, none⟩ (20 - q) sfx Try.underlying92 Try.underlying5 Try.underlying9 (fun j hj => by
    rw [Addr.add_lit, cell_of_row w B (q + j) _ _ _ h, rowOf_at q sfx j hj]
    rfl)
  rw [show 20 - q = sfx.length by omega] at *
  exact e
set_option maxHeartbeats 1000000 in
theorem text_any (n : Int) (hn : fits n) (w : World) : Calls Try.prog 54 #[.int .i64 n] w fun e w' => e = .returned (.string ⟨(txt n).toArray⟩) ∧ Below w.heap.size w w' := by
  have h19 := dig_19 n.natAbs (by unfold fits at hn; omega)
  have h64 : n.natAbs < 18446744073709551616 := by unfold fits at hn; omega
  have HN := Lib.hid hn
  have H19 := Lib.hid h19
  clear hn h19
  obtain ⟨B, hB⟩ : ∃ B, B = w.heap.size := ⟨_, rfl⟩
  have HB := Lib.hid hB
  go_enter Try.func54, Try.ntmps54
  go_wp2_with (go_at_call 61; refine (size_any _ HN.out _).mono ?_; rintro e w' ⟨rfl, rfl⟩)
  rw [← hB]
  clear hB
  go_loopw [4, 5] (fun a s wr => ∃ (q m : Nat) (sfx : List UInt8), q + 1 + sfx.length = 20 ∧ (dig m).length ≤ q ∧ m < 18446744073709551616 ∧ dig n.natAbs = dig m ++ sfx ∧ a = .int .i64 ((q : Int) + 1) ∧ s = .int .u64 (m : Int) ∧ wr.heap[B]? = some (.cells (rowOf (q + 1) sfx) 90 (0, 0)) ∧ Below B w wr) (fun _ s _ => (intOf s).toNat)
  case atStart => exact ⟨19, n.natAbs, [], rfl, H19.out, h64, by simp, rfl, rfl, by rw [HB.out, heap_alloc_new]; rfl, by rw [HB.out]; exact (Below.refl _ _).alloc (by simp) _⟩
  case round =>
    obtain ⟨q, m, sfx, hq, hm, hm64, hd, rfl, rfl, hb, hbel⟩ := hrel
    have HM := Lib.hid hm
    have HD := Lib.hid hd
    have HE := Lib.hid hb
    have HL := Lib.hid hbel
    have hz : ∀ j, j < q + 1 → wr.cell? ⟨B, j, none⟩ = some (.int .u8 0) := fun j hj => by rw [cell_of_row wr B j _ _ _ hb]; simp [rowOf, List.getElem?_append, hj]
    have hcell := hz q (by omega)
    have hfr : wr.frozen? ⟨B, q, none⟩ = false := frozen_of_row wr B q _ _ hb
    have hfr' : ∀ j, wr.frozen? ⟨B, j, none⟩ = false := fun j => frozen_of_row wr B j _ _ hb
    have HZ := Lib.hid hz
    have HF := Lib.hid hfr'
    clear hm hd hb hbel hz hfr'
    by_cases hm10 : m < 10
    · have hm0 : ((m : Int) / 10 == 0) = true := by rw [beq_iff_eq]; omega
      have hst : ∀ x : Int, x = ((dg m).toNat : Int) → (wr.setCell ⟨B, q, none⟩ (.int .u8 x)).heap[B]? = some (.cells (rowOf q (dg m :: sfx)) 90 (0, 0)) := fun x hx => row_store wr B q sfx (dg m) x hx HE.out
      have hval : (48 + (m : Int) % 10) = ((dg m).toNat : Int) := by rw [dg_toNat m hm10]; omega
      have H10 := Lib.hid hm10
      have HS := Lib.hid (hst _ hval)
      have HV := Lib.hid hval
      have hdd : dig n.natAbs = dg m :: sfx := by rw [HD.out, dig_small m hm10]; rfl
      have HD2 := Lib.hid hdd
      clear hm10 hst hval hdd
      by_cases hn0 : n < 0
      · obtain ⟨r, rfl⟩ : ∃ r, q = r + 1 := ⟨q - 1, by have := HM.out; have := dig_pos m; omega⟩
        have hcell' := HZ.out r (by omega)
        have hfr' := HF.out r
        have hsl := fun w => slice20 w B r (by omega)
        have hcv := conv20 _ B r (45 :: dg m :: sfx) (by simp; omega) (row_store _ B r (dg m :: sfx) 45 45 rfl HS.out)
        have HN0 := Lib.hid hn0
        go_wp2
        go_ret
        refine ⟨?_, ?_⟩
        · rw [txt, if_pos HN0.out, HD2.out]; rfl
        · rw [← HB.out]
          exact Below.setCell (Below.setCell HL.out (Nat.le_refl B) _) (Nat.le_refl B) _
      · have hsl := fun w => slice20 w B q (by omega)
        have hcv := conv20 _ B q (dg m :: sfx) (by simp; omega) HS.out
        have HN0 := Lib.hid hn0
        go_wp2
        go_ret
        refine ⟨?_, ?_⟩
        · rw [txt, if_neg (by have := HN0.out; omega), HD2.out]; rfl
        · rw [← HB.out]
          exact Below.setCell HL.out (Nat.le_refl B) _
    · have hm0 : ((m : Int) / 10 == 0) = false := by rw [beq_eq_false_iff_ne]; omega
      have H10 := Lib.hid hm10
      clear hm10
      go_wp2
      go_roundw
      case rel =>
        have hg := dig_great m H10.out
        have hM := HM.out
        rw [hg, List.length_append, List.length_cons, List.length_nil] at hM
        obtain ⟨r, rfl⟩ : ∃ r, q = r + 1 := ⟨q - 1, by have := dig_pos (m / 10); omega⟩
        exact ⟨r, m / 10, dg (m % 10) :: sfx, by simp; omega, by omega, by omega, by rw [HD.out, hg, List.append_assoc]; rfl, num_i (by omega), num_u (by omega), row_store wr B (r + 1) sfx (dg (m % 10)) _ (by rw [dg_toNat _ (by omega)]; omega) HE.out, Below.setCell HL.out (Nat.le_refl B) _⟩
      case measure => have := H10.out; simp [intOf]; omega

theorem const_slice (k : Nat) (h : k < 10) : (ByteArray.mk #[48, 49, 50, 51, 52, 53, 54, 55, 56, 57]).extract k (k + 1) = ByteArray.mk [dg k].toArray := by
  have : k = 0 ∨ k = 1 ∨ k = 2 ∨ k = 3 ∨ k = 4 ∨ k = 5 ∨ k = 6 ∨ k = 7 ∨ k = 8 ∨ k = 9 := by omega
  have e := ByteArray.extract_mk [48, 49, 50, 51, 52, 53, 54, 55, 56, 57] k (k + 1)
  rw [show ByteArray.mk #[48, 49, 50, 51, 52, 53, 54, 55, 56, 57] = ByteArray.mk [48, 49, 50, 51, 52, 53, 54, 55, 56, 57].toArray from rfl, e]
  congr 2
  rcases this with rfl | rfl | rfl | rfl | rfl | rfl | rfl | rfl | rfl | rfl <;> rfl
theorem ret_s {a b : ByteArray} (h : a = b) : Ending.returned (.string a) = .returned (.string b) := by rw [h]
theorem add_text (w : World) (x y : List UInt8) (hx : x.length ≤ 1000000) (hy : y.length ≤ 1000000) : (Op.stringOp .add ⟨x.toArray⟩ ⟨y.toArray⟩).run Try.prog w = .ok (.string ⟨(x ++ y).toArray⟩) w := by
  exact run_string_add_lists w x y (by omega) (by omega)
set_option maxHeartbeats 1000000 in
theorem rdigits_any : ∀ (b n : Nat), n ≤ b → n < 18446744073709551616 → ∀ w : World, Calls Try.prog 70 #[.int .u64 (n : Int)] w fun e w' => e = .returned (.string ⟨(dig n).toArray⟩) ∧ w = w' := by
  intro b
  induction b with
  | zero =>
    intro n hn _ w
    obtain rfl : n = 0 := by omega
    go_enter Try.func70, Try.ntmps70
    go_wp2
    go_ret
    exact ⟨ret_s (by rw [dig_small 0 (by decide)]; exact const_slice 0 (by decide)), rfl⟩
  | succ b ih =>
    intro n hn h64 w
    have IH := Lib.hid ih
    clear ih
    by_cases h10 : n < 10
    · go_enter Try.func70, Try.ntmps70
      go_wp2
      go_ret
      have e : n % 10 = n := Nat.mod_eq_of_lt h10
      exact ⟨ret_s (by rw [dig_small n h10, e]; exact const_slice n h10), rfl⟩
    · have hc : ∀ w : World, Calls Try.prog 70 #[.int .u64 ((n : Int) / 10)] w fun e w' => e = .returned (.string ⟨(dig (n / 10)).toArray⟩) ∧ w = w' := fun w => IH.out (n / 10) (by omega) (by omega) w
      have HC := Lib.hid hc
      have hcs := const_slice (n % 10) (by omega)
      have hlen := dig_20 (n / 10) (by omega)
      have HD := Lib.hid (dig_great n h10)
      clear hc
      generalize dig (n / 10) = ds at *
      generalize dg (n % 10) = dd at *
      have hadd := add_text w ds [dd] (by omega) (by simp)
      go_enter Try.func70, Try.ntmps70
      go_wp2_with (go_at_call 70; refine (HC.out _).mono ?_; rintro e w' ⟨rfl, rfl⟩)
      go_ret
      exact ⟨by rw [HD.out]; rfl, rfl⟩
set_option maxHeartbeats 1000000 in
theorem rtext_any (n : Int) (hn : fits n) (w : World) : Calls Try.prog 64 #[.int .i64 n] w fun e w' => e = .returned (.string ⟨(txt n).toArray⟩) ∧ w = w' := by
  have h64 : n.natAbs < 18446744073709551616 := by unfold fits at hn; omega
  have hc := fun w => rdigits_any n.natAbs n.natAbs (Nat.le_refl _) h64 w
  have hlen := dig_20 n.natAbs h64
  by_cases h0 : n < 0
  · have HE := Lib.hid (show txt n = 45 :: dig n.natAbs from if_pos h0)
    have HC := Lib.hid hc
    have HN := Lib.hid hn
    clear hc hn
    generalize dig n.natAbs = ds at *
    have hadd := add_text w [45] ds (by simp) (by omega)
    go_enter Try.func64, Try.ntmps64
    go_wp2_with first
      | (go_at_call 71; refine (rsize_any _ HN.out _).mono ?_; rintro e w' ⟨rfl, rfl⟩)
      | (go_at_call 70; refine (HC.out _).mono ?_; rintro e w' ⟨rfl, rfl⟩)
    go_ret
    exact ⟨by rw [HE.out]; rfl, rfl⟩
  · have HE := Lib.hid (show txt n = dig n.natAbs from if_neg h0)
    rw [show (n.natAbs : Int) = n by omega] at hc
    have HC := Lib.hid hc
    have HN := Lib.hid hn
    have hw : IntKind.u64.wrap n = n := by rw [IntKind.wrap_u64]; unfold fits at hn; omega
    clear hc hn
    generalize dig n.natAbs = ds at *
    go_enter Try.func64, Try.ntmps64
    go_wp2_with (go_at_call 70; refine (HC.out _).mono ?_; rintro e w' ⟨rfl, rfl⟩)
    go_ret
    exact ⟨by rw [HE.out]; rfl, rfl⟩
end Go.Proofs.Ytegghoniboebkaa

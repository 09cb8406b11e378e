/- The text of places' names. -/
import Derived.Shelf.Strings.BuilderK
import Derived.Test.YtchnljdijmgnfaaWX
import Derived.Test.YtchnljdijmgnfaaWB
import Derived.Test.YtchnljdijmgnfaaLP
import Derived.Test.YtchnljdijmgnfaaWF
namespace Go.Proofs.Ytchnljdijmgnfaa
open Go.Shelf
def bld169_ren : Go.Shelf.Ren := ⟨fun | 169 => 55 | n => n, fun | 70 => 70 | 9 => 9 | 0 => 0 | 72 => 73 | 37 => 71 | 127 => 87 | 3 => 3 | 5 => 5 | n => n, fun | n => n⟩
theorem bld169 : Go.Proofs.Lays.n169 Try.prog bld169_ren := {
  mixed := by kernel_rfl
  f169 := Try.func55.trans (congrArg some (by kernel_rfl))
  t0 := Try.underlying0
  a0 := Try.isAgg0
  z0 := Try.sizeOf0
  v0 := Try.zeroValue0
  t3 := Try.underlying3
  a3 := Try.isAgg3
  z3 := Try.sizeOf3
  v3 := Try.zeroValue3
  t9 := Try.underlying9
  a9 := Try.isAgg9
  z9 := Try.sizeOf9
  v9 := Try.zeroValue9
  t37 := Try.underlying71
  a37 := Try.isAgg71
  z37 := Try.sizeOf71
  v37 := Try.zeroValue71
  t70 := Try.underlying70
  a70 := Try.isAgg70
  z70 := Try.sizeOf70
  v70 := Try.zeroValue70
  t72 := Try.underlying73
  a72 := Try.isAgg73
  z72 := Try.sizeOf73
  v72 := Try.zeroValue73
  t127 := Try.underlying87
  a127 := Try.isAgg87
  z127 := Try.sizeOf87
  v127 := Try.zeroValue87 }
theorem bldX169 : Builder.Extra Try.prog bld169_ren := {
  sizeBuilder := by kernel_rfl
  liesBuilder := by kernel_rfl
  t5 := Try.underlying5
  a5 := Try.isAgg5
  z5 := Try.sizeOf5
  v5 := Try.zeroValue5
  infoByte := by kernel_rfl
  cellsByte := by kernel_rfl
  sizeByte := by kernel_rfl
  neB5 := by decide }
open Go.RowKit
theorem bstr_any (B b : Nat) (l : List UInt8) (w : World) (h : Lib.IsBuilderF 73 5 B b (Lib.byteCells l) w) (hBw : B ≤ w.heap.size) :
    Calls Try.prog 55 #[.pointer (some ⟨b, 0, none⟩)] w fun e w' => e = .returned (.string ⟨l.toArray⟩) ∧ Below B w w' :=
  (Any.Builder_String_any_k bld169 bldX169 B b l w h hBw).mono fun _ _ q => ⟨q.1, q.2.2.1⟩
/-- The text of the first places. -/
def joinN (xs : List (Int × Int)) : Nat → List UInt8
  | 0 => []
  | k + 1 => (if k = 0 then [] else joinN xs k ++ [44]) ++ nameL (xs.getD k (0, 0))
def textL (xs : List (Int × Int)) : List UInt8 := if xs.all rightB = true then joinN xs xs.length else []
theorem nameL_len (p : Int × Int) : (nameL p).length ≤ 23 := by
  cases h : rightB p
  · rw [nameL_no h]; simp
  · rw [nameL_yes h, List.length_append]
    have a := (nm_len p.1.toNat).2
    have b := txt_len (p.2 + 1) (by have := (right_iff p).1 h; unfold fits; omega)
    omega
theorem joinN_len (xs : List (Int × Int)) (k : Nat) : (joinN xs k).length ≤ 24 * k := by
  induction k with
  | zero => simp [joinN]
  | succ k ih =>
    have := nameL_len (xs.getD k (0, 0))
    rw [joinN, List.length_append]
    split
    · simp only [List.length_nil]; omega
    · simp only [List.length_append, List.length_cons, List.length_nil]; omega
theorem all_get (xs : List (Int × Int)) (h : xs.all rightB = true) (k : Nat) (hk : k < xs.length) : rightB (xs.getD k (0, 0)) = true := by
  rw [List.all_eq_true] at h
  exact h _ (getD_mem xs k hk)
theorem all_not (xs : List (Int × Int)) (k : Nat) (hk : k < xs.length) (h : rightB (xs.getD k (0, 0)) = false) : xs.all rightB = false := by
  cases ha : xs.all rightB
  · rfl
  · rw [all_get xs ha k hk] at h; cases h
set_option maxRecDepth 100000 in
set_option maxHeartbeats 4000000 in
theorem wtext_any (v : Value) (xs : List (Int × Int)) (w : World) (h : IsL w w.heap.size v xs) (hl : xs.length ≤ 1000000) : Calls Try.prog 36 #[v] w fun e w' => e = .returned (.string ⟨(textL xs).toArray⟩) ∧ Below w.heap.size w w' := by
  obtain ⟨⟨A, cap, rfl, hcap, hA⟩, hfit, hlen⟩ := h
  have HA := Lib.hid hA
  have HFIT := Lib.hid hfit
  clear hA hfit
  go_enter Try.func36, Try.ntmps36
  go_wp2
  go_loopw [8] (fun i wr => ∃ k : Nat, k ≤ xs.length ∧ i = .int .i64 (k : Int) ∧ (∀ j, j < k → rightB (xs.getD j (0, 0)) = true) ∧ Lib.IsBuilderF 73 5 w.heap.size w.heap.size (Lib.byteCells (joinN xs k)) wr ∧ Below w.heap.size w wr) (fun i _ => xs.length - (intOf i).toNat)
  case atStart => exact ⟨0, Nat.zero_le _, rfl, (fun j hj => absurd hj (Nat.not_lt_zero j)), Lib.IsBuilderF.of (Lib.fresh_isBuilder 73 5 w), (Below.refl _ w).alloc (Nat.le_refl _) _⟩
  case round =>
    obtain ⟨k, hk, rfl, hri, hI, hb⟩ := hrel
    have HRI := Lib.hid hri
    have HI := Lib.hid hI
    have HB := Lib.hid hb
    have hsz : w.heap.size < wr.heap.size := by
      rcases hI with q | q
      · exact q.lt
      · exact q.lt
    have HJ := Lib.hid (joinN_len xs k)
    clear hri hI hb
    by_cases hlt : k < xs.length
    · obtain ⟨b, off, rfl, hbb, hcell⟩ := HA.out (by omega)
      have hx1 := (HB.out.cell (p := ⟨b, off + k * 2, none⟩) hbb).trans (hcell k hlt).1
      have hx2 := (HB.out.cell (p := ⟨b, off + k * 2 + 1, none⟩) hbb).trans (hcell k hlt).2
      clear hcell
      cases hr : rightB (xs.getD k (0, 0))
      · have HR := Lib.hid (right_any (xs.getD k (0, 0)))
        rw [hr] at HR
        have HT := Lib.hid (show textL xs = [] by rw [textL, all_not xs k hlt hr]; rfl)
        clear hr
        generalize xs.getD k (0, 0) = x at *
        go_wp2_with fail
        refine (HR.out _).mono ?_
        rintro e w1 ⟨rfl, hb1⟩
        have HB1 := Lib.hid ((HB.out.alloc (by omega) (.cells #[.int .i64 x.1, .int .i64 x.2] 38)).trans (hb1.mono (by simp; omega)))
        clear hb1
        go_wp2
        go_ret
        exact ⟨by rw [HT.out]; rfl, HB1.out⟩
      · have HR := Lib.hid (right_any (xs.getD k (0, 0)))
        have HN := Lib.hid (name_any (xs.getD k (0, 0)))
        have HL := Lib.hid (nameL_len (xs.getD k (0, 0)))
        have hjs : joinN xs (k + 1) = (if k = 0 then [] else joinN xs k ++ [44]) ++ nameL (xs.getD k (0, 0)) := rfl
        have HJS := Lib.hid hjs
        have HRS : Hid (∀ j, j < k + 1 → rightB (xs.getD j (0, 0)) = true) := Lib.hid (fun j hj => by
          rcases Nat.lt_or_ge j k with q | q
          · exact HRI.out j q
          · obtain rfl : j = k := by omega
            exact hr)
        rw [hr] at HR
        clear hr hjs
        generalize xs.getD k (0, 0) = x at *
        go_wp2_with fail
        refine (HR.out _).mono ?_
        rintro e w1 ⟨rfl, hb1⟩
        have hob : w1.heap[wr.heap.size]? = some (.cells #[.int .i64 x.1, .int .i64 x.2] 38) := (hb1.block _ (by simp)).trans (heap_alloc_new wr _)
        have HB1 := Lib.hid ((HB.out.alloc (by omega) (.cells #[.int .i64 x.1, .int .i64 x.2] 38)).trans (hb1.mono (by simp; omega)))
        have HI1 := Lib.hid (bld_below (HI.out.alloc _) hb1)
        have hs1 : wr.heap.size < w1.heap.size := heap_lt hob
        have HOB := Lib.hid hob
        clear hb1
        by_cases hk0 : k = 0
        · subst hk0
          have q0 : w1.cell? ⟨wr.heap.size, 0, none⟩ = some (.int .i64 x.1) := by rw [Lib.cell_of_heap hob]; rfl
          have q1 : w1.cell? ⟨wr.heap.size, 1, none⟩ = some (.int .i64 x.2) := by rw [Lib.cell_of_heap hob]; rfl
          clear hob
          go_wp2_with fail
          refine (HN.out _).mono ?_
          rintro e w2 ⟨rfl, hb2⟩
          have HI2 := Lib.hid (bld_below HI1.out hb2)
          have HB2 := Lib.hid (Below.call HB1.out hb2)
          clear hb2
          go_wp2_with fail
          refine (wstr_any w.heap.size w.heap.size _ _ _ HI2.out (by have := HL.out; simp only [joinN, Lib.byteCells_length, List.length_nil, ByteArray.size, List.size_toArray]; omega) HB2.out.size).mono ?_
          rintro e w3 ⟨rfl, hA3, hb3, _⟩
          have HI3 := Lib.hid hA3
          have HB3 := Lib.hid (HB2.out.trans hb3)
          clear hA3 hb3
          go_wp2
          go_roundw
          case rel => exact ⟨1, by omega, num_i (by simp), HRS.out, Or.inr (by have q := HI3.out; rw [show Lib.strCells ⟨(nameL x).toArray⟩ = Lib.byteCells (nameL x) from rfl, ← Lib.byteCells_append] at q; rw [HJS.out]; simpa [joinN] using q), HB3.out⟩
          case measure => simp [intOf]; omega
        · have hk1 : (0 : Int) < (k : Int) := by omega
          clear hob
          go_wp2_with fail
          refine (wbyte_any w.heap.size w.heap.size _ 44 _ HI1.out (by have := HJ.out; simp only [Lib.byteCells_length]; omega) HB1.out.size).mono ?_
          rintro e w2 ⟨rfl, hA2, hb2, hk2⟩
          have hob2 := hk2 _ _ HOB.out (by simp; omega) (by intro c fz; simp)
          have HI2 : Hid (Lib.IsBuilderF 73 5 w.heap.size w.heap.size (Lib.byteCells (joinN xs k ++ [44])) w2) := Lib.hid (Or.inr (by rw [Lib.byteCells_append]; exact hA2))
          have HB2 := Lib.hid (HB1.out.trans hb2)
          have q0 : w2.cell? ⟨wr.heap.size, 0, none⟩ = some (.int .i64 x.1) := by rw [Lib.cell_of_heap hob2]; rfl
          have q1 : w2.cell? ⟨wr.heap.size, 1, none⟩ = some (.int .i64 x.2) := by rw [Lib.cell_of_heap hob2]; rfl
          clear hA2 hb2 hk2 hob2
          go_wp2_with fail
          refine (HN.out _).mono ?_
          rintro e w3 ⟨rfl, hb3⟩
          have HI3 := Lib.hid (bld_below HI2.out hb3)
          have HB3 := Lib.hid (Below.call HB2.out hb3)
          clear hb3
          go_wp2_with fail
          refine (wstr_any w.heap.size w.heap.size _ _ _ HI3.out (by have := HL.out; have := HJ.out; simp only [Lib.byteCells_length, List.length_append, List.length_cons, List.length_nil, ByteArray.size, List.size_toArray]; omega) HB3.out.size).mono ?_
          rintro e w4 ⟨rfl, hA4, hb4, _⟩
          have HI4 := Lib.hid hA4
          have HB4 := Lib.hid (HB3.out.trans hb4)
          clear hA4 hb4
          go_wp2
          go_roundw
          case rel => exact ⟨k + 1, by omega, num_i (by omega), HRS.out, Or.inr (by have q := HI4.out; rw [show Lib.strCells ⟨(nameL x).toArray⟩ = Lib.byteCells (nameL x) from rfl, ← Lib.byteCells_append] at q; rw [HJS.out, if_neg hk0]; exact q), HB4.out⟩
          case measure => simp [intOf]; omega
    · obtain rfl : k = xs.length := by omega
      have HT := Lib.hid (show textL xs = joinN xs xs.length by
        rw [textL, if_pos]
        rw [List.all_eq_true]
        intro x hx
        obtain ⟨j, hj, rfl⟩ := List.mem_iff_getElem.1 hx
        have := HRI.out j hj
        rw [show xs.getD j (0, 0) = xs[j] from by simp [List.getD_eq_getElem?_getD, hj]] at this
        exact this)
      go_wp2_with fail
      refine (bstr_any w.heap.size w.heap.size _ _ HI.out HB.out.size).mono ?_
      rintro e w1 ⟨rfl, hb1⟩
      have HB1 := Lib.hid (HB.out.trans hb1)
      clear hb1
      go_wp2
      go_ret
      exact ⟨by rw [HT.out]; rfl, HB1.out⟩
end Go.Proofs.Ytchnljdijmgnfaa

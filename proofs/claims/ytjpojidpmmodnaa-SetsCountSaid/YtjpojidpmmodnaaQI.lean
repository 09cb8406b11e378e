/- What must come of every program (layer 4). -/
import Derived.Test.YtjpojidpmmodnaaQG
import Derived.Test.YtjpojidpmmodnaaQH
namespace Go.Proofs.Ytjpojidpmmodnaa
open Go.RowKit

/-- Numbers laid as a slice. -/
theorem IsL.lits {W : World} {H : Nat} {l : List Int} (hf : ∀ x ∈ l, fits x) (hl : l.length ≤ 1000) (h : W.heap[H]? = some (Obj.cells (l.map iv).toArray 3)) : IsL W (H + 1) (.slice (some ⟨H, 0, none⟩) l.length l.length) l := by
  refine ⟨⟨_, l.length, rfl, Nat.le_refl _, fun _ => ⟨H, 0, rfl, by omega, fun i hi => ?_⟩⟩, hf, by omega⟩
  rw [cell_of_row _ H _ _ _ (0, 0) h, Nat.zero_add, List.getElem?_toArray, getD_map l i hi]
theorem IsL.lits' (W : World) (l : List Int) (hf : ∀ x ∈ l, fits x) (hl : l.length ≤ 1000) : IsL (W.alloc (.cells (l.map iv).toArray 3)) (W.alloc (.cells (l.map iv).toArray 3)).heap.size (.slice (some ⟨W.heap.size, 0, none⟩) l.length l.length) l :=
  (IsL.lits hf hl (heap_alloc_new W _)).more (by simp)
theorem IsL.alloc {W : World} {v : Value} {l : List Int} (h : IsL W W.heap.size v l) (o : Obj) : IsL (W.alloc o) (W.alloc o).heap.size v l := (h.below ((Below.refl _ W).alloc (Nat.le_refl _) o)).more (by simp)
theorem l313 (W : World) : IsL (W.alloc (.cells #[.int .i64 3, .int .i64 1, .int .i64 3] 3)) (W.alloc (.cells #[.int .i64 3, .int .i64 1, .int .i64 3] 3)).heap.size (.slice (some ⟨W.heap.size, 0, none⟩) 3 3) [3, 1, 3] := IsL.lits' W [3, 1, 3] (by decide) (by decide)
theorem l13 (W : World) : IsL (W.alloc (.cells #[.int .i64 1, .int .i64 3] 3)) (W.alloc (.cells #[.int .i64 1, .int .i64 3] 3)).heap.size (.slice (some ⟨W.heap.size, 0, none⟩) 2 2) [1, 3] := IsL.lits' W [1, 3] (by decide) (by decide)
theorem l35 (W : World) : IsL (W.alloc (.cells #[.int .i64 3, .int .i64 5] 3)) (W.alloc (.cells #[.int .i64 3, .int .i64 5] 3)).heap.size (.slice (some ⟨W.heap.size, 0, none⟩) 2 2) [3, 5] := IsL.lits' W [3, 5] (by decide) (by decide)
theorem l1 (W : World) (x : Int) (hx : fits x) : IsL (W.alloc (.cells #[.int .i64 x] 3)) (W.alloc (.cells #[.int .i64 x] 3)).heap.size (.slice (some ⟨W.heap.size, 0, none⟩) 1 1) [x] := IsL.lits' W [x] (by simpa using hx) (by simp)
theorem below_alloc {B : Nat} {a w : World} (h : Below B a w) (hB : B ≤ w.heap.size) (o : Obj) : Below B a (w.alloc o) ∧ B ≤ (w.alloc o).heap.size := ⟨h.alloc hB o, by simp; omega⟩
theorem tw313 {t : Int} (h : Tw [3, 1, 3] t) : t = 2 := h.uniq (Or.inr ⟨2, by decide, rfl, by decide, by decide⟩)
set_option maxHeartbeats 600000 in
theorem lives4 (w : World) : Calls Try.prog 30 #[] w fun e w' => e = .returned (.bool true) ∧ Below w.heap.size w w' := by
  have m1 : mk [3, 1, 3] = [1, 3] := by decide
  have m2 : ([1, 3] : List Int).filter (fun y => !decide (y ∈ ([3, 5] : List Int))) = [1] := by decide
  have m3 : mk ([1, 3] ++ [2]) = [1, 2, 3] := by decide
  have m4 : ([1, 3] : List Int).filter (fun y => decide (y ∈ ([1] : List Int))) = [1] := by decide
  have m5 : ([1, 3] : List Int).filter (fun y => decide (y ∈ ([2] : List Int))) = [] := by decide
  have hf1 : ∀ W : World, Calls Try.prog 31 #[.slice (some ⟨W.heap.size, 0, none⟩) 3 3] (W.alloc (.cells #[.int .i64 3, .int .i64 1, .int .i64 3] 3)) fun e w' => ∃ v, e = .returned v ∧ IsL w' w'.heap.size v [1, 3] ∧ Below W.heap.size W w' := fun W => by
    have h := from_any _ [3, 1, 3] _ (l313 W) (by decide)
    rw [m1] at h
    exact h.mono fun e w' ⟨v, h1, h2, h3⟩ => ⟨v, h1, h2, ((Below.refl _ W).alloc (Nat.le_refl _) _).trans (h3.mono (by simp))⟩
  have hf2 : ∀ W : World, Calls Try.prog 44 #[.slice (some ⟨W.heap.size, 0, none⟩) 2 2, .slice (some ⟨W.heap.size + 1, 0, none⟩) 2 2] ((W.alloc (.cells #[.int .i64 1, .int .i64 3] 3)).alloc (.cells #[.int .i64 3, .int .i64 5] 3)) fun e w' => ∃ v, e = .returned v ∧ IsL w' w'.heap.size v [1] ∧ Below W.heap.size W w' := fun W => by
    have hr := l35 (W.alloc (.cells #[.int .i64 1, .int .i64 3] 3))
    rw [show (some ⟨(W.alloc (.cells #[.int .i64 1, .int .i64 3] 3)).heap.size, 0, none⟩ : Option Addr) = some ⟨W.heap.size + 1, 0, none⟩ by rw [size_alloc]] at hr
    have h := less_any _ _ [1, 3] [3, 5] _ ((l13 W).alloc (.cells #[.int .i64 3, .int .i64 5] 3)) hr (by decide) (by decide) (by decide)
    rw [m2] at h
    exact h.mono fun e w' ⟨v, h1, h2, h3⟩ => ⟨v, h1, h2, (((Below.refl _ W).alloc (Nat.le_refl _) _).alloc (by simp) _).trans (h3.mono (by simp; omega))⟩
  have hf3 : ∀ (W : World) (s : Value), IsL W W.heap.size s [1, 3] → Calls Try.prog 34 #[s] W fun e w' => e = .returned (.bool true) ∧ ∃ d, w' = W.drewN d := fun W s hs => by
    have h := right_any s [1, 3] W hs
    rwa [show decide (Inc [1, 3]) = true by decide] at h
  have hf4 : ∀ W : World, Calls Try.prog 36 #[.slice (some ⟨W.heap.size, 0, none⟩) 3 3] (W.alloc (.cells #[.int .i64 3, .int .i64 1, .int .i64 3] 3)) fun e w' => e = .returned (.int .i64 2) ∧ Below W.heap.size W w' := fun W =>
    (twice_any _ [3, 1, 3] _ (l313 W) (by decide)).mono fun e w' ⟨⟨t, h1, h2⟩, h3⟩ => ⟨by rw [h1, tw313 h2], ((Below.refl _ W).alloc (Nat.le_refl _) _).trans (h3.mono (by simp))⟩
  have hf5 : ∀ (W : World) (s : Value), IsL W W.heap.size s [1, 3] → Calls Try.prog 38 #[s, .int .i64 3] W fun e w' => e = .returned (.bool true) ∧ W = w' := fun W s hs => by
    have h := has_any s [1, 3] 3 W hs (by decide)
    rwa [show decide ((3 : Int) ∈ ([1, 3] : List Int)) = true by decide] at h
  have hf6 : ∀ (W : World) (s : Value), IsL W W.heap.size s [1, 3] → Calls Try.prog 40 #[s, .slice (some ⟨W.heap.size, 0, none⟩) 1 1] (W.alloc (.cells #[.int .i64 2] 3)) fun e w' => (∃ A cap, e = .returned (.slice A 3 cap)) ∧ Below W.heap.size W w' := fun W s hs => by
    have h := either_any s _ [1, 3] [2] _ (hs.alloc (.cells #[.int .i64 2] 3)) (l1 W 2 (by decide)) (by decide) (by decide) (by decide)
    rw [m3] at h
    exact h.mono fun e w' ⟨v, h1, ⟨⟨A, cap, h2, _⟩, _⟩, h3⟩ => ⟨⟨A, cap, by rw [h1, h2]; rfl⟩, ((Below.refl _ W).alloc (Nat.le_refl _) _).trans (h3.mono (by simp))⟩
  have hf7 : ∀ (W : World) (s : Value), IsL W W.heap.size s [1, 3] → Calls Try.prog 42 #[s, .slice (some ⟨W.heap.size, 0, none⟩) 1 1] (W.alloc (.cells #[.int .i64 1] 3)) fun e w' => (∃ A cap, e = .returned (.slice A 1 cap)) ∧ Below W.heap.size W w' := fun W s hs => by
    have h := both_any s _ [1, 3] [1] _ (hs.alloc (.cells #[.int .i64 1] 3)) (l1 W 1 (by decide)) (by decide) (by decide) (by decide)
    rw [m4] at h
    exact h.mono fun e w' ⟨v, h1, ⟨⟨A, cap, h2, _⟩, _⟩, h3⟩ => ⟨⟨A, cap, by rw [h1, h2]; rfl⟩, ((Below.refl _ W).alloc (Nat.le_refl _) _).trans (h3.mono (by simp))⟩
  have hf8 : ∀ (W : World) (s : Value), IsL W W.heap.size s [1, 3] → Calls Try.prog 46 #[s, .slice (some ⟨W.heap.size, 0, none⟩) 1 1] (W.alloc (.cells #[.int .i64 2] 3)) fun e w' => e = .returned (.bool true) ∧ Below W.heap.size W w' := fun W s hs => by
    have h := apart_any s _ [1, 3] [2] _ (hs.alloc (.cells #[.int .i64 2] 3)) (l1 W 2 (by decide)) (by decide) (by decide) (by decide)
    rw [m5, show decide (([] : List Int) = []) = true by decide] at h
    exact h.mono fun e w' ⟨h1, h3⟩ => ⟨h1, ((Below.refl _ W).alloc (Nat.le_refl _) _).trans (h3.mono (by simp))⟩
  have F1 := Lib.hid hf1
  have F2 := Lib.hid hf2
  have F3 := Lib.hid hf3
  have F4 := Lib.hid hf4
  have F5 := Lib.hid hf5
  have F6 := Lib.hid hf6
  have F7 := Lib.hid hf7
  have F8 := Lib.hid hf8
  clear m1 m2 m3 m4 m5 hf1 hf2 hf3 hf4 hf5 hf6 hf7 hf8
  go_enter Try.func30, Try.ntmps30
  go_wp2_with fail
  refine (F1.out w).mono ?_
  rintro e w1 ⟨s, rfl, hs, hb⟩
  have HB := Lib.hid hb
  have HS := Lib.hid hs
  clear hs hb
  go_wp2_with fail
  refine (F2.out w1).mono ?_
  rintro e w2 ⟨l, rfl, hl, hb⟩
  have HB2 := Lib.hid (HB.out.trans (hb.mono HB.out.size))
  have HS2 := Lib.hid ((HS.out.below hb).more hb.size)
  have HL2 := Lib.hid hl
  clear hl hb HB HS
  obtain ⟨⟨A, cap, rfl, hcap, hA⟩, _, _⟩ := HS2.out
  obtain ⟨b, off, rfl, hb0, hc⟩ := hA (by decide)
  have c0 : w2.cell? ⟨b, off, none⟩ = some (.int .i64 1) := hc 0 (by decide)
  have c1 : w2.cell? ⟨b, off + 1, none⟩ = some (.int .i64 3) := hc 1 (by decide)
  clear hc hA hcap hb0
  go_wp2_with fail
  refine (F3.out w2 _ HS2.out).mono ?_
  rintro e w' ⟨rfl, d, rfl⟩
  clear c0 c1
  go_wp2_with fail
  refine (F4.out (w2.drewN d)).mono ?_
  rintro e w4 ⟨rfl, hb⟩
  have HB4 := Lib.hid ((below_drewN HB2.out d).trans (hb.mono HB2.out.size))
  have HS4 := Lib.hid (((HS2.out.drewN d).below hb).more hb.size)
  have HL4 := Lib.hid (((HL2.out.drewN d).below hb).more hb.size)
  clear hb HS2 HL2 HB2
  go_wp2_with fail
  refine (F5.out w4 _ HS4.out).mono ?_
  rintro e w' ⟨rfl, rfl⟩
  go_wp2_with fail
  refine (F6.out w4 _ HS4.out).mono ?_
  rintro e w6 ⟨⟨A6, cap6, rfl⟩, hb⟩
  have HB6 := Lib.hid (HB4.out.trans (hb.mono HB4.out.size))
  have HS6 := Lib.hid ((HS4.out.below hb).more hb.size)
  have HL6 := Lib.hid ((HL4.out.below hb).more hb.size)
  clear hb HS4 HL4 HB4
  go_wp2_with fail
  refine (F7.out w6 _ HS6.out).mono ?_
  rintro e w7 ⟨⟨A7, cap7, rfl⟩, hb⟩
  have HB7 := Lib.hid (HB6.out.trans (hb.mono HB6.out.size))
  have HS7 := Lib.hid ((HS6.out.below hb).more hb.size)
  have HL7 := Lib.hid ((HL6.out.below hb).more hb.size)
  clear hb HS6 HL6 HB6
  obtain ⟨⟨A, cap, rfl, hcap, hA⟩, _, _⟩ := HL7.out
  obtain ⟨b3, off3, rfl, hb0, hc⟩ := hA (by decide)
  have c0 : w7.cell? ⟨b3, off3, none⟩ = some (.int .i64 1) := hc 0 (by decide)
  clear hc hA hcap hb0
  go_wp2_with fail
  refine (F8.out w7 _ HS7.out).mono ?_
  rintro e w8 ⟨rfl, hb⟩
  have HB8 := Lib.hid (HB7.out.trans (hb.mono HB7.out.size))
  clear hb HS7 HL7 HB7
  go_wp2
  go_ret
  exact ⟨rfl, HB8.out⟩
end Go.Proofs.Ytjpojidpmmodnaa

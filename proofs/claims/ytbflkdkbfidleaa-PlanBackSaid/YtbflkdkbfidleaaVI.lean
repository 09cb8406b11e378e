/- Plans: a mutex taken. -/
import Derived.Test.YtbflkdkbfidleaaVH
import Derived.Deep.Cut
namespace Go.Proofs.Ytbflkdkbfidleaa
open Go.RowKit Go.Maps
theorem unit_mk : unitElem (H := Unit) (.agg #[]) = some (.agg [], []) := unitElem_mk
theorem put_last {h : List Int} {x : Int} (ha : h.all (fun y => decide (y < x)) = true) : Two.put h x = h ++ [x] := by
  induction h with
  | nil => rfl
  | cons y r ih =>
    rw [List.all_cons, Bool.and_eq_true, decide_eq_true_eq] at ha
    rw [Two.put, if_pos ha.1, ih ha.2]
    rfl
set_option maxRecDepth 100000 in
set_option maxHeartbeats 4000000 in
theorem take_any (w : World) (B bm n base : Nat) (p : Int) (h : List Int) (l x : Int) (k : Wk w B bm n p h l) (hx : fits x) (hn : n ≤ 100000) (hlen : h.length ≤ 100000) (hB : base ≤ B) (hm : base ≤ bm) :
    Calls Try.prog 65 #[.pointer (some ⟨B, 0, none⟩), .int .i64 x] w fun e w' => e = .returned (.bool (decide (h = [] ∨ l < x))) ∧ ((h = [] ∨ l < x) → Wk w' B bm (n + 1) p (Two.put h x) x) ∧ Below base w w' := by
  have HK := Lib.hid k
  have c1 := k.c1
  have c2 := k.c2
  have z2 := k.z2
  have hlt := k.lt
  have HX := Lib.hid hx
  have HNE := Lib.hid k.ne
  have hln := fun ty => k.m.len ty
  obtain ⟨D, ho, hr⟩ := k.m
  have HT := Lib.hid (ho.tidy Two.law3)
  have HR := Lib.hid hr
  have HO := Lib.hid ho
  clear k hx hr ho
  have WAYS := True.intro
  by_cases h1 : h ≠ [] ∧ ¬ l < x
  · have HE := Lib.hid (show ¬ (h = [] ∨ l < x) from fun a => a.elim h1.1 h1.2)
    rw [decide_eq_false HE.out]
    have hpos : (0 : Int) < h.length := by
      have := List.length_pos_iff.2 h1.1
      omega
    have hxl : x ≤ l := by have := h1.2; omega
    clear h1
    go_enter Try.func65, Try.ntmps65
    go_wp2
    go_ret
    exact ⟨rfl, fun a => absurd a HE.out, Below.refl _ _⟩
  · have HE := Lib.hid (show h = [] ∨ l < x by
      by_cases a : h = []
      · exact .inl a
      · by_cases c : l < x
        · exact .inr c
        · exact absurd ⟨a, c⟩ h1)
    rw [decide_eq_true HE.out]
    clear h1
    have hif : ¬ ((0 : Int) < h.length ∧ x ≤ l) := by
      intro a
      rcases HE.out with rfl | e
      · exact absurd a.1 (by simp)
      · omega
    by_cases hpos : (0 : Int) < h.length
    · have hxl : l < x := by omega
      clear hif
      go_enter Try.func65, Try.ntmps65
      go_wp2_with (at_mapUpdate; refine wpList_mapUpdate_own _ rfl _ _ _ 62 rfl 3 67 Two.law3 Try.underlying62 (unitElem (H := Unit)) bm n _ rfl HO.out (by unfold maxLen; omega) _ _ _ rfl rfl (keyI HX.out) _ [] unit_mk ?_; intro w1 hown1 hgrow1; have HK1 := Lib.hid (HK.out.map hgrow1 ⟨_, hown1, HR.out.put HT.out x _⟩); have HB1 := Lib.hid ((Below.refl base w).grown hgrow1 (Nat.le_trans hB (Nat.le_of_lt hlt)) (fun j hj => by cases hj; exact hm)); clear hown1 hgrow1 c1 c2 z2 hln; have c2 := HK1.out.c2; have z2 := HK1.out.z2)
      go_ret
      exact ⟨rfl, fun _ => HK1.out.set2 _, HB1.out.setCell hB _⟩
    · obtain rfl : h = [] := List.eq_nil_of_length_eq_zero (by omega)
      clear hif hpos
      simp only [List.length_nil] at hln
      go_enter Try.func65, Try.ntmps65
      go_wp2_with (at_mapUpdate; refine wpList_mapUpdate_own _ rfl _ _ _ 62 rfl 3 67 Two.law3 Try.underlying62 (unitElem (H := Unit)) bm n _ rfl HO.out (by unfold maxLen; omega) _ _ _ rfl rfl (keyI HX.out) _ [] unit_mk ?_; intro w1 hown1 hgrow1; have HK1 := Lib.hid (HK.out.map hgrow1 ⟨_, hown1, HR.out.put HT.out x _⟩); have HB1 := Lib.hid ((Below.refl base w).grown hgrow1 (Nat.le_trans hB (Nat.le_of_lt hlt)) (fun j hj => by cases hj; exact hm)); clear hown1 hgrow1 c1 c2 z2 hln; have c2 := HK1.out.c2; have z2 := HK1.out.z2)
      go_ret
      exact ⟨rfl, HK1.out.set2 _, HB1.out.setCell hB _⟩
end Go.Proofs.Ytbflkdkbfidleaa

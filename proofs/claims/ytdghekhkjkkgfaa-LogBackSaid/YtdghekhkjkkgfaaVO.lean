/- Logs: words for the law of noting. -/
import Derived.Test.YtdghekhkjkkgfaaVM
import Derived.Test.YtdghekhkjkkgfaaVI
import Derived.Test.YtdghekhkjkkgfaaVH
namespace Go.Proofs.Ytdghekhkjkkgfaa
open Go.RowKit

theorem Cells3.grown {V V' : World} {D : Nat} {row : Option Nat} {x0 x1 x2 : Value} (h : Cells3 V D x0 x1 x2) (hg : V.grownBy V' row) (hne : some D ≠ row) : Cells3 V' D x0 x1 x2 := by
  obtain ⟨h0, h1, h2, z0, z1, z2, hs⟩ := h
  exact ⟨(hg.cell_far ⟨D, 0, none⟩ hs hne).trans h0, (hg.cell_far ⟨D, 1, none⟩ hs hne).trans h1, (hg.cell_far ⟨D, 2, none⟩ hs hne).trans h2, (hg.frozen_far ⟨D, 0, none⟩ hs hne).trans z0, (hg.frozen_far ⟨D, 1, none⟩ hs hne).trans z1, (hg.frozen_far ⟨D, 2, none⟩ hs hne).trans z2, Nat.lt_of_lt_of_le hs hg.size⟩
/-- What the call owns stays so while a cell of another block is written. -/
theorem Lk.Own.far {P : Program} {α : Type} {K : Lk P α} {w : World} {base : Nat} {v : Value} {xs : List α} (h : K.Own w base v xs) {D : Nat} (hne : ∀ k, v.ownBlock = some k → k ≠ D) (o : Nat) (u : Value) : K.Own (w.setCell ⟨D, o, none⟩ u) base v xs := by
  obtain ⟨⟨h1, h2⟩, hf⟩ := h
  refine ⟨⟨h1, ?_⟩, hf⟩
  rcases h2 with h2 | ⟨g, cap, cur, rfl, hg, hh, r⟩
  · exact Or.inl h2
  · exact Or.inr ⟨g, cap, cur, rfl, hg, by rw [Below.heap_setCell _ _ _ _ (hne g rfl)]; exact hh, r⟩
theorem flat_setN (ys : List Ch) (k : Nat) (hk : k < ys.length) (x : Int) : (KC.flat ys).set (k * 3 + 2) (.int .i64 x) = KC.flat (ys.set k ⟨(ys.getD k ch0).a, (ys.getD k ch0).b, x⟩) := by
  induction ys generalizing k with
  | nil => simp at hk
  | cons y r ih =>
    cases k with
    | zero => rfl
    | succ k =>
      show (.int .i64 y.a :: .int .i64 y.b :: .int .i64 y.c :: KC.flat r).set ((k + 1) * 3 + 2) _ = .int .i64 y.a :: .int .i64 y.b :: .int .i64 y.c :: KC.flat (r.set k ⟨(r.getD k ch0).a, (r.getD k ch0).b, x⟩)
      rw [← ih k (by simpa using hk), show (k + 1) * 3 + 2 = (k * 3 + 2) + 1 + 1 + 1 by omega]
      rfl
/-- An element's number is changed in an own list. -/
theorem own_setN {w : World} {B g n c : Nat} {ys : List Ch} (h : KC.Own w B (.slice (some ⟨g, 0, none⟩) n c) ys) (hn : ys.length = n) (k : Nat) (hk : k < ys.length) (x : Int) (hx : fits x) :
    KC.Own (w.setCell ⟨g, k * 3 + 2, none⟩ (.int .i64 x)) B (.slice (some ⟨g, 0, none⟩) n c) (ys.set k ⟨(ys.getD k ch0).a, (ys.getD k ch0).b, x⟩) := by
  obtain ⟨h1, h2⟩ := h
  refine ⟨?_, fun q hq => ?_⟩
  · have q := (World.ownsRow.stored (n := n) (by rw [hn] at h1; exact h1) (k * 3 + 2) (.int .i64 x)).1
    rw [flat_setN ys k hk x] at q
    rw [List.length_set, hn]
    exact q
  · rcases List.mem_or_eq_of_mem_set hq with hq | rfl
    · exact h2 q hq
    · have := h2 _ (getD_mem' ys k ch0 hk)
      exact ⟨this.1, this.2.1, hx⟩
/-- A log with a further change, whether refused or not. -/
def ntR (r l : Int) (xs : List Ch) (b n : Int) : Int := if ntE r l xs b n = 0 then r else 0
def ntM (r l : Int) (xs : List Ch) (b n : Int) : Int := if ntE r l xs b n = 0 then l + 1 else 0
def ntZ (r l : Int) (xs : List Ch) (b n : Int) : List Ch := if ntE r l xs b n = 0 then ntL r l xs b n else []
theorem note_all (r l : Int) (A : Option Addr) (c : Nat) (xs : List Ch) (b n : Int) (w : World) (hv : KC.IsL w w.heap.size (.slice A xs.length c) xs) : Calls Try.prog 10 #[lgV r l A xs.length c, .int .i64 b, .int .i64 n] w fun e w' =>
    ∃ A' c', e = .returned (.tuple #[lgV (ntR r l xs b n) (ntM r l xs b n) A' (ntZ r l xs b n).length c', .int .i64 (ntE r l xs b n)]) ∧ KC.Own w' w.heap.size (.slice A' (ntZ r l xs b n).length c') (ntZ r l xs b n) ∧ Below w.heap.size w w' := by
  unfold ntR ntM ntZ
  by_cases h : ntE r l xs b n = 0
  · rw [if_pos h, if_pos h, if_pos h, h]
    exact note_ok r l A c xs b n h w hv
  · rw [if_neg h, if_neg h, if_neg h]
    refine (note_bad r l A c xs b n h w hv).mono ?_
    rintro e w' ⟨rfl, hb⟩
    exact ⟨none, 0, rfl, Lk.Own.nil _ _, hb⟩
theorem rnote_all (r l : Int) (A : Option Addr) (c : Nat) (xs : List Ch) (b n : Int) (w : World) (hv : KC.IsL w w.heap.size (.slice A xs.length c) xs) : Calls Try.prog 11 #[lgV r l A xs.length c, .int .i64 b, .int .i64 n] w fun e w' =>
    ∃ A' c', e = .returned (.tuple #[lgV (ntR r l xs b n) (ntM r l xs b n) A' (ntZ r l xs b n).length c', .int .i64 (ntE r l xs b n)]) ∧ KC.IsL w' w'.heap.size (.slice A' (ntZ r l xs b n).length c') (ntZ r l xs b n) ∧ Below w.heap.size w w' := by
  unfold ntR ntM ntZ
  by_cases h : ntE r l xs b n = 0
  · rw [if_pos h, if_pos h, if_pos h, h]
    exact rnote_ok r l A c xs b n h w hv
  · rw [if_neg h, if_neg h, if_neg h]
    refine (rnote_bad r l A c xs b n h w hv).mono ?_
    rintro e w' ⟨rfl, hb⟩
    exact ⟨none, 0, rfl, Lk.IsL.nil _ _ _ _, hb⟩
theorem getD_snoc (ys : List Ch) (x : Ch) : (ys ++ [x]).getD ys.length ch0 = x := by
  simp [List.getD_eq_getElem?_getD]
/-- A log with a further change is right. -/
theorem nt_right {r l : Int} {xs : List Ch} {b n : Int} (h : ntE r l xs b n = 0) : rgB r (l + 1) (ntL r l xs b n) = true := by
  obtain ⟨h1, h2, h3⟩ := nt_ok h
  obtain ⟨⟨g0, g1, g2, g3, g4, g5⟩, hr⟩ := rg_parts h1
  obtain ⟨m, hm⟩ : ∃ m, m = min xs.length (r - 1).toNat := ⟨_, rfl⟩
  have hlen : (ntL r l xs b n).length = m + 1 := by
    unfold ntL
    rw [List.length_append, List.length_drop, ← hm]
    simp only [List.length_cons, List.length_nil]
    omega
  rw [rg_yes (show rgC r (l + 1) (ntL r l xs b n).length by rw [hlen]; unfold rgC; omega)]
  refine rl_true fun k hk => ?_
  rw [hlen] at hk
  unfold okC
  rw [hlen]
  rw [Bool.and_eq_true, decide_eq_true_eq]
  by_cases hkm : k = m
  · have e : (ntL r l xs b n).getD k ch0 = ⟨l + 1, b, n⟩ := by
      unfold ntL
      have q := getD_snoc (xs.drop (xs.length - min xs.length (r - 1).toNat)) ⟨l + 1, b, n⟩
      rw [List.length_drop] at q
      rw [show k = xs.length - (xs.length - min xs.length (r - 1).toNat) by omega]
      exact q
    rw [e]
    refine ⟨?_, h2⟩
    show l + 1 = _
    omega
  · have e : (ntL r l xs b n).getD k ch0 = xs.getD (xs.length - m + k) ch0 := by
      unfold ntL
      rw [← hm, List.getD_eq_getElem?_getD, List.getElem?_append_left (by rw [List.length_drop]; omega), List.getElem?_drop, ← List.getD_eq_getElem?_getD]
    have q := rl_at hr (xs.length - m + k) (by omega)
    unfold okC at q
    rw [Bool.and_eq_true, decide_eq_true_eq] at q
    rw [e]
    refine ⟨?_, q.2⟩
    rw [q.1]
    omega
theorem nt_right' {r l : Int} {xs : List Ch} {b n : Int} (h : ntE r l xs b n = 0) : rgB (ntR r l xs b n) (ntM r l xs b n) (ntZ r l xs b n) = true := by
  unfold ntR ntM ntZ
  rw [if_pos h, if_pos h, if_pos h]
  exact nt_right h
end Go.Proofs.Ytdghekhkjkkgfaa

/- Histories: places of calls, and the test of an order that goes with them. -/
import Derived.Test.YtbfklpopodmalaaHF
namespace Go.Proofs.Ytbfklpopodmalaa
open Go.RowKit
/-- The place of a call's first event of a kind, from 1 on; 0 where there is none. -/
def pl (h : List Ev) (q : Int) (c : Int × Int) : Nat := if fiE h q c < h.length then fiE h q c + 1 else 0
theorem pl_fsI (h : List Ev) (q : Int) (c : Int × Int) : (pl h q c : Int) = fsI h q c + 1 := by
  unfold pl fsI
  by_cases e : fiE h q c < h.length
  · rw [if_pos e, if_pos e]; omega
  · rw [if_neg e, if_neg e]; rfl
theorem pl_pos {h : List Ev} {q : Int} {c : Int × Int} : pl h q c ≠ 0 ↔ fiE h q c < h.length := by
  unfold pl
  by_cases e : fiE h q c < h.length
  · rw [if_pos e]; simp [e]
  · rw [if_neg e]; simp [e]
theorem pl_le (h : List Ev) (q : Int) (c : Int × Int) : pl h q c ≤ h.length := by
  unfold pl
  by_cases e : fiE h q c < h.length
  · rw [if_pos e]; omega
  · rw [if_neg e]; omega
theorem pl_nil (q : Int) (c : Int × Int) : pl [] q c = 0 := rfl
theorem pl_snoc (h : List Ev) (d : Ev) (q : Int) (c : Int × Int) : pl (h ++ [d]) q c = if pl h q c = 0 ∧ d.k = q ∧ d.c = c then h.length + 1 else pl h q c := by
  unfold pl fiE
  rw [List.findIdx_append, List.length_append, List.length_singleton]
  have hle : h.findIdx (isE q c) ≤ h.length := List.findIdx_le_length
  by_cases e : h.findIdx (isE q c) < h.length
  · rw [if_pos e, if_pos e, if_pos (by omega), if_neg (by omega)]
  · rw [if_neg e, if_neg e]
    by_cases k : d.k = q ∧ d.c = c
    · rw [show List.findIdx (isE q c) [d] = 0 from by simp [List.findIdx_cons, isE, k], if_pos (by omega), if_pos ⟨rfl, k⟩]
      omega
    · rw [show List.findIdx (isE q c) [d] = 1 from by
        have : isE q c d = false := decide_eq_false k
        simp [List.findIdx_cons, this], if_neg (by omega), if_neg (fun a => k a.2)]
theorem befE_pl (h : List Ev) (a b : Int × Int) : befE h a b ↔ pl h 3 a ≠ 0 ∧ pl h 3 a < pl h 1 b := by
  unfold befE pl
  by_cases e : fiE h 3 a < h.length <;> by_cases e2 : fiE h 1 b < h.length
  · rw [if_pos e, if_pos e2]
    exact ⟨fun k => ⟨by omega, by omega⟩, fun k => ⟨e, e2, by omega⟩⟩
  · rw [if_pos e, if_neg e2]
    exact ⟨fun k => absurd k.2.1 e2, fun k => absurd k.2 (by omega)⟩
  · rw [if_neg e]
    exact ⟨fun k => absurd k.1 e, fun k => absurd rfl k.1⟩
  · rw [if_neg e]
    exact ⟨fun k => absurd k.1 e, fun k => absurd rfl k.1⟩
/-- The greatest place of a call among some. -/
def lstC (h : List Ev) (o : List (Int × Int)) : Nat := o.foldl (fun m c => if m < pl h 1 c then pl h 1 c else m) 0
theorem lstC_snoc (h : List Ev) (o : List (Int × Int)) (c : Int × Int) : lstC h (o ++ [c]) = if lstC h o < pl h 1 c then pl h 1 c else lstC h o := by
  unfold lstC
  rw [List.foldl_append]
  rfl
/-- May this call stand here? -/
def okF (h : List Ev) (o : List (Int × Int)) (k : Nat) : Bool :=
  !decide (o.getD k (0, 0) ∈ o.take k) && decide (pl h 1 (o.getD k (0, 0)) ≠ 0) && !(decide (pl h 3 (o.getD k (0, 0)) ≠ 0) && decide (pl h 3 (o.getD k (0, 0)) < lstC h (o.take k)))
def fitB (h : List Ev) (o : List (Int × Int)) : Bool := decide (∀ k, k < o.length → okF h o k = true) && !(allE h 3).any fun c => !decide (c ∈ o)
theorem fitB_no {h : List Ev} {o : List (Int × Int)} {k : Nat} (hk : k < o.length) (e : okF h o k = false) : fitB h o = false := by
  unfold fitB
  rw [decide_eq_false (fun H => by rw [H k hk] at e; cases e), Bool.false_and]
theorem fitB_yes {h : List Ev} {o : List (Int × Int)} (e : ∀ k, k < o.length → okF h o k = true) : fitB h o = !(allE h 3).any fun c => !decide (c ∈ o) := by
  unfold fitB
  rw [decide_eq_true e, Bool.true_and]
theorem lstC_lt (h : List Ev) (n : Nat) : ∀ o : List (Int × Int), n < lstC h o → ∃ i, i < o.length ∧ n < pl h 1 (o.getD i (0, 0)) := by
  intro o
  suffices H : ∀ m, ∀ o : List (Int × Int), o.length = m → n < lstC h o → ∃ i, i < o.length ∧ n < pl h 1 (o.getD i (0, 0)) from H _ o rfl
  intro m
  induction m with
  | zero => intro o ho hn; rw [List.eq_nil_of_length_eq_zero ho] at hn; exact absurd hn (Nat.not_lt_zero _)
  | succ m ih =>
    intro o ho hn
    have hne : o ≠ [] := fun e => by rw [e] at ho; cases ho
    obtain ⟨o', c, rfl⟩ : ∃ o' c, o = o' ++ [c] := ⟨o.dropLast, o.getLast hne, (List.dropLast_concat_getLast hne).symm⟩
    clear hne
    rw [List.length_append, List.length_singleton] at ho
    generalize o' = o at *
    have ih := ih o (by omega)
    clear ho
    rw [lstC_snoc] at hn
    by_cases e : lstC h o < pl h 1 c
    · rw [if_pos e] at hn
      exact ⟨o.length, by simp, by simpa [List.getD_eq_getElem?_getD] using hn⟩
    · rw [if_neg e] at hn
      obtain ⟨i, hi, hp⟩ := ih hn
      refine ⟨i, by simp; omega, ?_⟩
      rw [List.getD_eq_getElem?_getD, List.getElem?_append_left hi, ← List.getD_eq_getElem?_getD]
      exact hp
/-- What fits by the document's words, the test takes. -/
theorem fitB_of {h : List Ev} {o : List (Int × Int)} (H : FitsE h o) : fitB h o = true := by
  obtain ⟨h1, h2⟩ := H
  rw [fitB_yes]
  · rw [Bool.not_eq_true', List.any_eq_false]
    intro c hc
    rw [decide_eq_true (h2 c hc)]
    exact Bool.false_ne_true
  · intro k hk
    obtain ⟨a, b, c⟩ := h1 k hk
    unfold okF
    rw [decide_eq_false a, decide_eq_true (pl_pos.2 b), Bool.not_false, Bool.true_and, Bool.true_and, Bool.not_eq_true', Bool.and_eq_false_iff, decide_eq_false_iff_not, decide_eq_false_iff_not]
    by_cases e : pl h 3 (o.getD k (0, 0)) ≠ 0
    · refine .inr fun hl => ?_
      obtain ⟨i, hi, hp⟩ := lstC_lt h _ _ hl
      rw [List.length_take] at hi
      have ht : (o.take k).getD i (0, 0) = o.getD i (0, 0) := by rw [List.getD_eq_getElem?_getD, List.getElem?_take, if_pos (by omega), ← List.getD_eq_getElem?_getD]
      rw [ht] at hp
      exact c i (by omega) ((befE_pl _ _ _).2 ⟨e, hp⟩)
    · exact .inl e
theorem done_fitB {h : List Ev} (hr : RgE h) : fitB h (allE h 2) = true := fitB_of (done_fits hr)
/-- The calls of the events that count. -/
def selE (p : Ev → Bool) (h : List Ev) : List (Int × Int) := (h.filter p).map Ev.c
theorem selE_all (h : List Ev) (q : Int) : selE (fun e => decide (e.k = q)) h = allE h q := rfl
theorem selE_snoc (p : Ev → Bool) (h : List Ev) (k : Nat) (hk : k < h.length) : selE p (h.take (k + 1)) = selE p (h.take k) ++ (if p (h.getD k ev0) = true then [(h.getD k ev0).c] else []) := by
  rw [take_snoc h k ev0 hk]
  unfold selE
  rw [List.filter_append, List.map_append]
  generalize h.getD k ev0 = d
  cases e : p d <;> simp [e]
theorem selE_len (p : Ev → Bool) (h : List Ev) (k : Nat) : (selE p (h.take k)).length ≤ h.length := by
  unfold selE
  rw [List.length_map]
  exact Nat.le_trans (List.length_filter_le _ _) (by rw [List.length_take]; omega)
end Go.Proofs.Ytbfklpopodmalaa

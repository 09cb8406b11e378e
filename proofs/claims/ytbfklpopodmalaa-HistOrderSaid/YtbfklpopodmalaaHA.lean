/- Histories: what a right one is, what is ahead of what, and that the order in which requests were done fits. -/
import Derived.Test.YtbfklpopodmalaaLK
namespace Go.Proofs.Ytbfklpopodmalaa
open Go.RowKit
/-- An event: its kind, its arm, its request's number, its step. -/
structure Ev where
  k : Int
  w : Int
  n : Int
  a : Int
deriving DecidableEq
def Ev.c (e : Ev) : Int × Int := (e.w, e.n)
/-- How many events of an arm. -/
def cntE (h : List Ev) (w : Int) : Nat := (h.filter fun e => decide (e.w = w)).length
def okE (h : List Ev) (i : Nat) : Prop := ∃ e, h[i]? = some e ∧ 1 ≤ e.a ∧ (∀ d, 0 < i → h[i - 1]? = some d → d.a < e.a) ∧ 1 ≤ e.w ∧ e.w ≤ 8 ∧ e.k = ((cntE (h.take i) e.w % 3 : Nat) : Int) + 1 ∧ e.n = ((cntE (h.take i) e.w / 3 : Nat) : Int) + 1
def RgE (h : List Ev) : Prop := ∀ i, i < h.length → okE h i
/-- An event of a kind, of a call. -/
def isE (k : Int) (c : Int × Int) (e : Ev) : Bool := decide (e.k = k ∧ e.c = c)
/-- The place of a call's first event of a kind; where there is none, the length. -/
def fiE (h : List Ev) (k : Int) (c : Int × Int) : Nat := h.findIdx (isE k c)
def allE (h : List Ev) (k : Int) : List (Int × Int) := (h.filter fun e => decide (e.k = k)).map Ev.c
def befE (h : List Ev) (a b : Int × Int) : Prop := fiE h 3 a < h.length ∧ fiE h 1 b < h.length ∧ fiE h 3 a < fiE h 1 b
def FitsE (h : List Ev) (o : List (Int × Int)) : Prop :=
  (∀ i, i < o.length → o.getD i (0, 0) ∉ o.take i ∧ fiE h 1 (o.getD i (0, 0)) < h.length ∧ ∀ k, k < i → ¬ befE h (o.getD i (0, 0)) (o.getD k (0, 0))) ∧ ∀ c ∈ allE h 3, c ∈ o
theorem cntE_take (h : List Ev) (i : Nat) (e : Ev) (he : h[i]? = some e) (w : Int) : cntE (h.take (i + 1)) w = cntE (h.take i) w + (if e.w = w then 1 else 0) := by
  have : h.take (i + 1) = h.take i ++ [e] := by rw [List.take_add_one, he]; rfl
  rw [this]
  unfold cntE
  rw [List.filter_append, List.length_append]
  by_cases hw : e.w = w
  · simp [hw]
  · simp [hw]
theorem cntE_mono (h : List Ev) (w : Int) (i j : Nat) (hij : i ≤ j) : cntE (h.take i) w ≤ cntE (h.take j) w := by
  unfold cntE
  have : h.take i = (h.take j).take i := by rw [List.take_take, Nat.min_eq_left hij]
  rw [this]
  exact ((List.take_sublist i (h.take j)).filter _).length_le
theorem cntE_nth (h : List Ev) (w : Int) (m : Nat) : ∀ j, j ≤ h.length → m < cntE (h.take j) w → ∃ i e, i < j ∧ h[i]? = some e ∧ e.w = w ∧ cntE (h.take i) w = m := by
  intro j
  induction j with
  | zero => intro _ hm; simp [cntE] at hm
  | succ j ih =>
    intro hj hm
    have he : h[j]? = some (h[j]'(by omega)) := List.getElem?_eq_getElem (by omega)
    generalize (h[j]'(by omega)) = e at he
    have hs := cntE_take h j e he w
    by_cases hlt : m < cntE (h.take j) w
    · obtain ⟨i, e', h1, h2, h3, h4⟩ := ih (by omega) hlt
      exact ⟨i, e', by omega, h2, h3, h4⟩
    · by_cases hw : e.w = w
      · rw [if_pos hw] at hs
        exact ⟨j, e, by omega, he, hw, by omega⟩
      · rw [if_neg hw] at hs
        omega
/-- No event stands twice in a right history. -/
theorem rgE_once {h : List Ev} (hr : RgE h) {i j : Nat} {d e : Ev} (hd : h[i]? = some d) (he : h[j]? = some e) (hk : d.k = e.k) (hc : d.c = e.c) : i = j := by
  have key : ∀ {i j : Nat} {d e : Ev}, h[i]? = some d → h[j]? = some e → d.k = e.k → d.c = e.c → ¬ i < j := by
    intro i j d e hd he hk hc hij
    have hi : i < h.length := (List.getElem?_eq_some_iff.1 hd).1
    have hj : j < h.length := (List.getElem?_eq_some_iff.1 he).1
    obtain ⟨d', hd', -, -, -, -, k1, n1⟩ := hr i hi
    obtain ⟨e', he', -, -, -, -, k2, n2⟩ := hr j hj
    obtain rfl : d = d' := by rw [hd] at hd'; exact Option.some.inj hd'
    obtain rfl : e = e' := by rw [he] at he'; exact Option.some.inj he'
    have hw : d.w = e.w := congrArg Prod.fst hc
    have hn : d.n = e.n := congrArg Prod.snd hc
    have h1 := cntE_take h i d hd d.w
    rw [if_pos rfl] at h1
    have h2 := cntE_mono h d.w (i + 1) j hij
    rw [hw] at h1 h2 k1 n1
    omega
  rcases Nat.lt_trichotomy i j with h1 | h1 | h1
  · exact absurd h1 (key hd he hk hc)
  · exact h1
  · exact absurd h1 (key he hd hk.symm hc.symm)
/-- What is done was called ahead; what is told was done ahead. -/
theorem rgE_pred {h : List Ev} (hr : RgE h) {j : Nat} {e : Ev} (he : h[j]? = some e) (hk : 1 < e.k) : ∃ i d, i < j ∧ h[i]? = some d ∧ d.k = e.k - 1 ∧ d.c = e.c := by
  have hj : j < h.length := (List.getElem?_eq_some_iff.1 he).1
  obtain ⟨e', he', -, -, -, -, k2, n2⟩ := hr j hj
  obtain rfl : e = e' := by rw [he] at he'; exact Option.some.inj he'
  obtain ⟨i, d, hij, hd, hw, hm⟩ := cntE_nth h e.w (cntE (h.take j) e.w - 1) j (by omega) (by omega)
  have hi : i < h.length := by omega
  obtain ⟨d', hd', -, -, -, -, k1, n1⟩ := hr i hi
  obtain rfl : d = d' := by rw [hd] at hd'; exact Option.some.inj hd'
  rw [hw, hm] at k1 n1
  refine ⟨i, d, hij, hd, by omega, Prod.ext hw ?_⟩
  show d.n = e.n
  omega
theorem fiE_at {h : List Ev} {k : Int} {c : Int × Int} (hl : fiE h k c < h.length) : ∃ e, h[fiE h k c]? = some e ∧ e.k = k ∧ e.c = c := by
  unfold fiE at *
  refine ⟨h[h.findIdx (isE k c)], List.getElem?_eq_getElem hl, ?_⟩
  have := List.findIdx_getElem (w := hl)
  unfold isE at this
  exact of_decide_eq_true this
theorem fiE_le {h : List Ev} {k : Int} {c : Int × Int} {i : Nat} {e : Ev} (he : h[i]? = some e) (hk : e.k = k) (hc : e.c = c) : fiE h k c ≤ i := by
  unfold fiE
  refine Nat.le_of_not_lt fun hlt => ?_
  have hi : i < h.length := (List.getElem?_eq_some_iff.1 he).1
  have := List.not_of_lt_findIdx hlt
  rw [show h[i] = e from by rw [List.getElem?_eq_getElem hi] at he; exact Option.some.inj he] at this
  simp [isE, hk, hc] at this
theorem fiE_eq {h : List Ev} (hr : RgE h) {k : Int} {c : Int × Int} {i : Nat} {e : Ev} (he : h[i]? = some e) (hk : e.k = k) (hc : e.c = c) : fiE h k c = i := by
  have hi : i < h.length := (List.getElem?_eq_some_iff.1 he).1
  have hle := fiE_le he hk hc
  obtain ⟨d, hd, h1, h2⟩ := fiE_at (show fiE h k c < h.length by omega)
  exact rgE_once hr hd he (by rw [h1, hk]) (by rw [h2, hc])
/-- A call's event of a kind stands behind its event of the kind ahead. -/
theorem fiE_pred {h : List Ev} (hr : RgE h) {k : Int} (hk : 1 < k) {c : Int × Int} (hl : fiE h k c < h.length) : fiE h (k - 1) c < fiE h k c := by
  obtain ⟨e, he, h1, h2⟩ := fiE_at hl
  obtain ⟨i, d, hij, hd, h3, h4⟩ := rgE_pred hr he (by omega)
  have := fiE_le hd (show d.k = k - 1 by omega) (show d.c = c by rw [h4, h2])
  omega
theorem called_done {h : List Ev} (hr : RgE h) {c : Int × Int} (hl : fiE h 2 c < h.length) : fiE h 1 c < fiE h 2 c := fiE_pred (k := 2) hr (by decide) hl
theorem done_told {h : List Ev} (hr : RgE h) {c : Int × Int} (hl : fiE h 3 c < h.length) : fiE h 2 c < fiE h 3 c := fiE_pred (k := 3) hr (by decide) hl
theorem bef_irr {h : List Ev} (hr : RgE h) (a : Int × Int) : ¬ befE h a a := by
  rintro ⟨h1, h2, h3⟩
  have := done_told hr h1
  have := called_done (c := a) hr (by omega)
  omega
theorem bef_trans {h : List Ev} (hr : RgE h) {a b c : Int × Int} (hab : befE h a b) (hbc : befE h b c) : befE h a c := by
  obtain ⟨h1, h2, h3⟩ := hab
  obtain ⟨h4, h5, h6⟩ := hbc
  have := done_told hr h4
  have := called_done (c := b) hr (by omega)
  exact ⟨h1, h5, by omega⟩
theorem bef_asym {h : List Ev} (hr : RgE h) {a b : Int × Int} (hab : befE h a b) : ¬ befE h b a := fun hba => bef_irr hr a (bef_trans hr hab hba)
theorem mem_allE {h : List Ev} {k : Int} {c : Int × Int} : c ∈ allE h k ↔ fiE h k c < h.length := by
  unfold allE
  rw [List.mem_map]
  constructor
  · rintro ⟨e, he, rfl⟩
    obtain ⟨hm, hk⟩ := List.mem_filter.1 he
    obtain ⟨i, hi⟩ := List.getElem?_of_mem hm
    have := fiE_le hi (of_decide_eq_true hk) rfl
    have := (List.getElem?_eq_some_iff.1 hi).1
    omega
  · intro hl
    obtain ⟨e, he, h1, h2⟩ := fiE_at hl
    exact ⟨e, List.mem_filter.2 ⟨List.mem_of_getElem? he, decide_eq_true h1⟩, h2⟩
/-- The calls of a kind stand in the order of their events. -/
theorem allE_order {h : List Ev} (hr : RgE h) (k : Int) : (allE h k).Pairwise fun a b => fiE h k a < fiE h k b := by
  unfold allE
  rw [List.pairwise_map, List.pairwise_filter, List.pairwise_iff_getElem]
  intro i j hi hj hij h1 h2
  rw [fiE_eq hr (List.getElem?_eq_getElem hi) (of_decide_eq_true h1) rfl, fiE_eq hr (List.getElem?_eq_getElem hj) (of_decide_eq_true h2) rfl]
  exact hij
/-- The order in which the requests of a right history were done fits. -/
theorem done_fits {h : List Ev} (hr : RgE h) : FitsE h (allE h 2) := by
  have ho := allE_order hr 2
  rw [List.pairwise_iff_getElem] at ho
  constructor
  · intro i hi
    have hin : ∀ k (hk : k < (allE h 2).length), (allE h 2).getD k (0, 0) = (allE h 2)[k] := fun k hk => by simp [List.getD_eq_getElem?_getD, hk]
    have hmem : fiE h 2 ((allE h 2)[i]) < h.length := mem_allE.1 (List.getElem_mem hi)
    rw [hin i hi]
    refine ⟨fun hm => ?_, ?_, fun k hk => ?_⟩
    · obtain ⟨j, hj, he⟩ := List.getElem_of_mem hm
      rw [List.length_take] at hj
      rw [List.getElem_take] at he
      have := ho j i (by omega) hi (by omega)
      rw [he] at this
      omega
    · have := called_done hr hmem
      omega
    · rw [hin k (by omega)]
      rintro ⟨h1, h2, h3⟩
      have := ho k i (by omega) hi hk
      have := done_told hr h1
      have := called_done (c := (allE h 2)[k]) hr (mem_allE.1 (List.getElem_mem _))
      omega
  · intro c hc
    rw [mem_allE] at hc ⊢
    have := done_told hr hc
    omega
end Go.Proofs.Ytbfklpopodmalaa

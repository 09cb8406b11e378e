/- Mutexes: who gets on, who is stuck; where waits are ordered all get on. -/
import Derived.Test.YtbflkdkbfidleaaUB
namespace Go.Proofs.Ytbflkdkbfidleaa
open Go.RowKit
/-- Gets on who waits for nobody, or for one who gets on. -/
inductive On (f : Nat → Nat) : Nat → Prop
  | zero : On f 0
  | step (a : Nat) : On f (f a) → On f a
theorem On.closed {f : Nat → Nat} {S : Nat → Prop} (h0 : ¬ S 0) (h : ∀ a, S a → S (f a)) {a : Nat} (ha : On f a) : ¬ S a := by
  induction ha with
  | zero => exact h0
  | step a _ ih => exact fun k => ih (h a k)
/-- Who holds the mutex of an id; nobody, if it is none. -/
def hdV (t : List Int) (id : Int) : Int := if hasB t.length id then t.getD id.toNat 0 else 0
/-- For whom an arm waits. -/
def nx (t ws : List Int) (a : Nat) : Nat := if 1 ≤ a ∧ a ≤ ws.length then (hdV t (ws.getD (a - 1) 0)).toNat else 0
theorem rg_at {t : List Int} (h : rgO t = true) (k : Nat) : 0 ≤ t.getD k 0 ∧ t.getD k 0 ≤ 8 := by
  by_cases hk : k < t.length
  · have hm := getD_mem' t k 0 hk
    unfold rgO at h
    rw [Bool.not_eq_true', List.any_eq_false] at h
    have := h _ hm
    rw [Bool.not_eq_true] at this
    exact (whoB_iff _).1 this
  · rw [List.getD_eq_getElem?_getD, List.getElem?_eq_none (by omega), Option.getD_none]
    omega
theorem hd_rg {t : List Int} (h : rgO t = true) (id : Int) : 0 ≤ hdV t id ∧ hdV t id ≤ 8 := by
  unfold hdV
  split
  · exact rg_at h _
  · omega
theorem nx_le {t : List Int} (h : rgO t = true) (ws : List Int) (a : Nat) : nx t ws a ≤ 8 := by
  have := hd_rg h (ws.getD (a - 1) 0)
  unfold nx
  split <;> omega
open Classical in
/-- Is an arm stuck? -/
noncomputable def stB (t ws : List Int) (a : Nat) : Bool := decide (¬ On (nx t ws) a)
open Classical in
theorem stB_true {t ws : List Int} {a : Nat} (h : ¬ On (nx t ws) a) : stB t ws a = true := by unfold stB; exact decide_eq_true h
open Classical in
theorem stB_false {t ws : List Int} {a : Nat} (h : On (nx t ws) a) : stB t ws a = false := by unfold stB; exact decide_eq_false fun k => k h
noncomputable def stK (t ws : List Int) (k : Nat) : List Int := ((List.range k).filter (stB t ws)).map Int.ofNat
theorem stK_snoc (t ws : List Int) (k : Nat) : stK t ws (k + 1) = stK t ws k ++ (if stB t ws k = true then [((k : Nat) : Int)] else []) := by
  unfold stK
  rw [List.range_succ, List.filter_append, List.map_append]
  by_cases h : stB t ws k = true
  · rw [if_pos h, List.filter_cons_of_pos h]
    rfl
  · rw [if_neg h, List.filter_cons_of_neg h]
    rfl
theorem stK_len (t ws : List Int) (k : Nat) : (stK t ws k).length ≤ k := by
  unfold stK
  rw [List.length_map]
  exact Nat.le_trans (List.length_filter_le _ _) (by simp)
theorem stK_one (t ws : List Int) : stK t ws 1 = [] := by
  rw [stK_snoc, stB_false On.zero]
  rfl
/-- Who is stuck. -/
noncomputable def stL (t ws : List Int) : List Int := if rgO t && decide (ws.length ≤ 8) then stK t ws 9 else []
/-- Does an arm wait in order? -/
def ordB (t ws : List Int) (i : Nat) : Bool := hasB t.length (ws.getD i 0) && (t.drop (ws.getD i 0).toNat).any (fun x => decide (x = (i : Int) + 1))
def ordV (t ws : List Int) : Bool := (rgO t && decide (ws.length ≤ 8)) && !(List.range ws.length).any (ordB t ws)
theorem any_range {p : Nat → Bool} {n : Nat} (h : ∀ j, j < n → p j = false) : (List.range n).any p = false := by
  rw [List.any_eq_false]
  intro x hx
  rw [h x (List.mem_range.1 hx)]
  exact Bool.false_ne_true
theorem any_range_hit {p : Nat → Bool} {n : Nat} (k : Nat) (hk : k < n) (h : p k = true) : (List.range n).any p = true := List.any_eq_true.2 ⟨k, List.mem_range.2 hk, h⟩
/-- Where waits are ordered, all get on. -/
theorem ord_on {t ws : List Int} (h : ordV t ws = true) : ∀ a, On (nx t ws) a := by
  unfold ordV at h
  rw [Bool.and_eq_true, Bool.and_eq_true, decide_eq_true_eq, Bool.not_eq_true', List.any_eq_false] at h
  obtain ⟨⟨hr, hl⟩, ho⟩ := h
  have off : ∀ a, ¬ ((1 ≤ a ∧ a ≤ ws.length) ∧ hasB t.length (ws.getD (a - 1) 0) = true) → On (nx t ws) a := fun a h => by
    refine .step a ?_
    rw [show nx t ws a = 0 by
      unfold nx hdV
      split
      · rename_i h1
        rw [if_neg fun h2 => h ⟨h1, h2⟩]
        rfl
      · rfl]
    exact .zero
  have key : ∀ n : Nat, ∀ a : Nat, ((1 ≤ a ∧ a ≤ ws.length) ∧ hasB t.length (ws.getD (a - 1) 0) = true → t.length - (ws.getD (a - 1) 0).toNat ≤ n) → On (nx t ws) a := by
    intro n
    induction n with
    | zero =>
      intro a ha
      by_cases hv : (1 ≤ a ∧ a ≤ ws.length) ∧ hasB t.length (ws.getD (a - 1) 0) = true
      · have := ha hv
        have := (hasB_iff _ _).1 hv.2
        omega
      · exact off a hv
    | succ n ih =>
      intro a ha
      by_cases hv : (1 ≤ a ∧ a ≤ ws.length) ∧ hasB t.length (ws.getD (a - 1) 0) = true
      · have hm := ha hv
        obtain ⟨h1, hb⟩ := hv
        obtain ⟨b1, b2⟩ := (hasB_iff _ _).1 hb
        have hnx : nx t ws a = (t.getD (ws.getD (a - 1) 0).toNat 0).toNat := by
          unfold nx hdV
          rw [if_pos h1, if_pos hb]
        obtain ⟨g1, g2⟩ := rg_at hr (ws.getD (a - 1) 0).toNat
        refine .step a (ih _ fun hv2 => ?_)
        obtain ⟨h2, hb2⟩ := hv2
        obtain ⟨c1, c2⟩ := (hasB_iff _ _).1 hb2
        have hob := ho (nx t ws a - 1) (List.mem_range.2 (by omega))
        unfold ordB at hob
        rw [Bool.and_eq_true] at hob
        have hid : t.getD (ws.getD (a - 1) 0).toNat 0 = ((nx t ws a : Nat) : Int) := by rw [hnx]; omega
        generalize nx t ws a = b at *
        generalize ws.getD (a - 1) 0 = ia at *
        generalize ws.getD (b - 1) 0 = ib at *
        by_cases hlt : ia.toNat < ib.toNat
        · omega
        · exfalso
          refine hob ⟨hb2, List.any_eq_true.2 ⟨(b : Int), ?_, decide_eq_true (by omega)⟩⟩
          have e : (t.drop ib.toNat)[ia.toNat - ib.toNat]? = some (b : Int) := by
            rw [List.getElem?_drop, show ib.toNat + (ia.toNat - ib.toNat) = ia.toNat by omega, ← hid, List.getD_eq_getElem?_getD, List.getElem?_eq_getElem (by omega), Option.getD_some]
          exact List.mem_of_getElem? e
      · exact off a hv
  exact fun a => key _ a fun _ => Nat.le_refl _
theorem stL_ord {t ws : List Int} (h : ordV t ws = true) : stL t ws = [] := by
  have ho := ord_on h
  have e : ∀ k, stK t ws k = [] := fun k => by
    induction k with
    | zero => rfl
    | succ k ih => rw [stK_snoc, ih, stB_false (ho k)]; rfl
  unfold stL
  rw [e, ite_self]
end Go.Proofs.Ytbflkdkbfidleaa

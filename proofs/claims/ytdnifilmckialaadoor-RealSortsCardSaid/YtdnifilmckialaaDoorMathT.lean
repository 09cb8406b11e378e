/- Plain mathematics: one merge, as it goes on float by float. -/
import Derived.Test.YtdnifilmckialaaDoorMathS
namespace Go.Proofs.YtdnifilmckialaaDoor

/-- Where the merging of pair j stands: p floats of its first run and q of its second one are taken. -/
structure InnerRel (W j l p q : Nat) (xs zs dd : List Nat) : Prop where
  done : zs.take (l + p + q) = dn W j xs ++ dd
  size : dd.length = p + q
  rest : dd ++ mg ((runA W j xs).drop p) ((runB W j xs).drop q) = mg (runA W j xs) (runB W j xs)
theorem InnerRel.start {W j l : Nat} {xs ys : List Nat} (h : ys.take l = dn W j xs) : InnerRel W j l 0 0 xs ys [] := ⟨by simpa using h, rfl, by simp⟩

theorem runA_length (W j l : Nat) (xs : List Nat) (hl : l = 2 * W * j) : (runA W j xs).length = min W (xs.length - l) := by
  subst hl
  unfold runA
  rw [List.length_take, List.length_drop]
theorem runB_length (W j l : Nat) (xs : List Nat) (hl : l = 2 * W * j) : (runB W j xs).length = min W (xs.length - (l + W)) := by
  subst hl
  unfold runB
  rw [List.length_take, List.length_drop]
theorem getD_getElem (l : List Nat) (i : Nat) (h : i < l.length) : l.getD i 0 = l[i] := by simp [List.getD, h]
theorem drop_cons' (l : List Nat) (k : Nat) (h : k < l.length) : l.drop k = l.getD k 0 :: l.drop (k + 1) := by
  rw [List.drop_eq_getElem_cons h, getD_getElem l k h]
theorem runA_getD (W j l p : Nat) (xs : List Nat) (hl : l = 2 * W * j) (hp : p < min W (xs.length - l)) : (runA W j xs).getD p 0 = xs.getD (l + p) 0 := by
  subst hl
  have h1 : p < (runA W j xs).length := by rw [runA_length W j _ xs rfl]; exact hp
  have h2 : 2 * W * j + p < xs.length := by omega
  rw [getD_getElem _ _ h1, getD_getElem _ _ h2]
  simp [runA]
theorem runB_getD (W j l q : Nat) (xs : List Nat) (hl : l = 2 * W * j) (hq : q < min W (xs.length - (l + W))) : (runB W j xs).getD q 0 = xs.getD (l + W + q) 0 := by
  subst hl
  have h1 : q < (runB W j xs).length := by rw [runB_length W j _ xs rfl]; exact hq
  have h2 : 2 * W * j + W + q < xs.length := by omega
  rw [getD_getElem _ _ h1, getD_getElem _ _ h2]
  simp [runB]
theorem take_set (zs : List Nat) (t v : Nat) (ht : t < zs.length) : (zs.set t v).take (t + 1) = zs.take t ++ [v] := by
  rw [List.take_succ_eq_append_getElem (by simpa using ht), List.take_set_of_le (Nat.le_refl _)]
  simp
theorem InnerRel.takeB {W j l p q : Nat} {xs zs dd : List Nat} (h : InnerRel W j l p q xs zs dd) (hl : l = 2 * W * j) (hp : p < min W (xs.length - l)) (hq : q < min W (xs.length - (l + W))) (ht : l + p + q < zs.length)
    (ha : ahd (xs.getD (l + W + q) 0) (xs.getD (l + p) 0) = true) : InnerRel W j l p (q + 1) xs (zs.set (l + p + q) (xs.getD (l + W + q) 0)) (dd ++ [xs.getD (l + W + q) 0]) := by
  have eA := drop_cons' (runA W j xs) p (by rw [runA_length W j l xs hl]; exact hp)
  have eB := drop_cons' (runB W j xs) q (by rw [runB_length W j l xs hl]; exact hq)
  rw [runA_getD W j l p xs hl hp] at eA
  rw [runB_getD W j l q xs hl hq] at eB
  refine ⟨?_, by rw [List.length_append, h.size]; rfl, ?_⟩
  · rw [show l + p + (q + 1) = l + p + q + 1 by omega, take_set _ _ _ ht, h.done, List.append_assoc]
  · have e := h.rest
    rw [eA, eB, mg_cons, if_pos ha, ← eA] at e
    rw [← e, List.append_assoc]
    rfl
theorem InnerRel.takeA {W j l p q : Nat} {xs zs dd : List Nat} (h : InnerRel W j l p q xs zs dd) (hl : l = 2 * W * j) (hp : p < min W (xs.length - l)) (hq : q < min W (xs.length - (l + W))) (ht : l + p + q < zs.length)
    (ha : ahd (xs.getD (l + W + q) 0) (xs.getD (l + p) 0) = false) : InnerRel W j l (p + 1) q xs (zs.set (l + p + q) (xs.getD (l + p) 0)) (dd ++ [xs.getD (l + p) 0]) := by
  have eA := drop_cons' (runA W j xs) p (by rw [runA_length W j l xs hl]; exact hp)
  have eB := drop_cons' (runB W j xs) q (by rw [runB_length W j l xs hl]; exact hq)
  rw [runA_getD W j l p xs hl hp] at eA
  rw [runB_getD W j l q xs hl hq] at eB
  refine ⟨?_, by rw [List.length_append, h.size]; simp; omega, ?_⟩
  · rw [show l + (p + 1) + q = l + p + q + 1 by omega, take_set _ _ _ ht, h.done, List.append_assoc]
  · have e := h.rest
    rw [eA, eB, mg_cons, if_neg (by rw [ha]; exact Bool.false_ne_true), ← eB] at e
    rw [← e, List.append_assoc]
    rfl
/-- One run is at its end: what is left of the other one goes over whole. -/
theorem InnerRel.close {W j l p q : Nat} {xs zs dd cs : List Nat} (h : InnerRel W j l p q xs zs dd) (hc : mg ((runA W j xs).drop p) ((runB W j xs).drop q) = cs) (hz : l + p + q + cs.length = l + 2 * W ∨ (l + p + q + cs.length = zs.length ∧ zs.length ≤ l + 2 * W)) (ht : l + p + q ≤ zs.length) :
    (zs.take (l + p + q) ++ (cs ++ zs.drop (l + p + q + cs.length))).take (l + 2 * W) = dn W (j + 1) xs := by
  have e := h.rest
  rw [hc] at e
  have e2 : zs.take (l + p + q) ++ cs = dn W (j + 1) xs := by
    rw [h.done, List.append_assoc, e]
    rfl
  rw [← List.append_assoc, e2]
  have hlen : (dn W (j + 1) xs).length = l + p + q + cs.length := by
    rw [← e2, List.length_append, List.length_take]
    omega
  rcases hz with hz | ⟨hz, hz2⟩
  · rw [List.take_append_of_le_length (by omega), List.take_of_length_le (by omega)]
  · rw [List.drop_eq_nil_of_le (by omega), List.append_nil, List.take_of_length_le (by omega)]
/-- What is left of the second run, of the first one, where the other is at its end. -/
theorem left_B (W j p q : Nat) (xs : List Nat) (hp : (runA W j xs).length ≤ p) : mg ((runA W j xs).drop p) ((runB W j xs).drop q) = (runB W j xs).drop q := by
  rw [List.drop_eq_nil_of_le hp, mg_nil_left]
theorem left_A (W j p q : Nat) (xs : List Nat) (hq : (runB W j xs).length ≤ q) : mg ((runA W j xs).drop p) ((runB W j xs).drop q) = (runA W j xs).drop p := by
  rw [List.drop_eq_nil_of_le hq, mg_nil_right]
theorem dropA_getD (W j l p i : Nat) (xs : List Nat) (hl : l = 2 * W * j) (hp : p + i < min W (xs.length - l)) : ((runA W j xs).drop p).getD i 0 = xs.getD (l + p + i) 0 := by
  have e := runA_getD W j l (p + i) xs hl hp
  have h1 : p + i < (runA W j xs).length := by rw [runA_length W j l xs hl]; exact hp
  rw [getD_getElem _ _ h1] at e
  rw [getD_getElem _ _ (by rw [List.length_drop]; omega), List.getElem_drop, e, Nat.add_assoc]
theorem dropB_getD (W j l q i : Nat) (xs : List Nat) (hl : l = 2 * W * j) (hq : q + i < min W (xs.length - (l + W))) : ((runB W j xs).drop q).getD i 0 = xs.getD (l + W + q + i) 0 := by
  have e := runB_getD W j l (q + i) xs hl hq
  have h1 : q + i < (runB W j xs).length := by rw [runB_length W j l xs hl]; exact hq
  rw [getD_getElem _ _ h1] at e
  rw [getD_getElem _ _ (by rw [List.length_drop]; omega), List.getElem_drop, e, Nat.add_assoc (l + W)]
end Go.Proofs.YtdnifilmckialaaDoor

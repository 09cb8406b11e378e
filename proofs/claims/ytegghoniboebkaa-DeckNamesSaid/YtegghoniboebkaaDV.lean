/- Names and parts tell one another. -/
import Derived.Test.YtegghoniboebkaaDU
namespace Go.Proofs.Ytegghoniboebkaa
open Go.RowKit
theorem idx3 (c : UInt8) : idx [80, 84, 76] c = if c = 80 then 0 else if c = 84 then 1 else if c = 76 then 2 else -1 := by
  by_cases h1 : c = 80
  · subst h1; rfl
  by_cases h2 : c = 84
  · subst h2; rfl
  by_cases h3 : c = 76
  · subst h3; rfl
  have e1 : ((80 : UInt8) == c) = false := by rw [beq_eq_false_iff_ne]; exact fun h => h1 h.symm
  have e2 : ((84 : UInt8) == c) = false := by rw [beq_eq_false_iff_ne]; exact fun h => h2 h.symm
  have e3 : ((76 : UInt8) == c) = false := by rw [beq_eq_false_iff_ne]; exact fun h => h3 h.symm
  rw [if_neg h1, if_neg h2, if_neg h3, idx_cons, idx_cons, idx_cons, e1, e2, e3]
  rfl
theorem namK1 (c : UInt8) (h : namK c = 1) : c = 80 := by
  unfold namK at h
  rw [idx3] at h
  by_cases h1 : c = 80
  · exact h1
  rw [if_neg h1] at h
  by_cases h2 : c = 84
  · rw [if_pos h2] at h; omega
  rw [if_neg h2] at h
  by_cases h3 : c = 76
  · rw [if_pos h3] at h; omega
  rw [if_neg h3] at h; omega
theorem namK2 (c : UInt8) (h : namK c = 2) : c = 84 := by
  unfold namK at h
  rw [idx3] at h
  by_cases h1 : c = 80
  · rw [if_pos h1] at h; omega
  rw [if_neg h1] at h
  by_cases h2 : c = 84
  · exact h2
  rw [if_neg h2] at h
  by_cases h3 : c = 76
  · rw [if_pos h3] at h; omega
  rw [if_neg h3] at h; omega
theorem namK3 (c : UInt8) (h : namK c = 3) : c = 76 := by
  unfold namK at h
  rw [idx3] at h
  by_cases h1 : c = 80
  · rw [if_pos h1] at h; omega
  rw [if_neg h1] at h
  by_cases h2 : c = 84
  · rw [if_pos h2] at h; omega
  rw [if_neg h2] at h
  by_cases h3 : c = 76
  · exact h3
  rw [if_neg h3] at h; omega
theorem txt_nodot (n : Int) : ∀ x ∈ txt n, (x != 46) = true := by
  have hd : ∀ m : Nat, ∀ x ∈ dig m, (x != 46) = true := by
    intro m x hx
    have h := (isd_iff x).1 (List.all_eq_true.1 (dig_all m m (Nat.le_refl _)) x hx)
    rw [bne_iff_ne]
    intro e
    subst e
    have : ((46 : UInt8).toNat) = 46 := rfl
    omega
  intro x hx
  unfold txt at hx
  split at hx
  · rcases List.mem_cons.1 hx with rfl | hx
    · rfl
    · exact hd _ x hx
  · exact hd _ x hx
theorem cut_dot (u v : List UInt8) (h : ∀ x ∈ u, (x != 46) = true) : cutA (u ++ [46] ++ v) 46 = u ∧ cutB (u ++ [46] ++ v) 46 = v := by
  unfold cutA cutB
  rw [List.append_assoc]
  constructor
  · rw [List.takeWhile_append_of_pos h]
    simp
  · rw [List.dropWhile_append_of_pos h]
    simp
theorem cut_join (l : List UInt8) (h : cutF l 46 = true) : cutA l 46 ++ [46] ++ cutB l 46 = l := by
  induction l with
  | nil => cases h
  | cons x l ih =>
    by_cases hx : x = 46
    · subst hx
      simp [cutA, cutB]
    · have hb : (x == 46) = false := by (rw [beq_eq_false_iff_ne]; exact hx)
      have hb2 : (x != 46) = true := by (rw [bne_iff_ne]; exact hx)
      have f1 : cutF (x :: l) 46 = cutF l 46 := by unfold cutF; rw [List.any_cons, hb, Bool.false_or]
      have f2 : cutA (x :: l) 46 = x :: cutA l 46 := by unfold cutA; rw [List.takeWhile_cons, if_pos hb2]
      have f3 : cutB (x :: l) 46 = cutB l 46 := by unfold cutB; rw [List.dropWhile_cons, if_pos hb2]
      rw [f2, f3, List.cons_append, List.cons_append, ih (by rw [← f1]; exact h)]
theorem prs_both (n : Int) (h : fits n) : prsV (txt n) = n ∧ prsE (txt n) = 0 := by
  unfold prsV prsE
  rw [prs_txt n h]
  exact ⟨rfl, rfl⟩
theorem prs_read (l : List UInt8) (h : prsE l = 0) : txt (prsV l) = l := by
  unfold prsE at h
  cases hp : prs l with
  | none => rw [hp] at h; cases h
  | some n =>
    unfold prsV
    rw [hp]
    exact (prs_back l n hp).1
theorem parse_both (p : Int × Int) (h : rightB p = true) : parseV (nameL p) = p ∧ parseE (nameL p) = 0 := by
  unfold parseV parseE
  rw [parse_name p h]
  exact ⟨rfl, rfl⟩
theorem parse_read (l : List UInt8) (h : parseE l = 0) : rightB (parseV l) = true ∧ nameL (parseV l) = l := by
  unfold parseE at h
  cases hp : parseL l with
  | none => rw [hp] at h; cases h
  | some p =>
    unfold parseV
    rw [hp]
    exact name_parse l p hp
theorem name_tell (x : Q4) (h : okP x) : namT (nameQ x) = (x, true) := by
  obtain ⟨a, b, c, d⟩ := x
  obtain ⟨h1, h2, h3, h4, h5, h6, h7, h8⟩ := h
  dsimp only at *
  obtain ⟨p1, p2⟩ := prs_both b (by unfold fits; omega)
  have hr : rightB (c, d) = true := (right_iff _).2 ⟨h4, h5, h6, h7⟩
  obtain ⟨q1, q2⟩ := parse_both (c, d) hr
  obtain ⟨c1, c2⟩ := cut_dot (txt b) (nameL (c, d)) (txt_nodot b)
  rcases h1 with rfl | rfl | rfl
  · rw [show nameQ ⟨1, b, c, d⟩ = 80 :: (txt b ++ [46] ++ nameL (c, d)) by simp [nameQ, kl], namT, if_neg (by decide), c1, c2, p1, p2, q1, q2]
    rfl
  · rw [show nameQ ⟨2, b, c, d⟩ = 84 :: (txt b ++ [46] ++ nameL (c, d)) by simp [nameQ, kl], namT, if_neg (by decide), c1, c2, p1, p2, q1, q2]
    rfl
  · rw [show nameQ ⟨3, b, c, d⟩ = 76 :: txt b by simp [nameQ, kl], namT, if_pos (by decide), p1, p2]
    obtain ⟨rfl, rfl⟩ := h8 rfl
    rfl
theorem tell_name (l : List UInt8) (h : (namT l).2 = true) (hk : okP (namT l).1) : nameQ (namT l).1 = l := by
  cases l with
  | nil => cases h
  | cons c t =>
    rw [namT] at h hk ⊢
    by_cases h3 : namK c = 3
    · rw [if_pos h3] at h hk ⊢
      have hc := namK3 c h3
      subst hc
      have hp := prs_read t (of_decide_eq_true h)
      rw [h3]
      simp [nameQ, kl, hp]
    · rw [if_neg h3] at h hk ⊢
      simp only [Bool.and_eq_true, decide_eq_true_eq] at h
      obtain ⟨e1, e2⟩ := h
      have hp := prs_read _ e1
      obtain ⟨r1, r2⟩ := parse_read _ e2
      have hf : cutF t 46 = true := by
        rcases idx_spec t 46 with ⟨_, h1, _, h2⟩ | ⟨_, _, _, h1, _⟩
        · exfalso
          rw [h2] at r1 r2
          rw [nameL_yes r1] at r2
          have h5 := congrArg List.length r2
          rw [List.length_append, List.length_nil] at h5
          have := nm_len (parseV []).1.toNat
          omega
        · exact h1
      have hj := cut_join t hf
      rcases hk.1 with h1 | h1 | h1
      · have hc := namK1 c h1
        subst hc
        have : nameQ ⟨namK 80, prsV (cutA t 46), (parseV (cutB t 46)).1, (parseV (cutB t 46)).2⟩ = 80 :: (txt (prsV (cutA t 46)) ++ [46] ++ nameL (parseV (cutB t 46))) := by
          rw [show namK 80 = 1 from rfl]; simp [nameQ, kl]
        rw [this, hp, r2, hj]
      · have hc := namK2 c h1
        subst hc
        have : nameQ ⟨namK 84, prsV (cutA t 46), (parseV (cutB t 46)).1, (parseV (cutB t 46)).2⟩ = 84 :: (txt (prsV (cutA t 46)) ++ [46] ++ nameL (parseV (cutB t 46))) := by
          rw [show namK 84 = 2 from rfl]; simp [nameQ, kl]
        rw [this, hp, r2, hj]
      · exact absurd h1 h3
theorem find_id (l : List UInt8) (P : List Q4) (h : ∀ x ∈ P, okP x) : ∀ s, findR l P s = if (namT l).2 = true then idR (namT l).1 P s else (0, 3) := by
  induction P with
  | nil => intro s; unfold findR idR; split <;> rfl
  | cons x P ih =>
    intro s
    have hx := h x (by simp)
    rw [findR, idR, ih (fun y hy => h y (by simp [hy]))]
    by_cases hn : nameQ x = l
    · rw [if_pos hn, ← hn, name_tell x hx, if_pos rfl, if_pos rfl]
    · rw [if_neg hn]
      by_cases hb : (namT l).2 = true
      · rw [if_pos hb, if_pos hb, if_neg]
        intro hh
        apply hn
        rw [hh]
        exact tell_name l hb (by rw [← hh]; exact hx)
      · rw [if_neg hb, if_neg hb]
theorem findV_W (d : Dk) (l : List UInt8) : findW d l = findV d l := by
  unfold findW findV
  by_cases hz : dchk d = 0
  · rw [if_pos hz, if_pos hz, find_id l _ (parts_okP d), idV_K d _ hz]
  · rw [if_neg hz, if_neg hz]

/- Each part stands once. -/
theorem units_apart (d : Dk) : (unitsL d).Pairwise fun u v => u.a ≠ v.a ∨ u.b ≠ v.b := by
  have hr : ∀ (f : Nat → Q4) (n : Nat), (∀ i, (f i).b = (i : Int)) → ((List.range n).map f).Pairwise fun u v => u.a ≠ v.a ∨ u.b ≠ v.b := by
    intro f n hf
    rw [List.pairwise_map]
    exact List.pairwise_lt_range.imp fun {i j} hij => .inr (by rw [hf, hf]; omega)
  unfold unitsL
  rw [List.pairwise_append, List.pairwise_append]
  refine ⟨⟨hr _ _ fun _ => rfl, hr _ _ fun _ => rfl, fun u hu v hv => ?_⟩, hr _ _ fun _ => rfl, fun u hu v hv => ?_⟩
  · obtain ⟨i, _, rfl⟩ := List.mem_map.1 hu
    obtain ⟨j, _, rfl⟩ := List.mem_map.1 hv
    exact .inl (show (1 : Int) ≠ 2 by decide)
  · obtain ⟨j, _, rfl⟩ := List.mem_map.1 hv
    rcases List.mem_append.1 hu with hu | hu
    · obtain ⟨i, _, rfl⟩ := List.mem_map.1 hu
      exact .inl (show (1 : Int) ≠ 3 by decide)
    · obtain ⟨i, _, rfl⟩ := List.mem_map.1 hu
      exact .inl (show (2 : Int) ≠ 3 by decide)
theorem unit_apart (u : Q4) (h : okU u) : (unitParts u).Pairwise (· ≠ ·) := by
  obtain ⟨p1, p2, _⟩ := okU_pos h
  unfold unitParts
  rw [List.pairwise_map]
  refine List.pairwise_lt_range.imp fun {i j} hij hh => ?_
  unfold unitF at hh
  injection hh with _ _ g3 g4
  have g3' : i / u.d.toNat = j / u.d.toNat := by omega
  have g4' : i % u.d.toNat = j % u.d.toNat := by omega
  have e1 := Nat.div_add_mod i u.d.toNat
  have e2 := Nat.div_add_mod j u.d.toNat
  rw [g3', g4'] at e1
  omega
theorem parts_apart (d : Dk) : (partsK d).Pairwise (· ≠ ·) := by
  unfold partsK
  by_cases hz : dchk d = 0
  · rw [if_pos hz]
    unfold partsL partsU
    rw [List.pairwise_flatMap]
    refine ⟨fun u hu => unit_apart u (units_ok d (dchk_ok d hz) u hu), (units_apart d).imp fun {u v} huv x hx y hy hh => ?_⟩
    unfold unitParts at hx hy
    obtain ⟨i, _, rfl⟩ := List.mem_map.1 hx
    obtain ⟨j, _, rfl⟩ := List.mem_map.1 hy
    unfold unitF at hh
    injection hh with g1 g2 _ _
    rcases huv with h | h
    · exact h g1
    · exact h g2
  · rw [if_neg hz]; exact List.Pairwise.nil
theorem idR_at (P : List Q4) (h : P.Pairwise (· ≠ ·)) (i : Nat) (hi : i < P.length) : idR (P.getD i ⟨0, 0, 0, 0⟩) P 0 = ((i : Int), 0) := by
  have e := idR_hit (P.getD i ⟨0, 0, 0, 0⟩) P [] i hi rfl (fun j hj => by
    rw [List.getD_eq_getElem?_getD, List.getD_eq_getElem?_getD, List.getElem?_eq_getElem (by omega), List.getElem?_eq_getElem hi]
    exact List.pairwise_iff_getElem.1 h j i (by omega) hi hj) 0
  rw [List.append_nil] at e
  rw [e]
  congr 1
  omega
theorem idR_of (p : Q4) (P : List Q4) : ∀ s a, idR p P s = (a, 0) → ∃ i, i < P.length ∧ a = s + (i : Int) ∧ P.getD i ⟨0, 0, 0, 0⟩ = p := by
  induction P with
  | nil => intro s a h; unfold idR at h; injection h with _ h; cases h
  | cons x P ih =>
    intro s a h
    rw [idR] at h
    by_cases hx : x = p
    · rw [if_pos hx] at h
      injection h with h _
      exact ⟨0, by simp, by omega, hx⟩
    · rw [if_neg hx] at h
      obtain ⟨i, h1, h2, h3⟩ := ih _ _ h
      exact ⟨i + 1, by simp; omega, by omega, h3⟩
/-- What is found bears the name. -/
theorem find_name (d : Dk) (l : List UInt8) (h : (findV d l).2 = 0) : nameV d (findV d l).1 = l := by
  unfold findV at h ⊢
  by_cases hz : dchk d = 0
  · rw [if_pos hz] at h ⊢
    by_cases hb : (namT l).2 = true
    · rw [if_pos hb] at h ⊢
      rw [idV_K d _ hz] at h ⊢
      obtain ⟨i, h1, h2, h3⟩ := idR_of (namT l).1 (partsK d) 0 (idR (namT l).1 (partsK d) 0).1 (Prod.ext rfl h)
      have e : partR (partsK d) (idR (namT l).1 (partsK d) 0).1 = ((namT l).1, 0) := by
        unfold partR
        rw [h2, if_neg (by omega), show ((0 : Int) + (i : Int)).toNat = i by omega, h3]
      unfold nameV
      rw [partV_K d _ hz, e, if_pos rfl]
      refine tell_name l hb ?_
      rw [← h3]
      exact parts_okP d _ (getD_mem' _ _ _ h1)
    · rw [if_neg hb] at h; cases h
  · rw [if_neg hz] at h
    exact absurd h hz
theorem cnt_sum (P : List Q4) (h : ∀ x ∈ P, okP x) : cntK 1 P + cntK 2 P + cntK 3 P = (P.length : Int) := by
  induction P with
  | nil => rfl
  | cons x P ih =>
    have hx := (h x (by simp)).1
    have e := ih (fun y hy => h y (by simp [hy]))
    have hc : ∀ k, cntK k (x :: P) = cntK k [x] + cntK k P := fun k => cnt_append k [x] P
    rw [hc, hc, hc, List.length_cons]
    have h1 : ∀ k, cntK k [x] = if x.a = k then 1 else 0 := by
      intro k
      unfold cntK
      by_cases hk : x.a = k
      · simp [hk]
      · simp [hk]
    rw [h1, h1, h1]
    rcases hx with hx | hx | hx <;> (rw [hx]; simp; omega)
theorem cnt_all (d : Dk) : (cntV d).1 + (cntV d).2.1 + (cntV d).2.2 = ((partsK d).length : Int) := by
  rw [cnt_V]
  exact cnt_sum _ (parts_okP d)
/-- An id that is none has no name. -/
theorem name_none (d : Dk) (id : Int) (h : id < 0 ∨ ((partsK d).length : Int) ≤ id) : nameV d id = [] := by
  unfold nameV
  by_cases hz : dchk d = 0
  · rw [partV_K d _ hz]
    unfold partR
    rw [if_pos h, if_neg (by decide)]
  · unfold partV
    rw [if_neg hz, if_neg hz]
/-- An id that is one. -/
theorem name_some (d : Dk) (id : Int) (h0 : 0 ≤ id) (h1 : id < ((partsK d).length : Int)) : (partV d id).2 = 0 ∧ idV d (partV d id).1 = (id, 0) ∧ findV d (nameV d id) = (id, 0) := by
  have hz : dchk d = 0 := by
    apply Classical.byContradiction
    intro hz
    unfold partsK at h1
    rw [if_neg hz] at h1
    simp at h1
    omega
  obtain ⟨i, rfl⟩ : ∃ i : Nat, id = (i : Int) := ⟨id.toNat, by omega⟩
  have hi : i < (partsK d).length := by omega
  have hp : partV d (i : Int) = ((partsK d).getD i ⟨0, 0, 0, 0⟩, 0) := by
    rw [partV_K d _ hz]
    unfold partR
    rw [if_neg (by omega), Int.toNat_natCast]
  have hid := idR_at _ (parts_apart d) i hi
  refine ⟨by rw [hp], by rw [hp, idV_K d _ hz]; exact hid, ?_⟩
  unfold findV nameV
  rw [hp, if_pos rfl, if_pos hz, name_tell _ (parts_okP d _ (getD_mem' _ _ _ hi)), if_pos rfl, idV_K d _ hz]
  exact hid
end Go.Proofs.Ytegghoniboebkaa

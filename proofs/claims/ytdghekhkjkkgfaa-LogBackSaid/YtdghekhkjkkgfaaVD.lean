/- Logs: the last changes, as a slice without room behind it; an append onto such a slice is new memory. -/
import Derived.Test.YtdghekhkjkkgfaaVB
import Derived.Test.YtdghekhkjkkgfaaKX
namespace Go.Proofs.Ytdghekhkjkkgfaa
open Go.RowKit

namespace Lk
variable {P : Program} {α : Type} {K : Lk P α}
/-- The end of a list, as a slice of its own. -/
theorem IsL.part {w : World} {B b off c : Nat} {xs : List α} (h : K.IsL w B (.slice (some ⟨b, off, none⟩) xs.length c) xs) (m : Nat) (hm : m < xs.length) (n' c' : Nat) (hn : n' = xs.length - m) (hc : n' ≤ c') (o' : Nat) (ho : o' = off + m * K.n) : K.IsL w B (.slice (some ⟨b, o', none⟩) n' c') (xs.drop m) := by
  subst hn
  subst ho
  have hlen := h.2.2
  obtain ⟨b2, off2, e, hb, _, hcell⟩ := h.elem (by omega)
  simp only [Option.some.injEq, Addr.mk.injEq, and_true] at e
  obtain ⟨rfl, rfl⟩ := e
  refine ⟨⟨_, c', by rw [List.length_drop], by rw [List.length_drop]; exact hc, fun _ => ⟨_, _, rfl, hb, fun i hi j u hu => ?_⟩⟩, fun x hx => h.2.1 x (List.mem_of_mem_drop hx), by rw [List.length_drop]; omega⟩
  rw [List.length_drop] at hi
  have q := hcell (m + i) (by omega) j u (by
    rw [← hu]
    congr 2
    simp [List.getD_eq_getElem?_getD])
  rw [show off + m * K.n + (i * K.n + j) = off + ((m + i) * K.n + j) by rw [Nat.add_mul]; omega]
  exact q
/-- An append onto a slice without room behind it: a row of the call's own. -/
theorem run_app_full (w : World) (B : Nat) (ty : TypeId) (A : Option Addr) (n : Nat) (src : Value) (xs ys : List α) (B1 : Nat) (h : K.IsL w B1 (.slice A n n) xs) (hs : K.IsL w B src ys) (h0 : 0 < ys.length) (hl : xs.length + ys.length ≤ 1000000) :
    ∃ v' w', (Builtin.append_ #[K.S, K.S] ty #[.slice A n n, src]).run P w = .ok v' w' ∧ K.Own w' w.heap.size v' (xs ++ ys) ∧ Below w.heap.size w w' := by
  obtain ⟨A1, c1, e1, _⟩ := h.shape
  simp only [Value.slice.injEq] at e1
  obtain ⟨_, rfl, _⟩ := e1
  have hbl : ∀ {w' : World} {r : Option Nat}, w.grownBy w' r → r = none → Below w.heap.size w w' := fun hg hr => by
    subst hr
    exact (Below.refl _ _).grown hg (Nat.le_refl _) fun k hk => by cases hk
  cases A with
  | none =>
    have hx : xs = [] := by
      rcases Nat.eq_zero_or_pos xs.length with h' | h'
      · exact List.eq_nil_of_length_eq_zero h'
      · obtain ⟨b, off, e, _⟩ := h.elem h'
        cases e
    subst hx
    obtain ⟨v', w', hr, ho, hg, _⟩ := run_app (K := K) w w.heap.size B ty (.slice none 0 0) src [] ys (Own.nil _ _) hs hl (Nat.le_refl _)
    exact ⟨v', w', hr, ho, hbl hg rfl⟩
  | some a =>
    obtain ⟨i0, hi, hz0, hz1, hz2⟩ := info_parts K.info
    obtain ⟨A2, c2, rfl, hc2⟩ := hs.shape
    obtain ⟨b2, off2, rfl, hb2, _, hcell2⟩ := hs.elem h0
    have hby : (xs.length + ys.length) * K.bytes ≤ 140737488355328 := by
      have := Nat.mul_le_mul hl K.small
      omega
    have olds : ∀ j u, (K.flat xs)[j]? = some u → w.cell? (a.add j) = some u := fun j u hu => by
      have hj : j < xs.length * K.n := by
        have := (List.getElem?_eq_some_iff.1 hu).1
        rw [K.flat_len] at this
        exact this
      have hn := K.pos
      have e := Nat.div_add_mod j K.n
      have hm := Nat.mod_lt j hn
      have hi2 : j / K.n < xs.length := (Nat.div_lt_iff_lt_mul hn).2 hj
      obtain ⟨b, off, e3, hb, _, hcell⟩ := h.elem (Nat.lt_of_le_of_lt (Nat.zero_le _) hi2)
      simp only [Option.some.injEq] at e3
      subst e3
      rw [Nat.mul_comm] at e
      rw [← e, K.flat_at xs _ _ hi2 hm] at hu
      have q := hcell (j / K.n) hi2 (j % K.n) u hu
      rw [e] at q
      rw [Go.WideShapes.add_plain]
      exact q
    have news : ∀ j u, (K.flat ys)[j]? = some u → w.cell? ((⟨b2, off2, none⟩ : Addr).add j) = some u := fun j u hu => by
      have hj : j < ys.length * K.n := by
        have := (List.getElem?_eq_some_iff.1 hu).1
        rw [K.flat_len] at this
        exact this
      have hn := K.pos
      have e := Nat.div_add_mod j K.n
      have hm := Nat.mod_lt j hn
      have hi2 : j / K.n < ys.length := (Nat.div_lt_iff_lt_mul hn).2 hj
      rw [Nat.mul_comm] at e
      rw [← e, K.flat_at ys _ _ hi2 hm] at hu
      have q := hcell2 (j / K.n) hi2 (j % K.n) u hu
      rw [e] at q
      rw [Go.WideShapes.add_plain]
      exact q
    obtain ⟨v', w', hr, ho, hg⟩ := run_append_arg_grows (P := P) w K.S ty K.E i0 K.zero K.n K.bytes K.und hi hz0 hz1 hz2 K.zs K.pos a xs.length xs.length (K.flat xs) (K.flat_len xs) olds ⟨b2, off2, none⟩ ys.length c2 (K.flat ys) (K.flat_len ys) news (by omega) (by unfold maxLen; omega) hby
    refine ⟨v', w', hr, ⟨by rw [List.length_append, K.flat_append]; exact ho, fun x hx => ?_⟩, hbl hg rfl⟩
    rcases List.mem_append.1 hx with hx | hx
    · exact h.2.1 x hx
    · exact hs.2.1 x hx
theorem wp_full {o : Oper} {a : Act} {R : Act → World → Prop} {Q : Exit → Act → World → Prop} (w : World) (s x : Operand) {T : TypeId} (hT : T = K.S)
    (ho : o.op = .call { callee := .builtin .append, args := #[s, x], argTypes := #[T, T] }) (B1 B : Nat) (A : Option Addr) (n : Nat) (src : Value) (xs ys : List α) (hs : a.eval s = .slice A n n) (hx : a.eval x = src)
    (h : K.IsL w B1 (.slice A n n) xs) (hy : K.IsL w B src ys) (h0 : 0 < ys.length) (hl : xs.length + ys.length ≤ 1000000)
    (hk : ∀ v' w', K.Own w' w.heap.size v' (xs ++ ys) → Below w.heap.size w w' → R (a.put o.dst v') w') : o.wp P a w R Q := by
  subst hT
  obtain ⟨v', w', hrun, h2, h3⟩ := run_app_full w B o.type A n src xs ys B1 h hy h0 hl
  unfold Oper.wp execOp
  simp only [ho, resolve, invoke, builtin, Sem.run_bind, Sem.run_pure, Result.andThen_ok, List.map_toArray, List.map_cons, List.map_nil, hs, hx, hrun]
  exact hk v' w' h2 h3
theorem wpList_full {ops : Array Oper} {rest : List Oper} {o : Oper} {a : Act} {Q : Exit → Act → World → Prop} (w : World) (hgd : o.guard = none) (s x : Operand) {T : TypeId} (hT : T = K.S)
    (ho : o.op = .call { callee := .builtin .append, args := #[s, x], argTypes := #[T, T] }) (B1 B : Nat) (A : Option Addr) (n : Nat) (src : Value) (xs ys : List α) (hs : a.eval s = .slice A n n) (hx : a.eval x = src)
    (h : K.IsL w B1 (.slice A n n) xs) (hy : K.IsL w B src ys) (h0 : 0 < ys.length) (hl : xs.length + ys.length ≤ 1000000)
    (hk : ∀ v' w', K.Own w' w.heap.size v' (xs ++ ys) → Below w.heap.size w w' → wpList P ops Q rest (a.put o.dst v') w') : wpList P ops Q (o :: rest) a w :=
  wpList_plain hgd fun _ hK => wp_full w s x hT ho B1 B A n src xs ys hs hx h hy h0 hl fun v' w' h2 h3 => hK _ _ (hk v' w' h2 h3)
end Lk

set_option maxRecDepth 100000 in
/-- The last n changes of a log. -/
theorem end_any (r l : Int) (A : Option Addr) (c : Nat) (xs : List Ch) (n : Nat) (hn : n ≤ xs.length) (w : World) (B : Nat) (hv : KC.IsL w B (.slice A xs.length c) xs) : Calls Try.prog 37 #[lgV r l A xs.length c, .int .i64 n] w fun e w' => ∃ A', e = .returned (.slice A' n n) ∧ KC.IsL w B (.slice A' n n) (xs.drop (xs.length - n)) ∧ Below w.heap.size w w' := by
  have HV := Lib.hid hv
  have hl := hv.2.2
  obtain ⟨A2, c2, e2, hc⟩ := hv.shape
  simp only [Value.slice.injEq, true_and] at e2
  obtain ⟨rfl, rfl⟩ := e2
  clear hv
  obtain ⟨ys, hys⟩ : ∃ ys, xs.drop (xs.length - n) = ys := ⟨_, rfl⟩
  rw [hys]
  rcases Nat.eq_zero_or_pos n with h0 | h0
  · subst h0
    rw [Nat.sub_zero, List.drop_length] at hys
    have HN := Lib.hid (show ∀ A', KC.IsL w B (.slice A' 0 0) ys from fun A' => by
      rw [← hys]
      exact Lk.IsL.nil _ _ _ _)
    clear hys
    rcases A with _ | ad
    · rcases Nat.eq_zero_or_pos xs.length with hx | hx
      · rw [hx] at *
        go_enter Try.func37, Try.ntmps37
        go_wp2
        go_ret
        exact ⟨_, rfl, HN.out _, Below.al (Below.refl _ _) _⟩
      · obtain ⟨b, off, e, _⟩ := HV.out.elem hx
        cases e
    · go_enter Try.func37, Try.ntmps37
      go_wp2
      go_ret
      exact ⟨_, rfl, HN.out _, Below.al (Below.refl _ _) _⟩
  · obtain ⟨b, off, rfl, _⟩ := HV.out.elem (by omega)
    have HN := Lib.hid (fun o' h => HV.out.part (xs.length - n) (by omega) n n (by omega) (Nat.le_refl _) o' h)
    rw [hys] at HN
    clear hys
    obtain ⟨m, hm⟩ : ∃ m, xs.length = m + n := ⟨xs.length - n, by omega⟩
    go_enter Try.func37, Try.ntmps37
    go_wp2
    go_ret
    exact ⟨some ⟨b, off + m * 3, none⟩, by show Ending.returned (.slice _ (m + n - m) (m + n - m)) = _; rw [Nat.add_sub_cancel_left], HN.out _ (by show _ = off + (xs.length - n) * 3; rw [show xs.length - n = m by omega]), Below.al (Below.refl _ _) _⟩
end Go.Proofs.Ytdghekhkjkkgfaa

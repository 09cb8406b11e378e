/- A text cut at each sign of one kind; the reference's Cut. -/
import Derived.Test.YtchnljdijmgnfaaLK
import Derived.Test.YtchnljdijmgnfaaWE
import Derived.Test.YtchnljdijmgnfaaPH
namespace Go.Proofs.Ytchnljdijmgnfaa
open Go.RowKit
/-- Lists of texts. -/
def Ks : Lk Try.prog (List UInt8) where
  S := 66
  E := 9
  n := 1
  zero := .string ⟨#[]⟩
  bytes := 16
  cells := fun x => [.string ⟨x.toArray⟩]
  dflt := []
  ok := fun _ => True
  und := Try.underlying66
  info := by kernel_rfl
  zs := rfl
  pos := by decide
  small := by decide
  len := fun _ => rfl
  one := fun x u hu => by
    rw [List.mem_singleton] at hu
    subst hu
    rfl
/-- What stands between the signs of one kind. -/
def pieces (c : UInt8) : List UInt8 → List (List UInt8)
  | [] => [[]]
  | x :: r => if x == c then [] :: pieces c r else match pieces c r with
    | [] => [[x]]
    | p :: ps => (x :: p) :: ps
theorem pieces_ne (c : UInt8) (l : List UInt8) : pieces c l ≠ [] := by
  cases l with
  | nil => simp [pieces]
  | cons x r =>
    rw [pieces]
    split
    · simp
    · split <;> simp
theorem pieces_skip (c x : UInt8) (r p : List UInt8) (ps : List (List UInt8)) (hx : x ≠ c) (h : pieces c r = p :: ps) : pieces c (x :: r) = (x :: p) :: ps := by
  rw [pieces, if_neg (by simpa using hx), h]
theorem pieces_whole (c : UInt8) (l : List UInt8) (h : ∀ x ∈ l, x ≠ c) : pieces c l = [l] := by
  induction l with
  | nil => rfl
  | cons x r ih => exact pieces_skip c x r r [] (h x List.mem_cons_self) (ih fun y hy => h y (List.mem_cons_of_mem _ hy))
theorem pieces_at (c : UInt8) (a r : List UInt8) (h : ∀ x ∈ a, x ≠ c) : pieces c (a ++ c :: r) = a :: pieces c r := by
  induction a with
  | nil => show pieces c (c :: r) = _; rw [pieces, if_pos (by simp)]
  | cons x a ih => exact pieces_skip c x _ a _ (h x List.mem_cons_self) (ih fun y hy => h y (List.mem_cons_of_mem _ hy))
theorem pieces_len (c : UInt8) (l : List UInt8) : (pieces c l).length ≤ l.length + 1 := by
  induction l with
  | nil => simp [pieces]
  | cons x r ih =>
    rw [pieces]
    split
    · simp only [List.length_cons]; omega
    · cases hp : pieces c r with
      | nil => simp
      | cons p ps => rw [hp] at ih; simp only [List.length_cons] at ih ⊢; omega
theorem pieces_mem (c : UInt8) (l : List UInt8) : ∀ p ∈ pieces c l, p.length ≤ l.length := by
  induction l with
  | nil => simp [pieces]
  | cons x r ih =>
    intro p hp
    rw [pieces] at hp
    split at hp
    · rcases List.mem_cons.1 hp with rfl | hp
      · simp
      · have := ih p hp; simp only [List.length_cons]; omega
    · cases hq : pieces c r with
      | nil => rw [hq] at hp; simp at hp; subst hp; simp
      | cons q qs =>
        rw [hq] at hp ih
        rcases List.mem_cons.1 hp with rfl | hp
        · have := ih q List.mem_cons_self; simp only [List.length_cons]; omega
        · have := ih p (List.mem_cons_of_mem _ hp); simp only [List.length_cons]; omega
theorem drop_split (l : List UInt8) (f k : Nat) (hf : f ≤ k) (hk : k < l.length) : l.drop f = (l.drop f).take (k - f) ++ l.getD k 0 :: l.drop (k + 1) := by
  have e1 : l.drop f = (l.drop f).take (k - f) ++ (l.drop f).drop (k - f) := (List.take_append_drop _ _).symm
  rw [List.drop_drop, show f + (k - f) = k by omega, List.drop_eq_getElem_cons hk] at e1
  rw [List.getD_eq_getElem?_getD, List.getElem?_eq_getElem hk]
  exact e1
theorem take_more (l : List UInt8) (f k : Nat) (hf : f ≤ k) (hk : k < l.length) : (l.drop f).take (k + 1 - f) = (l.drop f).take (k - f) ++ [l.getD k 0] := by
  rw [show k + 1 - f = (k - f) + 1 by omega, List.take_succ_eq_append_getElem (by rw [List.length_drop]; omega), List.getElem_drop, List.getD_eq_getElem?_getD, List.getElem?_eq_getElem hk]
  simp [show f + (k - f) = k by omega]
theorem IsT.cut {s : ByteArray} {l : List UInt8} (h : IsT s l) (f k : Nat) : s.extract f k = ⟨((l.drop f).take (k - f)).toArray⟩ := by
  rw [h.eq, ByteArray.extract_mk]
def CutR (w : World) (ps : List (List UInt8)) (e : Ending) (w' : World) : Prop := ∃ v', e = .returned v' ∧ Ks.Own w' w.heap.size v' ps ∧ Below w.heap.size w w'
set_option maxRecDepth 100000 in
set_option maxHeartbeats 4000000 in
theorem rpieces_any (s : ByteArray) (l : List UInt8) (hs : IsT s l) (hsz : l.length ≤ 100000) (c : UInt8) (w : World) :
    Calls Try.prog 51 #[.string s, .int .u8 (c.toNat : Int)] w (CutR w (pieces c l)) := by
  have hz := hs.size
  have HS := Lib.hid hs
  have hl5 : (l.length : Int) ≤ 100000 := by omega
  clear hs
  go_enter Try.func51, Try.ntmps51
  go_wp2
  go_loopw [5, 6, 7] (fun v f i wr => ∃ (ps : List (List UInt8)) (a k : Nat), f = .int .i64 (a : Int) ∧ i = .int .i64 (k : Int) ∧ a ≤ k ∧ k ≤ l.length ∧ ps.length ≤ a ∧ (∀ x ∈ (l.drop a).take (k - a), x ≠ c) ∧ ps ++ pieces c (l.drop a) = pieces c l ∧ Ks.Own wr w.heap.size v ps ∧ Below w.heap.size w wr) (fun _ _ i _ => l.length - (intOf i).toNat)
  case atStart => exact ⟨[], 0, 0, rfl, rfl, Nat.le_refl _, Nat.zero_le _, by simp, by simp, by simp, Lk.Own.nil _ _, Below.refl _ w⟩
  case round =>
    obtain ⟨ps, a, k, rfl, rfl, hak, hk, hpa, hno, hpc, hown, hb⟩ := hrel
    have HNO := Lib.hid hno
    have HPC := Lib.hid hpc
    have HO := Lib.hid hown
    have HB := Lib.hid hb
    have HPA := Lib.hid hpa
    have hak' : (a : Int) ≤ (k : Int) := by omega
    clear hno hpc hown hb hpa
    by_cases hlt : k < l.length
    · have hix := HS.out.idx k hlt
      have HSP := Lib.hid (drop_split l a k hak hlt)
      have HTM := Lib.hid (take_more l a k hak hlt)
      have HEX := Lib.hid (HS.out.cut a k)
      generalize l.getD k 0 = x at *
      have hx1 := x.toNat_lt
      have hc1 := c.toNat_lt
      by_cases hxc : x = c
      · subst hxc
        have HP2 := Lib.hid (show (ps ++ [(l.drop a).take (k - a)]) ++ pieces x (l.drop (k + 1)) = pieces x l by
          rw [← HPC.out, List.append_assoc]
          conv => rhs; rw [HSP.out, pieces_at x _ _ HNO.out]
          rfl)
        have hks : (k : Int) ≤ (s.size : Int) := by omega
        go_wp2_with (at_builtin; refine Lk.wpList_app (K := Ks) _ rfl _ _ rfl rfl w.heap.size (wr.heap.size + 1) _ _ _ [(l.drop a).take (k - a)] rfl rfl (HO.out.alloc _) (Lk.IsL.lit wr ((l.drop a).take (k - a)) _ trivial (by rw [HEX.out]; rfl) wr.heap.size rfl) ?c1 ?c2 ?_)
        case c1 => have := HPA.out; simp only [List.length_cons, List.length_nil]; omega
        case c2 => have := HB.out.size; simp; omega
        intro v4 w4 hown4 hg4 hv4
        have HO4 := Lib.hid hown4
        have HB4 := Lib.hid ((HO.out.alloc (.cells #[.string ⟨((l.drop a).take (k - a)).toArray⟩] 9)).grow' (HB.out.alloc (by have := HB.out.size; omega) _) (by have := HB.out.size; simp; omega) (by first | exact hg4 | (rw [HEX.out] at hg4; exact hg4)))
        clear hown4 hg4 hv4
        go_wp2
        go_roundw
        case rel => exact ⟨ps ++ [(l.drop a).take (k - a)], k + 1, k + 1, num_i (by omega), num_i (by omega), Nat.le_refl _, by omega, by have := HPA.out; simp; omega, by simp, HP2.out, HO4.out, HB4.out⟩
        case measure => simp [intOf]; omega
      · have hxc2 : ((x.toNat : Int) == (c.toNat : Int)) = false := by
          rw [beq_eq_false_iff_ne]
          intro e
          exact hxc (UInt8.toNat_inj.1 (by omega))
        have hxc3 : ¬ ((x.toNat : Int) = (c.toNat : Int)) := by
          intro e
          exact hxc (UInt8.toNat_inj.1 (by omega))
        have HXC := Lib.hid hxc
        clear hxc
        go_wp2
        go_roundw
        case rel => exact ⟨ps, a, k + 1, rfl, num_i (by omega), by omega, by omega, HPA.out, by
          intro y hy
          rw [HTM.out] at hy
          rcases List.mem_append.1 hy with hy | hy
          · exact HNO.out y hy
          · rw [List.mem_singleton] at hy; subst hy; exact HXC.out, HPC.out, HO.out, HB.out⟩
        case measure => simp [intOf]; omega
    · obtain rfl : k = l.length := by omega
      have HEX := Lib.hid (show s.extract a l.length = ⟨(l.drop a).toArray⟩ from (HS.out.dropk a).eq)
      have HW := Lib.hid (show ps ++ [l.drop a] = pieces c l by
        rw [← HPC.out, pieces_whole c (l.drop a)]
        have q := HNO.out
        rw [List.take_of_length_le (by rw [List.length_drop]; omega)] at q
        exact q)
      have hks : (a : Int) ≤ (l.length : Int) := by omega
      go_wp2_with (at_builtin; go_loud (refine Lk.wpList_app (K := Ks) _ rfl _ _ rfl rfl w.heap.size (wr.heap.size + 1) _ _ _ [l.drop a] rfl rfl (HO.out.alloc _) (Lk.IsL.lit wr (l.drop a) _ trivial (by rw [HEX.out]; rfl) wr.heap.size rfl) ?c1 ?c2 ?_))
      case c1 => have := HPA.out; simp only [List.length_cons, List.length_nil]; omega
      case c2 => have := HB.out.size; simp; omega
      intro v4 w4 hown4 hg4 hv4
      have HO4 := Lib.hid hown4
      have HB4 := Lib.hid ((HO.out.alloc (.cells #[.string ⟨(l.drop a).toArray⟩] 9)).grow' (HB.out.alloc (by have := HB.out.size; omega) _) (by have := HB.out.size; simp; omega) (by first | exact hg4 | (rw [HEX.out] at hg4; exact hg4)))
      clear hown4 hg4 hv4
      go_wp2
      go_ret
      exact ⟨_, rfl, by rw [← HW.out]; exact HO4.out, HB4.out⟩
end Go.Proofs.Ytchnljdijmgnfaa

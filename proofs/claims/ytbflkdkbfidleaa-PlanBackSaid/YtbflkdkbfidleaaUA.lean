/- Mutexes: who is an arm, what is a place; the first of a list of which something holds; a list copied. -/
import Derived.Test.YtbflkdkbfidleaaKJ
import Derived.Test.YtbflkdkbfidleaaTB
import Derived.Laws.EntriesVeiled
import Derived.Shelf.Abstract
namespace Go.Proofs.Ytbflkdkbfidleaa
open Go.RowKit
theorem Lk.IsL.elem {P : Program} {α : Type} {K : Lk P α} {w : World} {B : Nat} {A : Option Addr} {n c : Nat} {xs : List α} (h : K.IsL w B (.slice A n c) xs) (h0 : 0 < xs.length) : ∃ b off, A = some ⟨b, off, none⟩ ∧ b < B ∧ xs.length ≤ c ∧
    ∀ i, i < xs.length → ∀ j u, (K.cells (xs.getD i K.dflt))[j]? = some u → w.cell? ⟨b, off + (i * K.n + j), none⟩ = some u := by
  obtain ⟨⟨A', cap, hv, hc, hA⟩, _, _⟩ := h
  simp only [Value.slice.injEq] at hv
  obtain ⟨rfl, rfl, rfl⟩ := hv
  obtain ⟨b, off, e, hb, hcell⟩ := hA h0
  exact ⟨b, off, e, hb, hc, hcell⟩
theorem Lk.IsL.shape {P : Program} {α : Type} {K : Lk P α} {w : World} {B : Nat} {v : Value} {xs : List α} (h : K.IsL w B v xs) : ∃ A c, v = .slice A xs.length c ∧ xs.length ≤ c := by
  obtain ⟨⟨A, cap, rfl, hc, hA⟩, _, _⟩ := h
  exact ⟨A, cap, rfl, hc⟩
def armO (x : Int) : Bool := decide (1 ≤ x) && decide (x ≤ 8)
theorem armO_any (x : Int) (w : World) : Calls Try.prog 46 #[.int .i64 x] w fun e w' => e = .returned (.bool (armO x)) ∧ w = w' := by
  have e : armO x = (decide (1 ≤ x) && decide (x ≤ 8)) := rfl
  by_cases h : 1 ≤ x <;> by_cases h2 : x ≤ 8 <;> simp [h, h2] at e <;> rw [e] <;> go_enter Try.func46, Try.ntmps46 <;> go_wp2 <;> go_ret <;> exact ⟨rfl, rfl⟩
def whoB (x : Int) : Bool := decide (x ≠ 0) && !armO x
theorem right1_any (x : Int) (w : World) : Calls Try.prog 45 #[.int .i64 x] w fun e w' => e = .returned (.bool (whoB x)) ∧ w = w' := by
  have HA := Lib.hid (fun w => armO_any x w)
  have e : whoB x = (decide (x ≠ 0) && !armO x) := rfl
  generalize armO x = q at *
  generalize whoB x = z at *
  by_cases h : x = 0
  · rw [show decide (x ≠ 0) = false from decide_eq_false (by omega), Bool.false_and] at e
    subst h; subst e
    go_enter Try.func45, Try.ntmps45
    go_wp2
    go_ret
    exact ⟨rfl, rfl⟩
  · rw [show decide (x ≠ 0) = true from decide_eq_true (by omega), Bool.true_and] at e
    subst e
    go_enter Try.func45, Try.ntmps45
    go_wp2_with fail
    refine (HA.out _).mono ?_
    rintro e w2 ⟨rfl, rfl⟩
    go_wp2
    go_ret
    exact ⟨ret_b (by simp [h]), rfl⟩
/-- Owners are right, if nobody is wrong. -/
def rgO (o : List Int) : Bool := !o.any whoB
theorem whoB_iff (x : Int) : whoB x = false ↔ 0 ≤ x ∧ x ≤ 8 := by
  unfold whoB armO
  rw [Bool.and_eq_false_iff, Bool.not_eq_false', Bool.and_eq_true, decide_eq_false_iff_not, decide_eq_true_eq, decide_eq_true_eq]
  omega
def hasB (n : Nat) (x : Int) : Bool := decide (0 ≤ x) && decide (x < n)
theorem has_o (A : Option Addr) (n c : Nat) (x : Int) (w : World) : Calls Try.prog 49 #[.slice A n c, .int .i64 x] w fun e w' => e = .returned (.bool (hasB n x)) ∧ w = w' := by
  have e : hasB n x = (decide (0 ≤ x) && decide (x < n)) := rfl
  by_cases h : 0 ≤ x <;> by_cases h2 : x < n <;> simp [h, h2] at e <;> rw [e] <;> go_enter Try.func49, Try.ntmps49 <;> go_wp2 <;> go_ret <;> exact ⟨rfl, rfl⟩
theorem two_of {w : World} {B : Nat} {v : Value} {xs : List Int} (h : KI.IsL w B v xs) : Two.IsL w B v xs := by
  obtain ⟨⟨A, cap, hv, hc, hA⟩, hf, hl⟩ := h
  refine ⟨⟨A, cap, hv, hc, fun h0 => ?_⟩, hf, hl⟩
  obtain ⟨b, off, e, hb, hcell⟩ := hA h0
  refine ⟨b, off, e, hb, fun i hi => ?_⟩
  have := hcell i hi 0 (.int .i64 (xs.getD i 0)) rfl
  simpa [KI] using this
theorem of_two {w : World} {B : Nat} {v : Value} {xs : List Int} (h : Two.IsL w B v xs) : KI.IsL w B v xs := by
  obtain ⟨⟨A, cap, hv, hc, hA⟩, hf, hl⟩ := h
  refine ⟨⟨A, cap, hv, hc, fun h0 => ?_⟩, hf, hl⟩
  obtain ⟨b, off, e, hb, hcell⟩ := hA h0
  refine ⟨b, off, e, hb, fun i hi j u hu => ?_⟩
  have hj : j = 0 := by
    have := (List.getElem?_eq_some_iff.1 hu).1
    simp [KI] at this
    exact this
  subst hj
  simp only [KI, List.getElem?_cons_zero, Option.some.injEq] at hu
  subst hu
  have := hcell i hi
  simpa [KI] using this
/-- What an own slice is, as it stands. -/
theorem Lk.Own.shape {P : Program} {α : Type} {K : Lk P α} {w : World} {base : Nat} {v : Value} {xs : List α} (h : K.Own w base v xs) (h0 : 0 < xs.length) : ∃ g cap, v = .slice (some ⟨g, 0, none⟩) xs.length cap ∧ base ≤ g ∧ g < w.heap.size ∧ xs.length ≤ cap := by
  obtain ⟨⟨h1, h2⟩, hf⟩ := h
  rcases h2 with ⟨_, hn⟩ | ⟨g, cap, cur, rfl, hb2, hg, hn, _⟩
  · omega
  · exact ⟨g, cap, rfl, hb2, (Array.getElem?_eq_some_iff.1 hg).1, hn⟩
theorem KI.flat_at (xs : List Int) : KI.flat xs = xs.map fun x => Value.int .i64 x := by
  induction xs with
  | nil => rfl
  | cons x r ih => show Value.int .i64 x :: KI.flat r = _; rw [ih]; rfl
/-- A number of an own list is written. -/
theorem KI.Own.put {w : World} {B g n c : Nat} {ys : List Int} (h : KI.Own w B (.slice (some ⟨g, 0, none⟩) n c) ys) (hn : ys.length = n) (k : Nat) (x : Int) (hx : fits x) :
    KI.Own (w.setCell ⟨g, k, none⟩ (.int .i64 x)) B (.slice (some ⟨g, 0, none⟩) n c) (ys.set k x) ∧ w.grownBy (w.setCell ⟨g, k, none⟩ (.int .i64 x)) (some g) := by
  obtain ⟨h1, h2⟩ := h
  have q := World.ownsRow.stored (n := n) (by rw [hn] at h1; exact h1) k (.int .i64 x)
  refine ⟨⟨?_, fun q hq => ?_⟩, q.2⟩
  · rw [KI.flat_at] at q ⊢
    rw [List.length_set, hn, List.map_set]
    exact q.1
  · rcases List.mem_or_eq_of_mem_set hq with hq | rfl
    · exact h2 q hq
    · exact hx
theorem KI.Own.at {w : World} {B g n c : Nat} {ys : List Int} (h : KI.Own w B (.slice (some ⟨g, 0, none⟩) n c) ys) (hn : ys.length = n) (k : Nat) (hk : k < n) : w.cell? ⟨g, k, none⟩ = some (.int .i64 (ys.getD k 0)) ∧ w.frozen? ⟨g, k, none⟩ = false := by
  obtain ⟨h1, h2⟩ := h
  rw [hn] at h1
  refine ⟨?_, h1.frozenAt k⟩
  have := h1.cellAt k (by show k < n * 1; omega)
  rw [this, KI.flat_at, List.getElem?_map, List.getD_eq_getElem?_getD, List.getElem?_eq_getElem (by omega)]
  rfl
set_option maxRecDepth 100000 in
set_option maxHeartbeats 2000000 in
theorem clone_o (v : Value) (o : List Int) (w : World) (hv : KI.IsL w w.heap.size v o) (hl : o.length ≤ 100000) : Calls Try.prog 60 #[v] w fun e w' => ∃ v', e = .returned v' ∧ KI.Own w' w.heap.size v' o ∧ Below w.heap.size w w' := by
  have HV := Lib.hid hv
  have q : ∀ (w : World) (a : Option Addr) (n c n' c' : Nat), (binOp .eql 22 (.slice a n c) (.slice none n' c')).run Try.prog w = .ok (.bool a.isNone) w := fun w a n c n' c' => Lib.run_eql_slice_nil w _ _ a n c n' c' Try.underlying22
  obtain ⟨A, c, rfl, hc⟩ := hv.shape
  clear hv
  match A with
  | none =>
    have h0 : o.length = 0 := by
      rcases Nat.eq_zero_or_pos o.length with h | h
      · exact h
      · obtain ⟨b, off, e, _⟩ := HV.out.elem h
        cases e
    obtain rfl := List.eq_nil_of_length_eq_zero h0
    clear HV h0 hc
    simp only [List.length_nil]
    go_enter Try.func60, Try.ntmps60
    go_wp2
    go_ret
    exact ⟨_, rfl, Lk.Own.nil _ _, Below.refl _ _⟩
  | some a =>
    go_enter Try.func60, Try.ntmps60
    go_wp2_with (at_builtin; refine Lk.wpList_app (K := KI) _ rfl _ _ rfl rfl w.heap.size w.heap.size _ _ [] o rfl rfl (Lk.Own.made w w.heap.size 0 #[] (Nat.le_refl _) (by unfold maxLen; omega) rfl) (HV.out.below (Below.al (Below.refl _ w) _)) ?c1 ?c2 ?_)
    case c1 => simp; omega
    case c2 => simp
    intro v1 w4 hown hgrow _
    have HB4 := Lib.hid (Lk.Own.grow' (K := KI) (Lk.Own.made w w.heap.size 0 #[] (Nat.le_refl _) (by unfold maxLen; omega) rfl) (Below.al (Below.refl _ w) _) (by simp) hgrow)
    have HO4 := Lib.hid hown
    clear hown hgrow
    go_wp2
    go_ret
    exact ⟨_, rfl, by simpa using HO4.out, HB4.out⟩
theorem hasB_iff (n : Nat) (x : Int) : hasB n x = true ↔ 0 ≤ x ∧ x < n := by unfold hasB; rw [Bool.and_eq_true, decide_eq_true_eq, decide_eq_true_eq]

/-- What a function that is handed on is asked: an answer, and memory as it was. -/
def Tells (P : Program) (w : World) (k : Nat) (cap : Array Value) (xs : List Int) (p : Int → Bool) : Prop :=
  ∀ w', Below w.heap.size w w' → ∀ x ∈ xs, Calls P k (#[.int .i64 x] ++ cap) w' fun e w'' => e = .returned (.bool (p x)) ∧ Below w'.heap.size w' w''
theorem any_hit {p : Int → Bool} {xs : List Int} (k : Nat) (hk : k < xs.length) (h : p (xs.getD k 0) = true) : xs.any p = true := List.any_eq_true.2 ⟨_, getD_mem' xs k 0 hk, h⟩
theorem any_none {p : Int → Bool} {xs : List Int} (h : ∀ j, j < xs.length → p (xs.getD j 0) = false) : xs.any p = false := by
  rw [List.any_eq_false]
  intro x hx
  obtain ⟨j, hj, e⟩ := List.getElem_of_mem hx
  have := h j hj
  rw [List.getD_eq_getElem?_getD, List.getElem?_eq_getElem hj, Option.getD_some, e] at this
  rw [this]
  exact Bool.false_ne_true
set_option maxRecDepth 100000 in
set_option maxHeartbeats 4000000 in
theorem idxf_any (v : Value) (xs : List Int) (k : Nat) (cap : Array Value) (p : Int → Bool) (w : World) (hv : KI.IsL w w.heap.size v xs) (hen : ∀ args w, (callFunc k args).run Try.prog w = .ok (.enter k args) w) (hp : Tells Try.prog w k cap xs p) :
    Calls Try.prog 61 #[v, .func (.func k) #[] cap] w fun e w' => ∃ i : Int, e = .returned (.int .i64 i) ∧ decide (i ≥ 0) = xs.any p ∧ Below w.heap.size w w' := by
  have HV := Lib.hid hv
  have HP := Lib.hid hp
  obtain ⟨⟨A, c, rfl, hc, _⟩, _, hl⟩ := hv
  clear hp
  go_enter Try.func61, Try.ntmps61
  go_wp2
  go_loopw [8] (fun i wr => ∃ k : Nat, i = .int .i64 k ∧ k ≤ xs.length ∧ (∀ j, j < k → p (xs.getD j 0) = false) ∧ Below w.heap.size w wr) (fun i _ => xs.length - (intOf i).toNat)
  case atStart => exact ⟨0, rfl, Nat.zero_le _, fun j hj => absurd hj (Nat.not_lt_zero _), Below.refl _ _⟩
  case round =>
    obtain ⟨i, rfl, hk, hkp, hbl⟩ := hrel
    have HB := Lib.hid hbl
    have HK := Lib.hid hkp
    clear hkp hbl
    by_cases hlt : i < xs.length
    · obtain ⟨b, off, cap', hs, _, hb, _, hcell, _⟩ := KI.cells (HV.out.below HB.out) (by omega)
      simp only [Value.slice.injEq] at hs
      obtain ⟨rfl, _, rfl⟩ := hs
      have e1 := hcell i hlt
      clear hcell
      have HA := Lib.hid (HP.out wr HB.out _ (getD_mem' xs i 0 hlt))
      obtain ⟨x, hx⟩ : ∃ x, xs.getD i 0 = x := ⟨_, rfl⟩
      rw [hx] at HA e1
      have HX := Lib.hid hx
      clear hx
      obtain ⟨q, hq⟩ : ∃ q, p x = q := ⟨_, rfl⟩
      rw [hq] at HA
      have HQ := Lib.hid hq
      clear hq
      have hbw : b < wr.heap.size := Nat.lt_of_lt_of_le hb HB.out.size
      go_wp2_with fail
      refine HA.out.mono ?_
      rintro e w2 ⟨rfl, hb2⟩
      have HB2 := Lib.hid (Below.call HB.out hb2)
      clear hb2 e1
      cases q
      · go_wp2
        go_roundw
        case rel => exact ⟨i + 1, num_i (by omega), by omega, fun j hj => by
          by_cases h : j = i
          · subst h; rw [HX.out]; exact HQ.out
          · exact HK.out j (by omega), HB2.out⟩
        case measure => simp [intOf]; omega
      · go_wp2
        go_ret
        refine ⟨(i : Int), rfl, ?_, HB2.out⟩
        rw [any_hit i hlt (by rw [HX.out]; exact HQ.out)]
        exact decide_eq_true (by omega)
    · go_wp2
      go_ret
      refine ⟨-1, rfl, ?_, HB.out⟩
      rw [any_none fun j hj => HK.out j (by omega)]
      rfl
theorem contf_any (v : Value) (xs : List Int) (k : Nat) (cap : Array Value) (p : Int → Bool) (w : World) (hv : KI.IsL w w.heap.size v xs) (hen : ∀ args w, (callFunc k args).run Try.prog w = .ok (.enter k args) w) (hp : Tells Try.prog w k cap xs p) :
    Calls Try.prog 44 #[v, .func (.func k) #[] cap] w fun e w' => e = .returned (.bool (xs.any p)) ∧ Below w.heap.size w w' := by
  have HF := Lib.hid (idxf_any v xs k cap p w hv hen hp)
  obtain ⟨A, c, rfl, hc⟩ := hv.shape
  clear hv hp
  generalize xs.any p = z at *
  go_enter Try.func44, Try.ntmps44
  go_wp2_with fail
  refine HF.out.mono ?_
  rintro e w2 ⟨i, rfl, hi, hb⟩
  go_wp2
  go_ret
  exact ⟨ret_b (by simp), hb⟩
theorem right_o (v : Value) (o : List Int) (w : World) (hv : KI.IsL w w.heap.size v o) : Calls Try.prog 17 #[v] w fun e w' => e = .returned (.bool (rgO o)) ∧ Below w.heap.size w w' := by
  have e : rgO o = !(o.any whoB) := rfl
  have HF := Lib.hid (contf_any v o 45 #[] whoB w hv (enters_of Try.func45 (by kernel_rfl) rfl) (fun w' _ x _ => (right1_any x w').mono fun _ _ q => ⟨q.1, by rw [← q.2]; exact Below.refl _ _⟩))
  clear hv
  rw [e]
  generalize o.any whoB = z at *
  go_enter Try.func17, Try.ntmps17
  go_wp2_with fail
  refine HF.out.mono ?_
  rintro e w2 ⟨rfl, hb⟩
  go_wp2
  go_ret
  exact ⟨rfl, hb⟩
set_option maxRecDepth 100000 in
set_option maxHeartbeats 4000000 in
theorem idx_any (v : Value) (xs : List Int) (n : Int) (w : World) (hv : KI.IsL w w.heap.size v xs) :
    Calls Try.prog 63 #[v, .int .i64 n] w fun e w' => ∃ i : Int, e = .returned (.int .i64 i) ∧ decide (i ≥ 0) = xs.any (fun x => decide (x = n)) ∧ Below w.heap.size w w' := by
  have HV := Lib.hid hv
  obtain ⟨⟨A, c, rfl, hc, _⟩, _, hl⟩ := hv
  go_enter Try.func63, Try.ntmps63
  go_wp2
  go_loopw [8] (fun i wr => ∃ k : Nat, i = .int .i64 k ∧ k ≤ xs.length ∧ (∀ j, j < k → decide (xs.getD j 0 = n) = false) ∧ w = wr) (fun i _ => xs.length - (intOf i).toNat)
  case atStart => exact ⟨0, rfl, Nat.zero_le _, fun j hj => absurd hj (Nat.not_lt_zero _), rfl⟩
  case round =>
    obtain ⟨i, rfl, hk, hkp, rfl⟩ := hrel
    have HK := Lib.hid hkp
    clear hkp
    by_cases hlt : i < xs.length
    · obtain ⟨b, off, cap', hs, _, hb, _, hcell, _⟩ := KI.cells HV.out (by omega)
      simp only [Value.slice.injEq] at hs
      obtain ⟨rfl, _, rfl⟩ := hs
      have e1 := hcell i hlt
      clear hcell
      obtain ⟨x, hx⟩ : ∃ x, xs.getD i 0 = x := ⟨_, rfl⟩
      rw [hx] at e1
      have HX := Lib.hid hx
      clear hx
      by_cases hxn : n = x
      · have hbq : (n == x) = true := by rw [beq_iff_eq]; exact hxn
        have HN := Lib.hid hxn
        clear hxn
        go_wp2
        go_ret
        refine ⟨(i : Int), rfl, ?_, Below.refl _ _⟩
        rw [any_hit (p := fun x => decide (x = n)) i hlt (by rw [HX.out]; exact decide_eq_true HN.out.symm)]
        exact decide_eq_true (by omega)
      · have hbq : (n == x) = false := by rw [beq_eq_false_iff_ne]; exact hxn
        have HN := Lib.hid hxn
        clear hxn
        go_wp2
        go_roundw
        case rel => exact ⟨i + 1, num_i (by omega), by omega, fun j hj => by
          by_cases h : j = i
          · subst h; rw [HX.out]; exact decide_eq_false fun e => HN.out e.symm
          · exact HK.out j (by omega), by first | rfl | trivial⟩
        case measure => simp [intOf]; omega
    · go_wp2
      go_ret
      refine ⟨-1, rfl, ?_, Below.refl _ _⟩
      rw [any_none (p := fun x => decide (x = n)) fun j hj => HK.out j (by omega)]
      rfl
theorem cont_any (v : Value) (xs : List Int) (n : Int) (w : World) (hv : KI.IsL w w.heap.size v xs) :
    Calls Try.prog 50 #[v, .int .i64 n] w fun e w' => e = .returned (.bool (xs.any (fun x => decide (x = n)))) ∧ Below w.heap.size w w' := by
  have HF := Lib.hid (idx_any v xs n w hv)
  obtain ⟨A, c, rfl, hc⟩ := hv.shape
  clear hv
  generalize xs.any (fun x => decide (x = n)) = z at *
  go_enter Try.func50, Try.ntmps50
  go_wp2_with fail
  refine HF.out.mono ?_
  rintro e w2 ⟨i, rfl, hi, hb⟩
  go_wp2
  go_ret
  exact ⟨ret_b (by simp), hb⟩
end Go.Proofs.Ytbflkdkbfidleaa

/- Mutexes: a new table, taken, given back, held: the program. -/
import Derived.Test.YtbflkdkbfidleaaUA
namespace Go.Proofs.Ytbflkdkbfidleaa
open Go.RowKit
/-- So many zero elements, laid as a list. -/
theorem Lk.flat_made {P : Program} {α : Type} (K : Lk P α) (z0 : α) (hz : K.zero.cells.toList = K.cells z0) (n : Nat) : (madeCells K.zero.cells (n * K.n)).toList = K.flat (List.replicate n z0) := by
  apply List.ext_getElem?
  intro j
  have hs : K.zero.cells.size = K.n := K.zs
  have hp := K.pos
  by_cases hj : j < n * K.n
  · have hq : j / K.n < n := (Nat.div_lt_iff_lt_mul hp).2 hj
    have hr := Nat.mod_lt j hp
    have e : j = j / K.n * K.n + j % K.n := by rw [Nat.mul_comm]; exact (Nat.div_add_mod j K.n).symm
    have hf := K.flat_at (List.replicate n z0) (j / K.n) (j % K.n) (by rw [List.length_replicate]; exact hq) hr
    rw [← e] at hf
    rw [hf, List.getD_eq_getElem?_getD, List.getElem?_replicate, if_pos hq, Option.getD_some, ← hz]
    simp [madeCells, hj, hs]
    have hr' : j % K.n < K.zero.cells.size := by rw [hs]; exact hr
    rw [Array.getElem?_eq_getElem hr', getElem!_pos K.zero.cells (j % K.n) hr']
  · rw [List.getElem?_eq_none (by rw [Array.length_toList, size_madeCells]; omega), List.getElem?_eq_none (by rw [K.flat_len, List.length_replicate]; omega)]
def newO (n : Int) : List Int := if n < 0 ∨ n > 2147483647 then [] else List.replicate n.toNat 0
theorem new_o (n : Int) (w : World) : Calls Try.prog 25 #[.int .i64 n] w fun e w' => ∃ v', e = .returned v' ∧ KI.Own w' w.heap.size v' (newO n) ∧ Below w.heap.size w w' := by
  by_cases h : n < 0
  · rw [show newO n = [] from if_pos (Or.inl h)]
    go_enter Try.func25, Try.ntmps25
    go_wp2
    go_ret
    exact ⟨_, rfl, Lk.Own.nil _ _, Below.refl _ _⟩
  by_cases h2 : n > 2147483647
  · rw [show newO n = [] from if_pos (Or.inr h2)]
    go_enter Try.func25, Try.ntmps25
    go_wp2
    go_ret
    exact ⟨_, rfl, Lk.Own.nil _ _, Below.refl _ _⟩
  rw [show newO n = List.replicate n.toNat 0 from if_neg (by omega)]
  obtain ⟨k, rfl⟩ := Int.eq_ofNat_of_zero_le (show 0 ≤ n by omega)
  rw [show ((k : Int)).toNat = k from rfl]
  obtain ⟨i0, hi, hz0, hz1, _⟩ := info_parts KI.info
  go_enter Try.func25, Try.ntmps25
  go_wp2_with (at_make; refine wpList_make_full _ rfl _ _ 22 rfl w.heap.size 3 i0 (.int .i64 0) 1 Try.underlying22 hi hz0 hz1 _ _ _ _ k rfl rfl rfl rfl ?bytes ?maxLen ?base ?_)
  case bytes => rw [show KI.bytes = 8 from rfl]; omega
  case maxLen => unfold maxLen; omega
  intro w' hown hgrow
  have ho : KI.Own w' w.heap.size (.slice (some ⟨w.heap.size, 0, none⟩) k k) (List.replicate k 0) := by
    refine ⟨?_, fun x hx => ?_⟩
    · have e := Lk.flat_made KI 0 rfl k
      rw [← e, List.length_replicate, show k * KI.n = k from Nat.mul_one k]
      exact hown
    · rw [List.mem_replicate] at hx
      rw [hx.2]
      show fits 0
      decide
  have HB := Lib.hid ((Below.refl w.heap.size w).grown hgrow (Nat.le_refl _) (fun k hk => by cases hk))
  have HO := Lib.hid ho
  clear hown hgrow ho
  go_wp2
  go_ret
  exact ⟨_, rfl, HO.out, HB.out⟩
def ofL (o : List Int) (who : Int) (k : Nat) : List Int := ((List.range k).filter fun i => decide (o.getD i 0 = who)).map Int.ofNat
theorem ofL_snoc (o : List Int) (who : Int) (k : Nat) : ofL o who (k + 1) = ofL o who k ++ (if o.getD k 0 = who then [((k : Nat) : Int)] else []) := by
  unfold ofL
  rw [List.range_succ, List.filter_append, List.map_append]
  by_cases h : o.getD k 0 = who
  · rw [if_pos h, List.filter_cons_of_pos (by simpa using h)]
    rfl
  · rw [if_neg h, List.filter_cons_of_neg (by simpa using h)]
    rfl
theorem ofL_len (o : List Int) (who : Int) (k : Nat) : (ofL o who k).length ≤ k := by
  unfold ofL
  rw [List.length_map]
  exact Nat.le_trans (List.length_filter_le _ _) (by simp)
set_option maxRecDepth 100000 in
set_option maxHeartbeats 4000000 in
theorem of_o (v : Value) (o : List Int) (who : Int) (w : World) (hv : KI.IsL w w.heap.size v o) (hl : o.length ≤ 1000) :
    Calls Try.prog 19 #[v, .int .i64 who] w fun e w' => ∃ v', e = .returned v' ∧ KI.Own w' w.heap.size v' (ofL o who o.length) ∧ Below w.heap.size w w' := by
  have HV := Lib.hid hv
  obtain ⟨A, c, rfl, hc⟩ := hv.shape
  clear hv
  go_enter Try.func19, Try.ntmps19
  go_wp2
  go_loopw [5, 10] (fun u i wr => ∃ k : Nat, k ≤ o.length ∧ i = .int .i64 k ∧ KI.Own wr w.heap.size u (ofL o who k) ∧ Below w.heap.size w wr) (fun _ i _ => o.length - (intOf i).toNat)
  case atStart => exact ⟨0, Nat.zero_le _, rfl, (show KI.Own w w.heap.size (.slice none 0 0) [] from Lk.Own.nil _ _), Below.refl _ _⟩
  case round =>
    obtain ⟨k, hk, rfl, hown, hbl⟩ := hrel
    have HO := Lib.hid hown
    have HB := Lib.hid hbl
    clear hown hbl
    by_cases hlt : k < o.length
    · obtain ⟨b, off, cap', hs, _, hb, hl2, hcell, hf⟩ := KI.cells (HV.out.then HB.out) (by omega)
      simp only [Value.slice.injEq] at hs
      obtain ⟨rfl, _, rfl⟩ := hs
      have e1 := hcell k hlt
      have HS := Lib.hid (ofL_snoc o who k)
      have HL := Lib.hid (ofL_len o who k)
      clear hcell hf
      generalize o.getD k 0 = x at *
      by_cases hx : x = who
      · rw [if_pos hx] at HS
        go_wp2_with (at_builtin; refine Lk.wpList_app (K := KI) _ rfl _ _ rfl rfl w.heap.size (wr.heap.size + 1) _ _ (ofL o who k) [(k : Int)] rfl rfl (HO.out.alloc _) (Lk.IsL.lit (K := KI) _ (k : Int) _ (show fits (k : Int) by unfold fits; omega) rfl wr.heap.size rfl) ?c1 ?c2 ?_)
        case c1 => have := HL.out; simp; omega
        case c2 => have := HB.out.size; simp; omega
        intro v1 w4 hown hgrow _
        have HB4 := Lib.hid (Lk.Own.grow' (HO.out.alloc _) (Below.al HB.out _) (by have := HB.out.size; simp; omega) hgrow)
        have HO4 := Lib.hid hown
        clear hown hgrow
        go_wp2
        go_roundw
        case rel => exact ⟨k + 1, by omega, num_i (by omega), by rw [HS.out]; exact HO4.out, HB4.out⟩
        case measure => simp [intOf]; omega
      · rw [if_neg hx, List.append_nil] at HS
        go_wp2
        go_roundw
        case rel => exact ⟨k + 1, by omega, num_i (by omega), by rw [HS.out]; exact HO.out, HB.out⟩
        case measure => simp [intOf]; omega
    · obtain rfl : k = o.length := by omega
      go_wp2
      go_ret
      exact ⟨_, rfl, HO.out, HB.out⟩
set_option maxRecDepth 100000 in
set_option maxHeartbeats 4000000 in
theorem rright_o (v : Value) (o : List Int) (w : World) (hv : KI.IsL w w.heap.size v o) : Calls Try.prog 18 #[v] w fun e w' => e = .returned (.bool (rgO o)) ∧ Below w.heap.size w w' := by
  have HV := Lib.hid hv
  obtain ⟨A, c, rfl, hc⟩ := hv.shape
  have hl := hv.2.2
  clear hv
  have HR := Lib.hid (fun k (hk : k < o.length) (h : whoB (o.getD k 0) = true) => show rgO o = false by
    unfold rgO
    rw [Bool.not_eq_false', List.any_eq_true]
    exact ⟨_, getD_mem' o k 0 hk, h⟩)
  have HT := Lib.hid (fun (h : ∀ j, j < o.length → whoB (o.getD j 0) = false) => show rgO o = true by
    unfold rgO
    rw [Bool.not_eq_true', List.any_eq_false]
    intro x hx
    obtain ⟨j, hj, e⟩ := List.getElem_of_mem hx
    have := h j hj
    rw [List.getD_eq_getElem?_getD, List.getElem?_eq_getElem hj, Option.getD_some, e] at this
    rw [this]
    exact Bool.false_ne_true)
  generalize rgO o = r at *
  go_enter Try.func18, Try.ntmps18
  go_wp2
  go_loopw [3] (fun i wr => ∃ k : Nat, k ≤ o.length ∧ i = .int .i64 k ∧ (∀ j, j < k → whoB (o.getD j 0) = false) ∧ w = wr) (fun i _ => o.length - (intOf i).toNat)
  case atStart => exact ⟨0, Nat.zero_le _, rfl, fun j hj => absurd hj (Nat.not_lt_zero _), rfl⟩
  case round =>
    obtain ⟨k, hk, rfl, hj, rfl⟩ := hrel
    have HJ := Lib.hid hj
    clear hj
    by_cases hlt : k < o.length
    · obtain ⟨b, off, cap', hs, _, hb, hl2, hcell, hf⟩ := KI.cells HV.out (by omega)
      simp only [Value.slice.injEq] at hs
      obtain ⟨rfl, _, rfl⟩ := hs
      have e1 := hcell k hlt
      have HW := Lib.hid (whoB_iff (o.getD k 0))
      have HRk := Lib.hid (HR.out k hlt)
      obtain ⟨x, hx⟩ : ∃ x, o.getD k 0 = x := ⟨_, rfl⟩
      have HX := Lib.hid hx
      rw [hx] at e1 HW HRk
      clear hcell hf hx
      by_cases h0 : x < 0
      · go_wp2
        go_ret
        exact ⟨by rw [HRk.out (by rw [← Bool.not_eq_false]; intro h; have := HW.out.1 h; omega)]; rfl, Below.refl _ _⟩
      by_cases h8 : 8 < x
      · go_wp2
        go_ret
        exact ⟨by rw [HRk.out (by rw [← Bool.not_eq_false]; intro h; have := HW.out.1 h; omega)]; rfl, Below.refl _ _⟩
      · go_wp2
        go_roundw
        case rel => exact ⟨k + 1, by omega, num_i (by omega), fun j hj => by
          by_cases h : j = k
          · subst h; rw [HX.out]; exact HW.out.2 (by omega)
          · exact HJ.out j (by omega), by first | rfl | trivial⟩
        case measure => simp [intOf]; omega
    · obtain rfl : k = o.length := by omega
      go_wp2
      go_ret
      exact ⟨by rw [HT.out HJ.out]; rfl, Below.refl _ _⟩
set_option maxRecDepth 100000 in
set_option maxHeartbeats 4000000 in
theorem rof_o (v : Value) (o : List Int) (who : Int) (w : World) (hv : KI.IsL w w.heap.size v o) (hl : o.length ≤ 1000) :
    Calls Try.prog 20 #[v, .int .i64 who] w fun e w' => ∃ v', e = .returned v' ∧ KI.Own w' w.heap.size v' (ofL o who o.length) ∧ Below w.heap.size w w' := by
  have HV := Lib.hid hv
  obtain ⟨A, c, rfl, hc⟩ := hv.shape
  clear hv
  go_enter Try.func20, Try.ntmps20
  go_wp2
  go_loopw [5, 6] (fun u i wr => ∃ k : Nat, k ≤ o.length ∧ i = .int .i64 k ∧ KI.Own wr w.heap.size u (ofL o who k) ∧ Below w.heap.size w wr) (fun _ i _ => o.length - (intOf i).toNat)
  case atStart => exact ⟨0, Nat.zero_le _, rfl, (show KI.Own w w.heap.size (.slice none 0 0) [] from Lk.Own.nil _ _), Below.refl _ _⟩
  case round =>
    obtain ⟨k, hk, rfl, hown, hbl⟩ := hrel
    have HO := Lib.hid hown
    have HB := Lib.hid hbl
    clear hown hbl
    by_cases hlt : k < o.length
    · obtain ⟨b, off, cap', hs, _, hb, hl2, hcell, hf⟩ := KI.cells (HV.out.then HB.out) (by omega)
      simp only [Value.slice.injEq] at hs
      obtain ⟨rfl, _, rfl⟩ := hs
      have e1 := hcell k hlt
      have HS := Lib.hid (ofL_snoc o who k)
      have HL := Lib.hid (ofL_len o who k)
      clear hcell hf
      generalize o.getD k 0 = x at *
      by_cases hx : x = who
      · rw [if_pos hx] at HS
        go_wp2_with (at_builtin; refine Lk.wpList_app (K := KI) _ rfl _ _ rfl rfl w.heap.size (wr.heap.size + 1) _ _ (ofL o who k) [(k : Int)] rfl rfl (HO.out.alloc _) (Lk.IsL.lit (K := KI) _ (k : Int) _ (show fits (k : Int) by unfold fits; omega) rfl wr.heap.size rfl) ?c1 ?c2 ?_)
        case c1 => have := HL.out; simp; omega
        case c2 => have := HB.out.size; simp; omega
        intro v1 w4 hown hgrow _
        have HB4 := Lib.hid (Lk.Own.grow' (HO.out.alloc _) (Below.al HB.out _) (by have := HB.out.size; simp; omega) hgrow)
        have HO4 := Lib.hid hown
        clear hown hgrow
        go_wp2
        go_roundw
        case rel => exact ⟨k + 1, by omega, num_i (by omega), by rw [HS.out]; exact HO4.out, HB4.out⟩
        case measure => simp [intOf]; omega
      · rw [if_neg hx, List.append_nil] at HS
        go_wp2
        go_roundw
        case rel => exact ⟨k + 1, by omega, num_i (by omega), by rw [HS.out]; exact HO.out, HB.out⟩
        case measure => simp [intOf]; omega
    · obtain rfl : k = o.length := by omega
      go_wp2
      go_ret
      exact ⟨_, rfl, HO.out, HB.out⟩

/-- What is wrong with what is asked of a table. -/
def rfE (t : List Int) (id who : Int) : Int := if rgO t && armO who then if hasB t.length id then 0 else 3 else 1
theorem rfE_cases (t : List Int) (id who : Int) : rfE t id who = 0 ∨ rfE t id who = 1 ∨ rfE t id who = 3 := by
  unfold rfE
  split
  · split <;> simp
  · simp
theorem rfE_ok {t : List Int} {id who : Int} (h : rfE t id who = 0) : (0 ≤ id ∧ id < t.length) ∧ (1 ≤ who ∧ who ≤ 8) ∧ rgO t = true := by
  unfold rfE at h
  split at h
  · rename_i h1
    rw [Bool.and_eq_true] at h1
    split at h
    · rename_i h2
      refine ⟨(hasB_iff _ _).1 h2, ?_, h1.1⟩
      have := h1.2
      unfold armO at this
      rw [Bool.and_eq_true, decide_eq_true_eq, decide_eq_true_eq] at this
      exact this
    · omega
  · omega
set_option maxRecDepth 100000 in
set_option maxHeartbeats 4000000 in
theorem refused_any (v : Value) (t : List Int) (id who : Int) (w : World) (hv : KI.IsL w w.heap.size v t) :
    Calls Try.prog 40 #[v, .int .i64 id, .int .i64 who] w fun e w' => e = .returned (.int .i64 (rfE t id who)) ∧ Below w.heap.size w w' := by
  have HV := Lib.hid hv
  obtain ⟨A, c, rfl, hc⟩ := hv.shape
  have hE : rfE t id who = if rgO t && armO who then if hasB t.length id then 0 else 3 else 1 := rfl
  rw [hE]
  have HR := Lib.hid (fun w => right_o (.slice A t.length c) t w)
  have HA := Lib.hid (fun w => armO_any who w)
  have HH := Lib.hid (fun w => has_o A t.length c id w)
  clear hE hv
  generalize rgO t = r at *
  generalize armO who = a at *
  generalize hasB t.length id = h at *
  cases r
  · simp only [Bool.false_and, Bool.false_eq_true, if_false]
    go_enter Try.func40, Try.ntmps40
    go_wp2_with fail
    refine (HR.out _ HV.out).mono ?_
    rintro e w1 ⟨rfl, hb1⟩
    go_wp2
    go_ret
    exact ⟨rfl, hb1⟩
  cases a
  · simp only [Bool.and_false, Bool.false_eq_true, if_false]
    go_enter Try.func40, Try.ntmps40
    go_wp2_with fail
    refine (HR.out _ HV.out).mono ?_
    rintro e w1 ⟨rfl, hb1⟩
    go_wp2_with fail
    refine (HA.out _).mono ?_
    rintro e w1 ⟨rfl, rfl⟩
    go_wp2
    go_ret
    exact ⟨rfl, hb1⟩
  cases h
  all_goals
    simp only [Bool.and_self, Bool.false_eq_true, if_false, if_true]
    go_enter Try.func40, Try.ntmps40
    go_wp2_with fail
    refine (HR.out _ HV.out).mono ?_
    rintro e w1 ⟨rfl, hb1⟩
    go_wp2_with fail
    refine (HA.out _).mono ?_
    rintro e w1 ⟨rfl, rfl⟩
    go_wp2_with fail
    refine (HH.out _).mono ?_
    rintro e w1 ⟨rfl, rfl⟩
    go_wp2
    go_ret
    exact ⟨rfl, hb1⟩
set_option maxRecDepth 100000 in
set_option maxHeartbeats 4000000 in
theorem with_any (v : Value) (t : List Int) (j : Nat) (who : Int) (hw : fits who) (w : World) (hv : KI.IsL w w.heap.size v t) (hl : t.length ≤ 100000) (hj : j < t.length) :
    Calls Try.prog 41 #[v, .int .i64 j, .int .i64 who] w fun e w' => ∃ v', e = .returned v' ∧ KI.Own w' w.heap.size v' (t.set j who) ∧ Below w.heap.size w w' := by
  have HC := Lib.hid (clone_o v t w hv hl)
  obtain ⟨A, c, rfl, hc⟩ := hv.shape
  clear hv
  go_enter Try.func41, Try.ntmps41
  go_wp2_with fail
  refine HC.out.mono ?_
  rintro e w1 ⟨v1, rfl, ho, hb⟩
  obtain ⟨g, cp, rfl, hg1, hg2, hg3⟩ := ho.shape (by omega)
  obtain ⟨f1, f2⟩ := KI.Own.at ho rfl j hj
  have HP := Lib.hid (KI.Own.put ho rfl j who hw)
  have HB := Lib.hid hb
  clear ho hb
  generalize t.getD j 0 = old at *
  have HL := Lib.hid (show (t.set j who).length = t.length from List.length_set ..)
  go_wp2
  go_ret
  exact ⟨_, rfl, HP.out.1, HB.out.setCell hg1 _⟩
def lkE (t : List Int) (id who : Int) : Int := if rfE t id who = 0 then if t.getD id.toNat 0 = 0 then 0 else if t.getD id.toNat 0 = who then 171 else 170 else rfE t id who
def lkL (t : List Int) (id who : Int) : List Int := if lkE t id who = 0 then t.set id.toNat who else []
def ulE (t : List Int) (id who : Int) : Int := if rfE t id who = 0 then if t.getD id.toNat 0 = who then 0 else 172 else rfE t id who
def ulL (t : List Int) (id who : Int) : List Int := if ulE t id who = 0 then t.set id.toNat 0 else []
set_option maxRecDepth 100000 in
set_option maxHeartbeats 4000000 in
theorem lock_any (v : Value) (t : List Int) (id who : Int) (hwf : fits who) (w : World) (hv : KI.IsL w w.heap.size v t) (hl : t.length ≤ 100000) :
    Calls Try.prog 12 #[v, .int .i64 id, .int .i64 who] w fun e w' => ∃ v', e = .returned (.tuple #[v', .int .i64 (lkE t id who)]) ∧ KI.Own w' w.heap.size v' (lkL t id who) ∧ Below w.heap.size w w' := by
  have HV := Lib.hid hv
  have HR := Lib.hid (refused_any v t id who w hv)
  have HC := Lib.hid (rfE_cases t id who)
  have HO := Lib.hid (fun h => rfE_ok (t := t) (id := id) (who := who) h)
  have hE : lkE t id who = if rfE t id who = 0 then if t.getD id.toNat 0 = 0 then 0 else if t.getD id.toNat 0 = who then 171 else 170 else rfE t id who := rfl
  have hL : lkL t id who = if lkE t id who = 0 then t.set id.toNat who else [] := rfl
  rw [hL, hE]
  clear hE hL
  generalize rfE t id who = r at *
  obtain ⟨A, c, rfl, hc⟩ := hv.shape
  clear hv
  by_cases h0 : r = 0
  · subst h0
    obtain ⟨⟨hi0, hi1⟩, ⟨hw1, hw2⟩, _⟩ := HO.out rfl
    obtain ⟨j, rfl⟩ := Int.eq_ofNat_of_zero_le hi0
    rw [show ((j : Int)).toNat = j from rfl]
    have hj : j < t.length := by omega
    have HW := Lib.hid (fun w1 h => with_any (.slice A t.length c) t j who hwf w1 h hl hj)
    obtain ⟨b, off, cap', hs, _, hb, _, hcell, _⟩ := KI.cells HV.out (by omega)
    simp only [Value.slice.injEq] at hs
    obtain ⟨rfl, _, rfl⟩ := hs
    have e1 := hcell j hj
    clear hcell hc HC HO
    generalize t.getD j 0 = x at *
    by_cases hx0 : x = 0
    · subst hx0
      simp only [if_true]
      go_enter Try.func12, Try.ntmps12
      go_wp2_with fail
      refine HR.out.mono ?_
      rintro e w1 ⟨rfl, hb1⟩
      have HB1 := Lib.hid hb1
      have e1 := keep_cell hb1 e1
      clear hb1
      go_wp2_with fail
      refine (HW.out _ (HV.out.then HB1.out)).mono ?_
      rintro e w2 ⟨v2, rfl, ho2, hb2⟩
      go_wp2
      go_ret2
      exact ⟨_, rfl, ho2.mono HB1.out.size, Below.call HB1.out hb2⟩
    by_cases hxw : x = who
    · subst hxw
      simp only [hx0, if_false, if_true, Int.reduceEq]
      go_enter Try.func12, Try.ntmps12
      go_wp2_with fail
      refine HR.out.mono ?_
      rintro e w1 ⟨rfl, hb1⟩
      have HB1 := Lib.hid hb1
      have e1 := keep_cell hb1 e1
      clear hb1
      go_wp2
      go_ret2
      exact ⟨_, rfl, Lk.Own.nil _ _, HB1.out⟩
    · simp only [hx0, hxw, if_false, reduceIte, Int.reduceEq]
      go_enter Try.func12, Try.ntmps12
      go_wp2_with fail
      refine HR.out.mono ?_
      rintro e w1 ⟨rfl, hb1⟩
      have HB1 := Lib.hid hb1
      have e1 := keep_cell hb1 e1
      clear hb1
      go_wp2
      go_ret2
      exact ⟨_, rfl, Lk.Own.nil _ _, HB1.out⟩
  · have hr : r = 1 ∨ r = 3 := by have := HC.out; omega
    clear HO HC h0
    rcases hr with rfl | rfl
    all_goals
      simp only [if_false, Int.reduceEq]
      go_enter Try.func12, Try.ntmps12
      go_wp2_with fail
      refine HR.out.mono ?_
      rintro e w1 ⟨rfl, hb1⟩
      go_wp2
      go_ret2
      exact ⟨_, rfl, Lk.Own.nil _ _, hb1⟩
set_option maxRecDepth 100000 in
set_option maxHeartbeats 4000000 in
theorem unlock_any (v : Value) (t : List Int) (id who : Int) (hwf : fits who) (w : World) (hv : KI.IsL w w.heap.size v t) (hl : t.length ≤ 100000) :
    Calls Try.prog 13 #[v, .int .i64 id, .int .i64 who] w fun e w' => ∃ v', e = .returned (.tuple #[v', .int .i64 (ulE t id who)]) ∧ KI.Own w' w.heap.size v' (ulL t id who) ∧ Below w.heap.size w w' := by
  have HV := Lib.hid hv
  have HR := Lib.hid (refused_any v t id who w hv)
  have HC := Lib.hid (rfE_cases t id who)
  have HO := Lib.hid (fun h => rfE_ok (t := t) (id := id) (who := who) h)
  have hE : ulE t id who = if rfE t id who = 0 then if t.getD id.toNat 0 = who then 0 else 172 else rfE t id who := rfl
  have hL : ulL t id who = if ulE t id who = 0 then t.set id.toNat 0 else [] := rfl
  rw [hL, hE]
  clear hE hL
  generalize rfE t id who = r at *
  obtain ⟨A, c, rfl, hc⟩ := hv.shape
  clear hv
  by_cases h0 : r = 0
  · subst h0
    obtain ⟨⟨hi0, hi1⟩, ⟨hw1, hw2⟩, _⟩ := HO.out rfl
    obtain ⟨j, rfl⟩ := Int.eq_ofNat_of_zero_le hi0
    rw [show ((j : Int)).toNat = j from rfl]
    have hj : j < t.length := by omega
    have HW := Lib.hid (fun w1 h => with_any (.slice A t.length c) t j 0 (by decide) w1 h hl hj)
    obtain ⟨b, off, cap', hs, _, hb, _, hcell, _⟩ := KI.cells HV.out (by omega)
    simp only [Value.slice.injEq] at hs
    obtain ⟨rfl, _, rfl⟩ := hs
    have e1 := hcell j hj
    clear hcell hc HC HO
    generalize t.getD j 0 = x at *
    by_cases hxw : x = who
    · subst hxw
      simp only [if_true]
      go_enter Try.func13, Try.ntmps13
      go_wp2_with fail
      refine HR.out.mono ?_
      rintro e w1 ⟨rfl, hb1⟩
      have HB1 := Lib.hid hb1
      have e1 := keep_cell hb1 e1
      clear hb1
      go_wp2_with fail
      refine (HW.out _ (HV.out.then HB1.out)).mono ?_
      rintro e w2 ⟨v2, rfl, ho2, hb2⟩
      go_wp2
      go_ret2
      exact ⟨_, rfl, ho2.mono HB1.out.size, Below.call HB1.out hb2⟩
    · simp only [hxw, if_false, if_true, Int.reduceEq]
      go_enter Try.func13, Try.ntmps13
      go_wp2_with fail
      refine HR.out.mono ?_
      rintro e w1 ⟨rfl, hb1⟩
      have HB1 := Lib.hid hb1
      have e1 := keep_cell hb1 e1
      clear hb1
      go_wp2
      go_ret2
      exact ⟨_, rfl, Lk.Own.nil _ _, HB1.out⟩
  · have hr : r = 1 ∨ r = 3 := by have := HC.out; omega
    clear HO HC h0
    rcases hr with rfl | rfl
    all_goals
      simp only [if_false, Int.reduceEq]
      go_enter Try.func13, Try.ntmps13
      go_wp2_with fail
      refine HR.out.mono ?_
      rintro e w1 ⟨rfl, hb1⟩
      go_wp2
      go_ret2
      exact ⟨_, rfl, Lk.Own.nil _ _, hb1⟩
end Go.Proofs.Ytbflkdkbfidleaa

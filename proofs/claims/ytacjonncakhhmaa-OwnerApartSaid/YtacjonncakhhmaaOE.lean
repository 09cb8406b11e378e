/- Owners: what is taken, given, owned, lacked, as the program tells it. -/
import Derived.Test.YtacjonncakhhmaaOD
namespace Go.Proofs.Ytacjonncakhhmaa
open Go.RowKit
def takeQ (who x : Int) : Bool := decide (x = 0) || decide (x = who)
def giveQ (who x : Int) : Bool := decide (x = who)
theorem take_o (v u : Value) (o ids : List Int) (who : Int) (hw : fits who) (w : World) (hv : KI.IsL w w.heap.size v o) (hu : KI.IsL w w.heap.size u ids) (hl : o.length ≤ 1000) :
    Calls Try.prog 28 #[v, u, .int .i64 who] w fun e w' => ∃ v', e = .returned (.tuple #[v', .int .i64 (psI o ids who (takeQ who)), .int .i64 (psE o ids who (takeQ who) 140)]) ∧ KI.Own w' w.heap.size v' (psL o ids who (takeQ who) who) ∧ Below w.heap.size w w' := by
  obtain ⟨w0, hw0⟩ : ∃ w0, w0 = w.alloc (.cells #[.int .i64 who] 3) := ⟨_, rfl⟩
  have c0 : w0.cell? ⟨w.heap.size, 0, none⟩ = some (.int .i64 who) := by rw [hw0]; simp [go_sem]
  have hb0 : Below w.heap.size w w0 := by rw [hw0]; exact Below.al (Below.refl _ _) _
  have HB0 := Lib.hid hb0
  have hmf : ∀ (fn : Fn) (first cap : Array Value) (w : World), (Instr.makeFunc fn first cap).run Try.prog w = .ok (.func fn first cap) w := fun _ _ _ _ => rfl
  have hv0 := hv.then hb0
  have HP := Lib.hid (pass_any v u o ids who 68 #[.pointer (some ⟨w.heap.size, 0, none⟩)] (takeQ who) 140 who w0 hv0 (hu.then hb0) hl hw (fun w' x b1 b0 h1 h0 hb hx hx2 => pass2_take x _ who b1 b0 w.heap.size v o w' h1 (keep_cell hb c0) h0 (hv0.then hb) hx hx2 rfl))
  clear hv0 hv hu hb0 hw
  generalize psI o ids who (takeQ who) = y at *
  generalize psE o ids who (takeQ who) 140 = z at *
  generalize psL o ids who (takeQ who) who = l at *
  go_enter Try.func28, Try.ntmps28
  go_wp2_with fail
  rw [← hw0]
  clear hw0
  refine HP.out.mono ?_
  rintro e w1 ⟨v', rfl, ho, hb⟩
  go_wp2
  go_ret3
  exact ⟨_, rfl, ho.mono HB0.out.size, Below.call HB0.out hb⟩
theorem give_o (v u : Value) (o ids : List Int) (who : Int) (w : World) (hv : KI.IsL w w.heap.size v o) (hu : KI.IsL w w.heap.size u ids) (hl : o.length ≤ 1000) :
    Calls Try.prog 33 #[v, u, .int .i64 who] w fun e w' => ∃ v', e = .returned (.tuple #[v', .int .i64 (psI o ids who (giveQ who)), .int .i64 (psE o ids who (giveQ who) 141)]) ∧ KI.Own w' w.heap.size v' (psL o ids who (giveQ who) 0) ∧ Below w.heap.size w w' := by
  obtain ⟨w0, hw0⟩ : ∃ w0, w0 = w.alloc (.cells #[.int .i64 who] 3) := ⟨_, rfl⟩
  have c0 : w0.cell? ⟨w.heap.size, 0, none⟩ = some (.int .i64 who) := by rw [hw0]; simp [go_sem]
  have hb0 : Below w.heap.size w w0 := by rw [hw0]; exact Below.al (Below.refl _ _) _
  have HB0 := Lib.hid hb0
  have hmf : ∀ (fn : Fn) (first cap : Array Value) (w : World), (Instr.makeFunc fn first cap).run Try.prog w = .ok (.func fn first cap) w := fun _ _ _ _ => rfl
  have hv0 := hv.then hb0
  have HP := Lib.hid (pass_any v u o ids who 75 #[.pointer (some ⟨w.heap.size, 0, none⟩)] (giveQ who) 141 0 w0 hv0 (hu.then hb0) hl (by decide) (fun w' x b1 b0 h1 h0 hb hx hx2 => pass2_give x _ who b1 b0 w.heap.size v o w' h1 (keep_cell hb c0) h0 (hv0.then hb) hx hx2 rfl))
  clear hv0 hv hu hb0
  generalize psI o ids who (giveQ who) = y at *
  generalize psE o ids who (giveQ who) 141 = z at *
  generalize psL o ids who (giveQ who) 0 = l at *
  go_enter Try.func33, Try.ntmps33
  go_wp2_with fail
  rw [← hw0]
  clear hw0
  refine HP.out.mono ?_
  rintro e w1 ⟨v', rfl, ho, hb⟩
  go_wp2
  go_ret3
  exact ⟨_, rfl, ho.mono HB0.out.size, Below.call HB0.out hb⟩
theorem lacks_o (v u : Value) (o ids : List Int) (who : Int) (w : World) (hv : KI.IsL w w.heap.size v o) (hu : KI.IsL w w.heap.size u ids) :
    Calls Try.prog 35 #[v, u, .int .i64 who] w fun e w' => e = .returned (fsV (fstN (lkB o who) ids)) ∧ Below w.heap.size w w' := by
  obtain ⟨w0, hw0⟩ : ∃ w0, w0 = (w.alloc (.cells #[v] 56)).alloc (.cells #[.int .i64 who] 3) := ⟨_, rfl⟩
  have c0 : w0.cell? ⟨w.heap.size, 0, none⟩ = some v := by rw [hw0]; simp [go_sem]
  have c1 : w0.cell? ⟨w.heap.size + 1, 0, none⟩ = some (.int .i64 who) := by rw [hw0]; simp [go_sem]
  have hb0 : Below w.heap.size w w0 := by rw [hw0]; exact Below.al (Below.al (Below.refl _ _) _) _
  have HB0 := Lib.hid hb0
  have hmf : ∀ (fn : Fn) (first cap : Array Value) (w : World), (Instr.makeFunc fn first cap).run Try.prog w = .ok (.func fn first cap) w := fun _ _ _ _ => rfl
  have hv0 := hv.then hb0
  have HP := Lib.hid (first_any u ids 76 #[.pointer (some ⟨w.heap.size, 0, none⟩), .pointer (some ⟨w.heap.size + 1, 0, none⟩)] (lkB o who) w0 (hu.then hb0) (enters_of Try.func76 (by kernel_rfl) rfl) (fun w' hb x _ => lacks1_any x who w.heap.size (w.heap.size + 1) v o w' (keep_cell hb c1) (keep_cell hb c0) (hv0.then hb)))
  obtain ⟨A, c, rfl, hc⟩ := hv.shape
  clear hv0 hv hu hb0
  generalize fstN (lkB o who) ids = y at *
  obtain ⟨y1, y2⟩ := y
  go_enter Try.func35, Try.ntmps35
  go_wp2_with fail
  rw [← hw0]
  clear hw0
  refine HP.out.mono ?_
  rintro e w1 ⟨rfl, hb⟩
  go_wp2
  go_ret2
  exact ⟨rfl, Below.call HB0.out hb⟩
/-- So many zero elements, laid as a list. -/
theorem Lk.flat_made {P : Program} {α : Type} (K : Lk P α) (z0 : α) (hz : K.zero.cells.toList = K.cells z0) (n : Nat) : (madeCells K.zero.cells (n * K.n)).toList = K.flat (List.replicate n z0) := by
  apply List.ext_getElem?
  intro j
  have hs : K.zero.cells.size = K.n := K.zs
  have hp := K.pos
  by_cases hj : j < n * K.n
  · have hq : j / K.n < n := (Nat.div_lt_iff_lt_mul hp).2 hj
    have hr := Nat.mod_lt j hp
    have e : j = j / K.n * K.n + j % K.n := by rw [Nat.mul_comm]; exact (Nat.div_add_mod j K.n).symm
    have hf := K.flat_at (List.replicate n z0) (j / K.n) (j % K.n) (by rw [List.length_replicate]; exact hq) hr
    rw [← e] at hf
    rw [hf, List.getD_eq_getElem?_getD, List.getElem?_replicate, if_pos hq, Option.getD_some, ← hz]
    simp [madeCells, hj, hs]
    have hr' : j % K.n < K.zero.cells.size := by rw [hs]; exact hr
    rw [Array.getElem?_eq_getElem hr', getElem!_pos K.zero.cells (j % K.n) hr']
  · rw [List.getElem?_eq_none (by rw [Array.length_toList, size_madeCells]; omega), List.getElem?_eq_none (by rw [K.flat_len, List.length_replicate]; omega)]
def newO (n : Int) : List Int := if n < 0 ∨ n > 2147483647 then [] else List.replicate n.toNat 0
theorem new_o (n : Int) (w : World) : Calls Try.prog 39 #[.int .i64 n] w fun e w' => ∃ v', e = .returned v' ∧ KI.Own w' w.heap.size v' (newO n) ∧ Below w.heap.size w w' := by
  by_cases h : n < 0
  · rw [show newO n = [] from if_pos (Or.inl h)]
    go_enter Try.func39, Try.ntmps39
    go_wp2
    go_ret
    exact ⟨_, rfl, Lk.Own.nil _ _, Below.refl _ _⟩
  by_cases h2 : n > 2147483647
  · rw [show newO n = [] from if_pos (Or.inr h2)]
    go_enter Try.func39, Try.ntmps39
    go_wp2
    go_ret
    exact ⟨_, rfl, Lk.Own.nil _ _, Below.refl _ _⟩
  rw [show newO n = List.replicate n.toNat 0 from if_neg (by omega)]
  obtain ⟨k, rfl⟩ := Int.eq_ofNat_of_zero_le (show 0 ≤ n by omega)
  rw [show ((k : Int)).toNat = k from rfl]
  obtain ⟨i0, hi, hz0, hz1, _⟩ := info_parts KI.info
  go_enter Try.func39, Try.ntmps39
  go_wp2_with (at_make; refine wpList_make_full _ rfl _ _ 56 rfl w.heap.size 3 i0 (.int .i64 0) 1 Try.underlying56 hi hz0 hz1 _ _ _ _ k rfl rfl rfl rfl ?bytes ?maxLen ?base ?_)
  case bytes => rw [show KI.bytes = 8 from rfl]; omega
  case maxLen => unfold maxLen; omega
  intro w' hown hgrow
  have ho : KI.Own w' w.heap.size (.slice (some ⟨w.heap.size, 0, none⟩) k k) (List.replicate k 0) := by
    refine ⟨?_, fun x hx => ?_⟩
    · have e := Lk.flat_made KI 0 rfl k
      rw [← e, List.length_replicate, show k * KI.n = k from Nat.mul_one k]
      exact hown
    · rw [List.mem_replicate] at hx
      rw [hx.2]
      show fits 0
      decide
  have HB := Lib.hid ((Below.refl w.heap.size w).grown hgrow (Nat.le_refl _) (fun k hk => by cases hk))
  have HO := Lib.hid ho
  clear hown hgrow ho
  go_wp2
  go_ret
  exact ⟨_, rfl, HO.out, HB.out⟩
def ofL (o : List Int) (who : Int) (k : Nat) : List Int := ((List.range k).filter fun i => decide (o.getD i 0 = who)).map Int.ofNat
theorem ofL_snoc (o : List Int) (who : Int) (k : Nat) : ofL o who (k + 1) = ofL o who k ++ (if o.getD k 0 = who then [((k : Nat) : Int)] else []) := by
  unfold ofL
  rw [List.range_succ, List.filter_append, List.map_append]
  by_cases h : o.getD k 0 = who
  · rw [if_pos h, List.filter_cons_of_pos (by simpa using h)]
    rfl
  · rw [if_neg h, List.filter_cons_of_neg (by simpa using h)]
    rfl
theorem ofL_len (o : List Int) (who : Int) (k : Nat) : (ofL o who k).length ≤ k := by
  unfold ofL
  rw [List.length_map]
  exact Nat.le_trans (List.length_filter_le _ _) (by simp)
set_option maxRecDepth 100000 in
set_option maxHeartbeats 4000000 in
theorem of_o (v : Value) (o : List Int) (who : Int) (w : World) (hv : KI.IsL w w.heap.size v o) (hl : o.length ≤ 1000) :
    Calls Try.prog 37 #[v, .int .i64 who] w fun e w' => ∃ v', e = .returned v' ∧ KI.Own w' w.heap.size v' (ofL o who o.length) ∧ Below w.heap.size w w' := by
  have HV := Lib.hid hv
  obtain ⟨A, c, rfl, hc⟩ := hv.shape
  clear hv
  go_enter Try.func37, Try.ntmps37
  go_wp2
  go_loopw [5, 10] (fun u i wr => ∃ k : Nat, k ≤ o.length ∧ i = .int .i64 k ∧ KI.Own wr w.heap.size u (ofL o who k) ∧ Below w.heap.size w wr) (fun _ i _ => o.length - (intOf i).toNat)
  case atStart => exact ⟨0, Nat.zero_le _, rfl, (show KI.Own w w.heap.size (.slice none 0 0) [] from Lk.Own.nil _ _), Below.refl _ _⟩
  case round =>
    obtain ⟨k, hk, rfl, hown, hbl⟩ := hrel
    have HO := Lib.hid hown
    have HB := Lib.hid hbl
    clear hown hbl
    by_cases hlt : k < o.length
    · obtain ⟨b, off, cap', hs, _, hb, hl2, hcell, hf⟩ := KI.cells (HV.out.then HB.out) (by omega)
      simp only [Value.slice.injEq] at hs
      obtain ⟨rfl, _, rfl⟩ := hs
      have e1 := hcell k hlt
      have HS := Lib.hid (ofL_snoc o who k)
      have HL := Lib.hid (ofL_len o who k)
      clear hcell hf
      generalize o.getD k 0 = x at *
      by_cases hx : x = who
      · rw [if_pos hx] at HS
        go_wp2_with (at_builtin; refine Lk.wpList_app (K := KI) _ rfl _ _ rfl rfl w.heap.size (wr.heap.size + 1) _ _ (ofL o who k) [(k : Int)] rfl rfl (HO.out.alloc _) (Lk.IsL.lit (K := KI) _ (k : Int) _ (show fits (k : Int) by unfold fits; omega) rfl wr.heap.size rfl) ?c1 ?c2 ?_)
        case c1 => have := HL.out; simp; omega
        case c2 => have := HB.out.size; simp; omega
        intro v1 w4 hown hgrow _
        have HB4 := Lib.hid (Lk.Own.grow' (HO.out.alloc _) (Below.al HB.out _) (by have := HB.out.size; simp; omega) hgrow)
        have HO4 := Lib.hid hown
        clear hown hgrow
        go_wp2
        go_roundw
        case rel => exact ⟨k + 1, by omega, num_i (by omega), by rw [HS.out]; exact HO4.out, HB4.out⟩
        case measure => simp [intOf]; omega
      · rw [if_neg hx, List.append_nil] at HS
        go_wp2
        go_roundw
        case rel => exact ⟨k + 1, by omega, num_i (by omega), by rw [HS.out]; exact HO.out, HB.out⟩
        case measure => simp [intOf]; omega
    · obtain rfl : k = o.length := by omega
      go_wp2
      go_ret
      exact ⟨_, rfl, HO.out, HB.out⟩
end Go.Proofs.Ytacjonncakhhmaa

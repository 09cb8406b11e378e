/- Stocks, with no program in it: what a deck holds at first, and which ids are of wells and of tips. -/
import Derived.Test.YtacjonncakhhmaaPb18
import Derived.Test.YtacjonncakhhmaaPb14
namespace Go.Proofs.Ytacjonncakhhmaa
open Go.RowKit
/-- A part as it may be. -/
def okP (p : Q4) : Prop := (p.a = 1 ∨ p.a = 2 ∨ p.a = 3) ∧ 0 ≤ p.b ∧ p.b ≤ 23 ∧ 0 ≤ p.c ∧ p.c ≤ 31 ∧ 0 ≤ p.d ∧ p.d ≤ 47 ∧ (p.a = 3 → p.c = 0 ∧ p.d = 0)
theorem unit_okP (u : Q4) (hu : okU u) (hl : u.a = 3 → u.c = 1 ∧ u.d = 1) : ∀ p ∈ unitParts u, okP p := by
 obtain ⟨o1, o2, o3, o4, o5, o6, o7⟩ := okU_pos hu
 obtain ⟨s1, s2, s3, s4⟩ := size_of hu.2.2.2
 intro p hp
 unfold unitParts at hp
 obtain ⟨i, hi, rfl⟩ := List.mem_map.1 hp
 have hi := List.mem_range.1 hi
 have a1 : i / u.d.toNat < u.c.toNat := (Nat.div_lt_iff_lt_mul (by omega)).2 hi
 have a2 : i % u.d.toNat < u.d.toNat := Nat.mod_lt _ (by omega)
 unfold unitF
 generalize i / u.d.toNat = r at *
 generalize i % u.d.toNat = c at *
 refine ⟨hu.1, hu.2.1, hu.2.2.1, show (0 : Int) ≤ (r : Int) by omega, show (r : Int) ≤ 31 by omega, show (0 : Int) ≤ (c : Int) by omega, show (c : Int) ≤ 47 by omega, fun h => ?_⟩
 obtain ⟨h1, h2⟩ := hl h
 exact ⟨show (r : Int) = 0 by omega, show (c : Int) = 0 by omega⟩
theorem units_lane (d : Dk) : ∀ u ∈ unitsL d, u.a = 3 → u.c = 1 ∧ u.d = 1 := by
 intro u hu h
 unfold unitsL at hu
 rcases List.mem_append.1 hu with hu | hu
 ·rcases List.mem_append.1 hu with hu | hu
  ·obtain ⟨i, hi, rfl⟩ := List.mem_map.1 hu
   exact absurd h (show ¬ (1 : Int) = 3 by decide)
  ·obtain ⟨i, hi, rfl⟩ := List.mem_map.1 hu
   exact absurd h (show ¬ (2 : Int) = 3 by decide)
 ·obtain ⟨i, hi, rfl⟩ := List.mem_map.1 hu
  exact ⟨rfl, rfl⟩
theorem parts_okP (d : Dk) : ∀ p ∈ partsK d, okP p := by
 intro p hp
 unfold partsK at hp
 by_cases hz : dchk d = 0
 ·rw [if_pos hz] at hp
  unfold partsL partsU at hp
  obtain ⟨u, hu, hp⟩ := List.mem_flatMap.1 hp
  exact unit_okP u (units_ok d (dchk_ok d hz) u hu) (units_lane d u hu) p hp
 ·rw [if_neg hz] at hp
  simp at hp
theorem parts_len (d : Dk) : (partsK d).length ≤ 49152 := by
 unfold partsK
 by_cases hz : dchk d = 0
 ·rw [if_pos hz]
  have h := partsU_len _ (units_ok d (dchk_ok d hz))
  have h2 := units_len d (dchk_ok d hz)
  unfold partsL
  omega
 ·rw [if_neg hz]; simp
theorem cntK_nil (k : Int) : cntK k [] = 0 := rfl
theorem cnt_U (k : Int) (f : Nat → Q4) (n : Nat) (j : Int) (hj : ∀ i, (f i).a = j) : cntK k (partsU ((List.range n).map f)) = if j = k then (((List.range n).map fun i => (unitN (f i) : Int)).sum) else 0 := by
 induction n with
 | zero => simp [partsU, cntK_nil]
 | succ n ih =>
  rw [map_snoc, partsU_snoc, cnt_append, ih, cnt_unit, hj n, map_snoc, List.sum_append]
  by_cases h : j = k
  ·rw [if_pos h, if_pos h, if_pos h]; simp
  ·rw [if_neg h, if_neg h, if_neg h]; rfl
theorem sum_plates (l : List Pl) (h : ∀ i, i < l.length → okU (plateU l i)) : ∀ n, n ≤ l.length → ((List.range n).map fun i => (unitN (plateU l i) : Int)).sum = wellsV (l.take n) := by
 intro n
 induction n with
 | zero => intro _; rfl
 | succ n ih =>
  intro hn
  rw [map_snoc, List.sum_append, ih (by omega), wells_snoc l n (by omega)]
  have := (okU_pos (h n (by omega))).2.2.2.2.1
  have e : (plateU l n).c * (plateU l n).d = (l.getD n KP.dflt).rows * (l.getD n KP.dflt).cols := rfl
  rw [e] at this
  rw [this]
  simp
theorem sum_racks (l : List Rk) (h : ∀ i, i < l.length → okU (rackU l i)) : ∀ n, n ≤ l.length → ((List.range n).map fun i => (unitN (rackU l i) : Int)).sum = tipsV (l.take n) := by
 intro n
 induction n with
 | zero => intro _; rfl
 | succ n ih =>
  intro hn
  rw [map_snoc, List.sum_append, ih (by omega), tips_snoc l n (by omega)]
  have := (okU_pos (h n (by omega))).2.2.2.2.1
  have e : (rackU l n).c * (rackU l n).d = (l.getD n KR.dflt).rows * (l.getD n KR.dflt).cols := rfl
  rw [e] at this
  rw [this]
  simp
theorem sum_lanes (n : Nat) : ((List.range n).map fun i => (unitN (laneU i) : Int)).sum = n := by
 induction n with
 | zero => rfl
 | succ n ih =>
  rw [map_snoc, List.sum_append, ih]
  simp [unitN, laneU]
theorem cnt_V (d : Dk) : cntV d = (cntK 1 (partsK d), cntK 2 (partsK d), cntK 3 (partsK d)) := by
 unfold cntV partsK
 by_cases hz : dchk d = 0
 ·have hok := dchk_ok d hz
  rw [if_pos hz, if_pos hz]
  have e : partsL d = partsU ((List.range d.pl.length).map (plateU d.pl)) ++ partsU ((List.range d.rl.length).map (rackU d.rl)) ++ partsU ((List.range (d.bl.length - 1)).map laneU) := by
   unfold partsL partsU unitsL
   rw [List.flatMap_append, List.flatMap_append]
  have c := fun k => show cntK k (partsL d) = _ from by rw [e, cnt_append, cnt_append, cnt_U k (plateU d.pl) _ 1 (fun _ => rfl), cnt_U k (rackU d.rl) _ 2 (fun _ => rfl), cnt_U k laneU _ 3 (fun _ => rfl), sum_plates d.pl (fun i hi => plateU_ok d hok i hi) _ (Nat.le_refl _), sum_racks d.rl (fun i hi => rackU_ok d hok i hi) _ (Nat.le_refl _), sum_lanes, List.take_length, List.take_length]
  rw [c 1, c 2, c 3]
  have h2 := hok.rise.two
  simp
  omega
 ·rw [if_neg hz, if_neg hz]
  rfl
theorem cnt_snoc (k : Int) (l : List Q4) (i : Nat) (h : i < l.length) : cntK k (l.take (i + 1)) = cntK k (l.take i) + (if (l.getD i ⟨0, 0, 0, 0⟩).a = k then 1 else 0) := by
 rw [take_snoc l i ⟨0, 0, 0, 0⟩ h, cnt_append]
 congr 1
 unfold cntK
 generalize l.getD i ⟨0, 0, 0, 0⟩ = q
 by_cases hk : q.a = k
 ·rw [if_pos hk]; simp [hk]
 ·rw [if_neg hk]; simp [hk]
theorem cnt_bd (k : Int) (l : List Q4) (i : Nat) : 0 ≤ cntK k (l.take i) ∧ cntK k (l.take i) ≤ l.length := by
 unfold cntK
 have h1 := List.length_filter_le (fun p : Q4 => p.a == k) (l.take i)
 rw [List.length_take] at h1
 omega
end Go.Proofs.Ytacjonncakhhmaa
namespace Go.Proofs.Ytacjonncakhhmaa
open Go.RowKit
set_option maxRecDepth 100000 in
set_option maxHeartbeats 4000000 in
theorem rcounts_any (d : Dk) (w : World) (hd : d.In w w.heap.size) : Calls Try.prog 49 #[d.v] w fun e w' => e = .returned (.tuple #[.int .i64 (cntV d).1, .int .i64 (cntV d).2.1, .int .i64 (cntV d).2.2]) ∧ Below w.heap.size w w' := by
 have HP := Lib.hid (fun w h => rparts_any d w h)
 have HD := Lib.hid hd
 have HOK := Lib.hid (parts_okP d)
 have HLN := Lib.hid (parts_len d)
 rw [cnt_V]
 dsimp only
 obtain ⟨P, hP⟩ : ∃ P, P = partsK d := ⟨_, rfl⟩
 rw [← hP] at HP HOK HLN ⊢
 clear hP hd
 obtain ⟨w0, hw0⟩ : ∃ w0, w0 = (w.alloc (.cells #[.slice d.bA d.bn d.bc, .slice d.pA d.pn d.pc, .slice d.rA d.rn d.rc, .int .i64 d.arms] 26)).alloc (.cells #[.int .i64 0, .int .i64 0, .int .i64 0, .int .i64 0] 131) := ⟨_, rfl⟩
 have HB0 := Lib.hid (show Below w.heap.size w w0 by rw [hw0]; exact Below.al (Below.al (Below.refl _ _) _) _)
 have HD0 := Lib.hid (HD.out.then HB0.out)
 have HSZ := Lib.hid (show w.heap.size + 1 < w0.heap.size by rw [hw0]; simp)
 have HF := Lib.hid (show ∀ w1, Below w0.heap.size w0 w1 → (w1.cell? ⟨w.heap.size + 1, 0, none⟩ = some (.int .i64 0) ∧ w1.cell? ⟨w.heap.size + 1, 1, none⟩ = some (.int .i64 0) ∧ w1.cell? ⟨w.heap.size + 1, 2, none⟩ = some (.int .i64 0) ∧ w1.cell? ⟨w.heap.size + 1, 3, none⟩ = some (.int .i64 0)) ∧
  (w1.frozen? ⟨w.heap.size + 1, 1, none⟩ = false ∧ w1.frozen? ⟨w.heap.size + 1, 2, none⟩ = false ∧ w1.frozen? ⟨w.heap.size + 1, 3, none⟩ = false) from by
   intro w1 hb
   have hs : w.heap.size + 1 < w0.heap.size := HSZ.out
   refine ⟨⟨keep_cell hb ?_, keep_cell hb ?_, keep_cell hb ?_, keep_cell hb ?_⟩, (hb.frozen (p := ⟨_, 1, none⟩) hs).trans ?_, (hb.frozen (p := ⟨_, 2, none⟩) hs).trans ?_, (hb.frozen (p := ⟨_, 3, none⟩) hs).trans ?_⟩
   all_goals (rw [hw0]; simp))
 go_enter Try.func49, Try.ntmps49
 go_wp2_with fail
 rw [← hw0]
 clear hw0
 refine (HP.out _ HD0.out).mono ?_
 rintro e w3 ⟨v, rfl, hown, hb3⟩
 obtain ⟨⟨r0, r1, r2, r3⟩, z1, z2, z3⟩ := HF.out w3 hb3
 have HB3 := Lib.hid (Below.call HB0.out hb3)
 have HS3 := Lib.hid (Nat.lt_of_lt_of_le HSZ.out hb3.size)
 have HL := Lib.hid (hown.isL (by have := HLN.out; omega))
 obtain ⟨⟨A, cap, rfl, hcap, hcell⟩, _, _⟩ := hown.isL (by have := HLN.out; omega)
 have hpl : P.length ≤ 49152 := HLN.out
 have HGE : w0.heap.size ≤ w3.heap.size := hb3.size
 obtain ⟨B, hB⟩ : ∃ B, KQ.IsL w3 B (.slice A P.length cap) P ∧ w.heap.size + 1 < B := ⟨_, HL.out, HS3.out⟩
 have HOW := Lib.hid (hown)
 clear hown hb3 hcell
 go_wp2
 go_loopw [7] (fun i wr => ∃ k : Nat, k ≤ P.length ∧ i = .int .i64 k ∧ (∀ b o u, w.heap.size + 1 < b → w3.cell? ⟨b, o, none⟩ = some u → wr.cell? ⟨b, o, none⟩ = some u) ∧ wr.cell? ⟨w.heap.size + 1, 1, none⟩ = some (.int .i64 (cntK 1 (P.take k))) ∧ wr.cell? ⟨w.heap.size + 1, 2, none⟩ = some (.int .i64 (cntK 2 (P.take k))) ∧ wr.cell? ⟨w.heap.size + 1, 3, none⟩ = some (.int .i64 (cntK 3 (P.take k))) ∧
  wr.frozen? ⟨w.heap.size + 1, 1, none⟩ = false ∧ wr.frozen? ⟨w.heap.size + 1, 2, none⟩ = false ∧ wr.frozen? ⟨w.heap.size + 1, 3, none⟩ = false ∧ Below w.heap.size w wr) (fun i _ => P.length - (intOf i).toNat)
 case atStart => exact ⟨0, Nat.zero_le _, rfl, fun _ _ _ _ h => h, r1, r2, r3, z1, z2, z3, HB3.out⟩
 case round =>
  clear r0 r1 r2 r3 z1 z2 z3
  obtain ⟨k, hk, rfl, hkeep, r1, r2, r3, z1, z2, z3, hbl⟩ := hrel
  have HB := Lib.hid hbl
  have HKP := Lib.hid hkeep
  clear hbl hkeep
  obtain ⟨b1, b2⟩ := cnt_bd 1 P k
  obtain ⟨b3, b4⟩ := cnt_bd 2 P k
  obtain ⟨b5, b6⟩ := cnt_bd 3 P k
  by_cases hlt : k < P.length
  ·obtain ⟨b, off, hA, hbB, _, hcell⟩ := q4_cells (K := KQ) rfl rfl rfl HL.out (by omega)
   have hbw : w.heap.size + 1 < b := by
    rcases HOW.out.1.2 with ⟨h, _⟩ | ⟨g, c, cur, h, hb, _⟩
    ·rw [hA] at h; cases h
    ·rw [hA] at h
     injection h with e1
     injection e1 with e2
     injection e2 with e3
     have := HSZ.out
     omega
   obtain ⟨c0, _⟩ := hcell k hlt
   have hc0 := HKP.out _ _ _ hbw c0
   have S1 := Lib.hid (cnt_snoc 1 P k hlt)
   have S2 := Lib.hid (cnt_snoc 2 P k hlt)
   have S3 := Lib.hid (cnt_snoc 3 P k hlt)
   obtain ⟨hp, _⟩ := HOK.out _ (getD_mem' P k ⟨0, 0, 0, 0⟩ hlt)
   subst hA
   clear hcell c0
   generalize P.getD k ⟨0, 0, 0, 0⟩ = q at *
   generalize cntK 1 (P.take k) = n1 at *
   generalize cntK 2 (P.take k) = n2 at *
   generalize cntK 3 (P.take k) = n3 at *
   obtain ⟨qa, qb, qc, qd⟩ := q
   dsimp only at *
   rcases hp with rfl | rfl | rfl
   ·go_wp2
    go_roundw
    case rel =>
     refine ⟨k + 1, by omega, num_i (by omega), fun b o u h1 h2 => st_other (HKP.out b o u h1 h2) (fun e => by injection e with e1; omega), by rw [S1.out]; exact st_same r1, by rw [S2.out]; exact st_other (by simpa using r2) (by simp), by rw [S3.out]; exact st_other (by simpa using r3) (by simp), st_fz z1, st_fz z2, st_fz z3, Below.st HB.out (show w.heap.size ≤ w.heap.size + 1 by omega)⟩
    case measure => simp [intOf]; omega
   ·go_wp2
    go_roundw
    case rel =>
     refine ⟨k + 1, by omega, num_i (by omega), fun b o u h1 h2 => st_other (HKP.out b o u h1 h2) (fun e => by injection e with e1; omega), by rw [S1.out]; exact st_other (by simpa using r1) (by simp), by rw [S2.out]; exact st_same r2, by rw [S3.out]; exact st_other (by simpa using r3) (by simp), st_fz z1, st_fz z2, st_fz z3, Below.st HB.out (show w.heap.size ≤ w.heap.size + 1 by omega)⟩
    case measure => simp [intOf]; omega
   ·go_wp2
    go_roundw
    case rel =>
     refine ⟨k + 1, by omega, num_i (by omega), fun b o u h1 h2 => st_other (HKP.out b o u h1 h2) (fun e => by injection e with e1; omega), by rw [S1.out]; exact st_other (by simpa using r1) (by simp), by rw [S2.out]; exact st_other (by simpa using r2) (by simp), by rw [S3.out]; exact st_same r3, st_fz z1, st_fz z2, st_fz z3, Below.st HB.out (show w.heap.size ≤ w.heap.size + 1 by omega)⟩
    case measure => simp [intOf]; omega
  ·obtain rfl : k = P.length := by omega
   rw [List.take_length] at r1 r2 r3
   clear b1 b2 b3 b4 b5 b6
   go_wp2_with fail
   go_quiet (fail)
   go_wp2
   go_ret3
   exact ⟨rfl, below_drewN HB.out _⟩
end Go.Proofs.Ytacjonncakhhmaa
namespace Go.Proofs.Ytacjonncakhhmaa
open Go.RowKit
end Go.Proofs.Ytacjonncakhhmaa
namespace Go.Proofs.Ytacjonncakhhmaa
open Go.RowKit
def bigB (q : Pl) : Bool := decide (500 < q.st.length)
def largeB (d : Dk) : Bool := decide (60 < d.bl.length ∨ 8 < d.pl.length ∨ 8 < d.rl.length) || d.pl.any bigB
theorem any_yes {α : Type} (l : List α) (z : α) (f : α → Bool) (k : Nat) (h : k < l.length) (hf : f (l.getD k z) = true) : l.any f = true := List.any_eq_true.2 ⟨_, getD_mem' l k z h, hf⟩
theorem any_no {α : Type} (l : List α) (z : α) (f : α → Bool) (h : ∀ i, i < l.length → f (l.getD i z) = false) : l.any f = false := by
 rw [← Bool.not_eq_true, List.any_eq_true]
 rintro ⟨x, hx, hf⟩
 obtain ⟨i, hi, rfl⟩ := List.mem_iff_getElem.1 hx
 have := h i hi
 rw [List.getD_eq_getElem?_getD, List.getElem?_eq_getElem hi, Option.getD_some, hf] at this
 cases this
set_option maxRecDepth 100000 in
set_option maxHeartbeats 4000000 in
theorem large_any (d : Dk) (w : World) (hd : d.In w w.heap.size) : Calls Try.prog 10 #[d.v] w fun e w' => e = .returned (.bool (largeB d)) ∧ Below w.heap.size w w' := by
 have HD := Lib.hid hd
 have e0 := hd.b.len
 have e1 := hd.p.len
 have e2 := hd.r.len
 have L1 := Lib.hid (fun h : 60 < d.bl.length ∨ 8 < d.pl.length ∨ 8 < d.rl.length => show largeB d = true by unfold largeB; rw [decide_eq_true h]; rfl)
 have L2 := Lib.hid (fun h : ¬ (60 < d.bl.length ∨ 8 < d.pl.length ∨ 8 < d.rl.length) => show largeB d = d.pl.any bigB by unfold largeB; rw [decide_eq_false h]; rfl)
 have HY := Lib.hid (any_yes d.pl KP.dflt bigB)
 have HN := Lib.hid (any_no d.pl KP.dflt bigB)
 obtain ⟨C, hC⟩ : ∃ C, C = largeB d := ⟨_, rfl⟩
 rw [← hC] at L1 L2 ⊢
 clear hC
 obtain ⟨bA, bn, bc, bl, pA, pn, pc, pl, rA, rn, rc, rl, arms⟩ := d
 dsimp only at *
 subst e0 e1 e2
 have lb := hd.b.2.2
 clear hd
 obtain ⟨w0, hw0⟩ : ∃ w0, w0 = w.alloc (.cells #[.slice bA bl.length bc, .slice pA pl.length pc, .slice rA rl.length rc, .int .i64 arms] 26) := ⟨_, rfl⟩
 have f1 : w0.cell? ⟨w.heap.size, 1, none⟩ = some (.slice pA pl.length pc) := by rw [hw0]; exact alloc_cell _ _ _ _ _ rfl
 have HB0 := Lib.hid (show Below w.heap.size w w0 by rw [hw0]; exact Below.al (Below.refl _ _) _)
 have HD0 := Lib.hid (HD.out.then HB0.out)
 by_cases h1 : 60 < bl.length
 ·obtain rfl := L1.out (.inl h1)
  go_enter Try.func10, Try.ntmps10
  go_wp2
  go_ret
  exact ⟨rfl, by rw [← hw0]; exact HB0.out⟩
 ·by_cases h2 : 8 < pl.length
  ·obtain rfl := L1.out (.inr (.inl h2))
   go_enter Try.func10, Try.ntmps10
   go_wp2
   go_ret
   exact ⟨rfl, by rw [← hw0]; exact HB0.out⟩
  ·by_cases h3 : 8 < rl.length
   ·obtain rfl := L1.out (.inr (.inr h3))
    go_enter Try.func10, Try.ntmps10
    go_wp2
    go_ret
    exact ⟨rfl, by rw [← hw0]; exact HB0.out⟩
   ·have HL := Lib.hid (L2.out (by omega))
    clear L1 L2
    go_enter Try.func10, Try.ntmps10
    go_wp2
    rw [← hw0]
    clear hw0
    go_loop [3] (fun i => ∃ k : Nat, k ≤ pl.length ∧ i = .int .i64 k ∧ ∀ i, i < k → bigB (pl.getD i KP.dflt) = false) (fun i => pl.length - (intOf i).toNat)
    case atStart => exact ⟨0, Nat.zero_le _, rfl, fun i hi => by omega⟩
    case round =>
     obtain ⟨k, hk, rfl, hall⟩ := hrel
     have HA := Lib.hid hall
     clear hall
     by_cases hlt : k < pl.length
     ·obtain ⟨b, off, rfl, hb, hc, hcell⟩ := plate_cells HD0.out.p (by dsimp only; omega)
      obtain ⟨c0, c1, c2, c3, c4, c5, c6⟩ := hcell k hlt
      have hsn := (HD0.out.s _ (getD_mem' pl k KP.dflt hlt)).len
      have hsl := (HD0.out.s _ (getD_mem' pl k KP.dflt hlt)).2.2
      have HYk := Lib.hid (HY.out k hlt)
      have HLS := Lib.hid (show ∀ (h : bigB (pl.getD k KP.dflt) = false) (i : Nat), i < k + 1 → bigB (pl.getD i KP.dflt) = false from fun h i hi => by
       by_cases e : i = k
       ·rw [e]; exact h
       ·exact HA.out i (by omega))
      clear hcell
      dsimp only at *
      rw [hsn] at c6
      clear hsn
      generalize pl.getD k KP.dflt = q at *
      by_cases g : 500 < q.st.length
      ·have HR := Lib.hid (HYk.out (decide_eq_true g))
       go_wp2
       go_ret
       exact ⟨ret_b (by rw [HL.out, HR.out]), HB0.out⟩
      ·have HR := Lib.hid (HLS.out (decide_eq_false g))
       go_wp2
       go_round
       case rel => exact ⟨k + 1, by omega, num_i (by omega), HR.out⟩
       case measure => simp [intOf]; omega
     ·obtain rfl : k = pl.length := by omega
      have HR := Lib.hid (HN.out HA.out)
      go_wp2
      go_ret
      exact ⟨ret_b (by rw [HL.out, HR.out]), HB0.out⟩
noncomputable def capV (d : Dk) (id : Int) : Int := if (partV d id).2 = 0 ∧ (partV d id).1.a = 1 then (d.pl.getD (partV d id).1.b.toNat KP.dflt).cap else 0
noncomputable def startV (d : Dk) (id : Int) : Int :=
 if (partV d id).2 = 0 ∧ (partV d id).1.a = 1 then
  (d.pl.getD (partV d id).1.b.toNat KP.dflt).st.getD ((partV d id).1.c * (d.pl.getD (partV d id).1.b.toNat KP.dflt).cols + (partV d id).1.d).toNat 0
 else 0
end Go.Proofs.Ytacjonncakhhmaa
namespace Go.Proofs.Ytacjonncakhhmaa
open Go.RowKit
def cellA (q : Pl) (i : Nat) : Cel.Ce := ⟨q.cap, q.st.getD i 0, 0⟩
def plN (q : Pl) : Nat := q.rows.toNat * q.cols.toNat
/-- The cells of a plate at first. -/
def plC (q : Pl) : List Cel.Ce := (List.range (plN q)).map (cellA q)
noncomputable def newCn (l : List Pl) (n : Nat) : List Cel.Ce := (List.range n).flatMap fun j => plC (l.getD j KP.dflt)
theorem newCn_snoc (l : List Pl) (n : Nat) : newCn l (n + 1) = newCn l n ++ plC (l.getD n KP.dflt) := by
 unfold newCn
 rw [List.range_succ, List.flatMap_append]
 simp
theorem plC_len (q : Pl) : (plC q).length = plN q := by unfold plC; simp
theorem plN_eq {q : Pl} (h : plateB q = true) : (plN q : Int) = q.rows * q.cols ∧ 1 ≤ plN q ∧ plN q ≤ 1536 ∧ q.st.length ≤ plN q := by
 have hs := plate_size h
 obtain ⟨h1, h2, h3, h4⟩ := size_of hs
 have hm := size_mul hs
 have e : (plN q : Int) = q.rows * q.cols := by
  unfold plN
  rw [Int.natCast_mul, show ((q.rows.toNat : Nat) : Int) = q.rows by omega, show ((q.cols.toNat : Nat) : Int) = q.cols by omega]
 have hl : (q.st.length : Int) ≤ q.rows * q.cols := by
  unfold plateB at h
  rw [Bool.and_eq_true, Bool.and_eq_true, decide_eq_true_eq] at h
  exact h.1.2.2.2
 exact ⟨e, by omega, by omega, by omega⟩
theorem plate_cap {q : Pl} (h : plateB q = true) : 1 ≤ q.cap ∧ q.cap ≤ 1099511627776 ∧ ∀ i, 0 ≤ q.st.getD i 0 ∧ q.st.getD i 0 ≤ q.cap := by
 unfold plateB at h
 rw [Bool.and_eq_true, Bool.and_eq_true, decide_eq_true_eq, List.all_eq_true] at h
 obtain ⟨⟨_, h2⟩, h3⟩ := h
 refine ⟨h2.1, h2.2.1, fun i => ?_⟩
 by_cases hi : i < q.st.length
 ·have := h3 _ (getD_mem' q.st i 0 hi)
  unfold okN at this
  exact of_decide_eq_true this
 ·rw [List.getD_eq_getElem?_getD, List.getElem?_eq_none (by omega)]
  exact ⟨Int.le_refl _, by show (0 : Int) ≤ q.cap; omega⟩
theorem cellA_right {q : Pl} (h : plateB q = true) (i : Nat) : (cellA q i).Right := by
 obtain ⟨h1, h2, h3⟩ := plate_cap h
 have := h3 i
 unfold Cel.Ce.Right cellA
 exact ⟨h1, h2, this.1, this.2, (show (0 : Int) ≤ 0 by decide), (show (0 : Int) ≤ 2147483647 by decide)⟩
theorem right_fit {q : Cel.Ce} (h : q.Right) : q.Fit := by
 obtain ⟨h1, h2, h3, h4, h5, h6⟩ := h
 exact ⟨by unfold fits; omega, by unfold fits; omega, by unfold fits; omega⟩
theorem newC_right (l : List Pl) (h : ∀ i, i < l.length → plateB (l.getD i KP.dflt) = true) : ∀ n, n ≤ l.length → ∀ q ∈ newCn l n, q.Right := by
 intro n hn q hq
 unfold newCn plC at hq
 obtain ⟨j, hj, hq⟩ := List.mem_flatMap.1 hq
 obtain ⟨i, _, rfl⟩ := List.mem_map.1 hq
 rw [List.mem_range] at hj
 exact cellA_right (h j (by omega)) i
theorem newCn_len (l : List Pl) (h : ∀ i, i < l.length → plateB (l.getD i KP.dflt) = true) : ∀ n, n ≤ l.length → ((newCn l n).length : Int) = wellsV (l.take n) := by
 intro n
 induction n with
 | zero => intro _; rfl
 | succ n ih =>
  intro hn
  rw [newCn_snoc, List.length_append, Int.natCast_add, ih (by omega), wells_snoc l n (by omega), plC_len, (plN_eq (h n (by omega))).1]
noncomputable def wellN (d : Dk) : Nat := (wellsV d.pl).toNat
noncomputable def tipN (d : Dk) : Nat := (tipsV d.rl).toNat
/-- A deck's stock at first. -/
noncomputable def newA (d : Dk) : Ab := ⟨newCn d.pl d.pl.length, List.replicate (wellN d) (8, 0, []), List.replicate (tipN d) (1, 0), Two.sumL (volS (newCn d.pl d.pl.length)), 0, 0⟩
theorem wellN_eq (d : Dk) (h : OkD d) : (wellN d : Int) = wellsV d.pl ∧ wellN d ≤ 384 ∧ (newCn d.pl d.pl.length).length = wellN d := by
 have hw := wells_bd d.pl (fun i hi => plate_size (h.pl i hi)) d.pl.length (Nat.le_refl _)
 have hl := newCn_len d.pl h.pl d.pl.length (Nat.le_refl _)
 rw [List.take_length] at hw hl
 have := h.wells
 unfold wellN
 omega
theorem tipN_eq (d : Dk) (h : OkD d) : (tipN d : Int) = tipsV d.rl ∧ tipN d ≤ 384 := by
 have hw := tips_bd d.rl (fun i hi => by have := h.rl i hi; unfold rackB at this; exact this) d.rl.length (Nat.le_refl _)
 rw [List.take_length] at hw
 have := h.tips
 unfold tipN
 omega
theorem sumL_bd (l : List Cel.Ce) (h : ∀ q ∈ l, q.Right) : 0 ≤ Two.sumL (volS l) ∧ Two.sumL (volS l) ≤ 1099511627776 * l.length := by
 induction l using Two.snoc_ind with
 | h0 => exact ⟨Int.le_refl _, Int.le_refl _⟩
 | h1 l q ih =>
  have e : volS (l ++ [q]) = volS l ++ [q.b] := by simp [volS]
  rw [e, Two.sumL_snoc]
  obtain ⟨i1, i2⟩ := ih (fun x hx => h x (by simp [hx]))
  obtain ⟨h1, h2, h3, h4, _⟩ := h q (by simp)
  rw [List.length_append, List.length_singleton]
  omega
/-- What kind a part is, by its id. -/
noncomputable def isP (d : Dk) (k id : Int) : Bool := decide ((partV d id).2 = 0) && decide ((partV d id).1.a = k)
theorem parts_kinds (k : Int) (f : Nat → Q4) (hf : ∀ i, (f i).a = k) (n : Nat) : ∀ p ∈ partsU ((List.range n).map f), p.a = k := by
 intro p hp
 unfold partsU unitParts at hp
 obtain ⟨u, hu, hp⟩ := List.mem_flatMap.1 hp
 obtain ⟨i, _, rfl⟩ := List.mem_map.1 hu
 obtain ⟨j, _, rfl⟩ := List.mem_map.1 hp
 exact hf i
theorem kinds_len (k : Int) (l : List Q4) (h : ∀ p ∈ l, p.a = k) : cntK k l = l.length := by
 unfold cntK
 rw [List.filter_eq_self.2 (fun p hp => by rw [h p hp]; exact BEq.rfl)]
theorem parts_split (d : Dk) (h : OkD d) : ∃ A B C, partsL d = A ++ (B ++ C) ∧ A.length = wellN d ∧ B.length = tipN d ∧ (∀ p ∈ A, p.a = 1) ∧ (∀ p ∈ B, p.a = 2) ∧ (∀ p ∈ C, p.a = 3) := by
 have hA := parts_kinds 1 (plateU d.pl) (fun _ => rfl) d.pl.length
 have hB := parts_kinds 2 (rackU d.rl) (fun _ => rfl) d.rl.length
 have hC := parts_kinds 3 laneU (fun _ => rfl) (d.bl.length - 1)
 refine ⟨_, _, _, ?_, ?_, ?_, hA, hB, hC⟩
 ·unfold partsL partsU unitsL
  rw [List.flatMap_append, List.flatMap_append, List.append_assoc]
 ·have e := kinds_len 1 _ hA
  rw [cnt_U 1 (plateU d.pl) _ 1 (fun _ => rfl), if_pos rfl, sum_plates d.pl (fun i hi => plateU_ok d h i hi) _ (Nat.le_refl _), List.take_length] at e
  have := (wellN_eq d h).1
  omega
 ·have e := kinds_len 2 _ hB
  rw [cnt_U 2 (rackU d.rl) _ 2 (fun _ => rfl), if_pos rfl, sum_racks d.rl (fun i hi => rackU_ok d h i hi) _ (Nat.le_refl _), List.take_length] at e
  have := (tipN_eq d h).1
  omega
theorem getD_app {α : Type} (l m : List α) (i : Nat) (z : α) : (l ++ m).getD i z = if i < l.length then l.getD i z else m.getD (i - l.length) z := by
 rw [List.getD_eq_getElem?_getD]
 by_cases h : i < l.length
 ·rw [List.getElem?_append_left h, if_pos h, List.getD_eq_getElem?_getD]
 ·rw [List.getElem?_append_right (by omega), if_neg h, List.getD_eq_getElem?_getD]
theorem isP_eq (d : Dk) (hz : dchk d = 0) (id : Int) : isP d 1 id = decide (0 ≤ id ∧ id < wellN d) ∧ isP d 2 id = decide (wellN d ≤ id ∧ id < wellN d + tipN d) := by
 obtain ⟨A, B, C, e, hA, hB, kA, kB, kC⟩ := parts_split d (dchk_ok d hz)
 unfold isP partV
 rw [if_pos hz, e]
 unfold partR
 rw [List.length_append, List.length_append, hA, hB]
 by_cases h0 : id < 0 ∨ ((wellN d + (tipN d + C.length) : Nat) : Int) ≤ id
 ·rw [if_pos h0]
  constructor <;> rw [Bool.eq_iff_iff, Bool.and_eq_true, decide_eq_true_eq, decide_eq_true_eq, decide_eq_true_eq] <;> exact ⟨fun h => absurd h.1 (by show ¬ (3 : Int) = 0; decide), fun h => by omega⟩
 ·rw [if_neg h0]
  obtain ⟨j, rfl⟩ := Int.eq_ofNat_of_zero_le (show 0 ≤ id by omega)
  have hk : ((A ++ (B ++ C)).getD j ⟨0, 0, 0, 0⟩).a = if j < wellN d then 1 else if j < wellN d + tipN d then 2 else 3 := by
   rw [getD_app, hA]
   by_cases h1 : j < wellN d
   ·rw [if_pos h1, if_pos h1]
    exact kA _ (getD_mem' A j _ (by omega))
   ·rw [if_neg h1, if_neg h1, getD_app, hB]
    by_cases h2 : j < wellN d + tipN d
    ·rw [if_pos (by omega), if_pos h2]
     exact kB _ (getD_mem' B _ _ (by omega))
    ·rw [if_neg (by omega), if_neg h2]
     exact kC _ (getD_mem' C _ _ (by omega))
  dsimp only
  rw [show ((j : Int)).toNat = j from rfl, hk]
  by_cases h1 : j < wellN d
  ·rw [if_pos h1]
   constructor <;> rw [Bool.eq_iff_iff] <;> simp <;> omega
  ·rw [if_neg h1]
   by_cases h2 : j < wellN d + tipN d
   ·rw [if_pos h2]
    constructor <;> rw [Bool.eq_iff_iff] <;> simp <;> omega
   ·rw [if_neg h2]
    constructor <;> rw [Bool.eq_iff_iff] <;> simp <;> omega
end Go.Proofs.Ytacjonncakhhmaa

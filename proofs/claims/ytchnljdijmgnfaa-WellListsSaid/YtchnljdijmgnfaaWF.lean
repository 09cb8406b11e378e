/- All places from one to another one, put behind a list. -/
import Derived.Test.YtchnljdijmgnfaaLP
import Derived.Test.YtchnljdijmgnfaaWM
import Derived.Test.YtchnljdijmgnfaaPH
namespace Go.Proofs.Ytchnljdijmgnfaa
open Go.RowKit
/-- The first j places of the i-th row; the first i rows. -/
def rowL (f : Int × Int) (i j : Nat) : List (Int × Int) := (List.range j).map (fun b : Nat => (f.1 + (i : Int), f.2 + (b : Int)))
def rectR (f : Int × Int) (n i : Nat) : List (Int × Int) := (List.range i).flatMap (fun a => rowL f a n)
theorem rowL_succ (f : Int × Int) (i j : Nat) : rowL f i (j + 1) = rowL f i j ++ [(f.1 + (i : Int), f.2 + (j : Int))] := by
  unfold rowL
  rw [List.range_succ, List.map_append]
  rfl
theorem rectR_succ (f : Int × Int) (n i : Nat) : rectR f n (i + 1) = rectR f n i ++ rowL f i n := by
  unfold rectR
  rw [List.range_succ, List.flatMap_append]
  simp
theorem rowL_len (f : Int × Int) (i j : Nat) : (rowL f i j).length = j := by simp [rowL]
theorem rectR_len (f : Int × Int) (n i : Nat) : (rectR f n i).length = i * n := by
  induction i with
  | zero => simp [rectR]
  | succ i ih => rw [rectR_succ, List.length_append, ih, rowL_len, Nat.add_mul, Nat.one_mul]
/-- All places from one to another one, row by row. -/
def rect (f t : Int × Int) : List (Int × Int) := rectR f (t.2 - f.2 + 1).toNat (t.1 - f.1 + 1).toNat
def AppR (w : World) (base : Nat) (r : List (Int × Int)) (e : Ending) (w' : World) : Prop := ∃ v', e = .returned v' ∧ Pl.Own w' base v' r ∧ Below base w w'
theorem cell2_newP (w : World) (x : Int × Int) : Cell2 (w.alloc (.cells #[.int .i64 x.1, .int .i64 x.2] 38)) w.heap.size x := by
  have h := heap_alloc_new w (.cells #[.int .i64 x.1, .int .i64 x.2] 38)
  refine ⟨by rw [cell_of_row _ w.heap.size _ _ _ (0, 0) h]; rfl, by rw [cell_of_row _ w.heap.size _ _ _ (0, 0) h]; rfl, ?_, ?_⟩
  · unfold World.frozen?; simp only [h]; rfl
  · unfold World.frozen?; simp only [h]; rfl
theorem IsL.litP (w : World) (H : Nat) (x y : Int) (hx : fits x) (hy : fits y) (e : w.heap.size = H) : IsL (w.alloc (.cells #[.int .i64 x, .int .i64 y] 38)) (H + 1) (.slice (some ⟨H, 0, none⟩) 1 1) [(x, y)] := by
  subst e
  exact Pl.IsL.lit w x y hx hy
/-- What the loops keep. -/
structure AR (w : World) (base : Nat) (f t : Int × Int) (v : Value) (m : List (Int × Int)) (wr : World) : Prop where
  own : Pl.Own wr base v m
  below : Below base w wr
  f : Cell2 wr w.heap.size f
  t : Cell2 wr (w.heap.size + 1) t
  ne1 : v.ownBlock ≠ some w.heap.size
  ne2 : v.ownBlock ≠ some (w.heap.size + 1)
theorem AR.start {w : World} {base : Nat} {v : Value} {m : List (Int × Int)} (h : Pl.Own w base v m) (hb : base ≤ w.heap.size) (f t : Int × Int) : AR w base f t v m ((w.alloc (.cells #[.int .i64 f.1, .int .i64 f.2] 38)).alloc (.cells #[.int .i64 t.1, .int .i64 t.2] 38)) := by
  refine ⟨(h.alloc _).alloc _, ((Below.refl _ _).alloc hb _).alloc (by simp; omega) _, (cell2_newP w f).alloc _, ?_, fun e => ?_, fun e => ?_⟩
  · have q := cell2_newP (w.alloc (.cells #[.int .i64 f.1, .int .i64 f.2] 38)) t
    simpa using q
  · have := (h.lt _ e).2; omega
  · have := (h.lt _ e).2; omega
theorem AR.app {w wr w' : World} {base : Nat} {f t : Int × Int} {v v' : Value} {m r : List (Int × Int)} {o : Obj} (h : AR w base f t v m wr) (hb : base ≤ w.heap.size) (ho : Pl.Own w' base v' r) (hg : (wr.alloc o).grownBy w' v.ownBlock) {H : Nat} (hv : v'.ownBlock = v.ownBlock ∨ v'.ownBlock = some H) (hH : wr.heap.size ≤ H) : AR w base f t v' r w' := by
  have l1 := h.f.lt
  have l2 := h.t.lt
  have hs := h.below.size
  refine ⟨ho, (h.own.alloc o).grow' (h.below.alloc (by omega) o) (by simp; omega) hg, (h.f.alloc o).grown hg h.ne1.symm, (h.t.alloc o).grown hg h.ne2.symm, fun e => ?_, fun e => ?_⟩
  · rcases hv with k | k
    · exact h.ne1 (k.symm.trans e)
    · rw [k] at e; have := Option.some.inj e; omega
  · rcases hv with k | k
    · exact h.ne2 (k.symm.trans e)
    · rw [k] at e; have := Option.some.inj e; omega
set_option maxRecDepth 100000 in
set_option maxHeartbeats 4000000 in
theorem appendAll_any (v : Value) (base : Nat) (m : List (Int × Int)) (f t : Int × Int) (w : World) (h : Pl.Own w base v m) (hb : base ≤ w.heap.size) (hm : m.length ≤ 1000)
    (h1 : 0 ≤ f.1) (h2 : f.1 ≤ t.1) (h3 : t.1 ≤ 31) (h4 : 0 ≤ f.2) (h5 : f.2 ≤ t.2) (h6 : t.2 ≤ 47) :
    Calls Try.prog 50 #[v, .agg #[.int .i64 f.1, .int .i64 f.2], .agg #[.int .i64 t.1, .int .i64 t.2]] w (AppR w base (m ++ rect f t)) := by
  obtain ⟨R, hR⟩ : ∃ R : Nat, (R : Int) = t.1 - f.1 + 1 := ⟨(t.1 - f.1 + 1).toNat, by omega⟩
  obtain ⟨N, hN⟩ : ∃ N : Nat, (N : Int) = t.2 - f.2 + 1 := ⟨(t.2 - f.2 + 1).toNat, by omega⟩
  have HRE := Lib.hid (show rect f t = rectR f N R by rw [rect, ← hR, ← hN, Int.toNat_natCast, Int.toNat_natCast])
  have HS := Lib.hid (AR.start h hb f t)
  have HB := Lib.hid hb
  have hR32 : R ≤ 32 := by omega
  have hN48 : N ≤ 48 := by omega
  obtain ⟨f1, f2⟩ := f
  obtain ⟨t1, t2⟩ := t
  simp only at *
  have HRR := Lib.hid hR
  have HNN := Lib.hid hN
  clear h hb hR hN
  go_enter Try.func50, Try.ntmps50
  go_wp2
  go_loopw [0, 7] (fun u r wr => ∃ i : Nat, i ≤ R ∧ r = .int .i64 (f1 + (i : Int)) ∧ AR w base (f1, f2) (t1, t2) u (m ++ rectR (f1, f2) N i) wr) (fun _ r _ => (t1 + 1 - intOf r).toNat)
  case atStart => exact ⟨0, Nat.zero_le _, num_i (by simp), by simpa [rectR] using HS.out⟩
  case round =>
    obtain ⟨i, hi, rfl, har⟩ := hrel
    have HA := Lib.hid har
    have c0 := har.f.c0
    have c1 := har.f.c1
    have d0 := har.t.c0
    have d1 := har.t.c1
    clear har
    by_cases hlt : i < R
    · have hd : decide (f1 + (i : Int) ≤ t1) = true := by (rw [decide_eq_true_eq]; have := HRR.out; omega)
      obtain ⟨wo, hwo⟩ : ∃ wo, wo = wr := ⟨_, rfl⟩
      subst hwo
      go_wp2
      go_loopw [0, 8] (fun u c wr => ∃ j : Nat, j ≤ N ∧ c = .int .i64 (f2 + (j : Int)) ∧ AR w base (f1, f2) (t1, t2) u (m ++ rectR (f1, f2) N i ++ rowL (f1, f2) i j) wr) (fun _ c _ => (t2 + 1 - intOf c).toNat)
      case atStart => exact ⟨0, Nat.zero_le _, num_i (by simp), by simpa [rowL] using HA.out⟩
      case round =>
        clear c0 c1 d0 d1
        obtain ⟨j, hj, rfl, har⟩ := hrel
        have HA2 := Lib.hid har
        have c0 := har.f.c0
        have c1 := har.f.c1
        have d0 := har.t.c0
        have d1 := har.t.c1
        clear har
        by_cases hlt2 : j < N
        · have hd2 : decide (f2 + (j : Int) ≤ t2) = true := by (rw [decide_eq_true_eq]; have := HNN.out; omega)
          have hf1 : fits (f1 + (i : Int)) := by (have := HRR.out; unfold fits; omega)
          have hf2 : fits (f2 + (j : Int)) := by (have := HNN.out; unfold fits; omega)
          have HF1 := Lib.hid hf1
          have HF2 := Lib.hid hf2
          have HLE := Lib.hid (show (m ++ rectR (f1, f2) N i ++ rowL (f1, f2) i j).length ≤ 100000 by
            rw [List.length_append, List.length_append, rectR_len, rowL_len]
            have : i * N ≤ 32 * 48 := Nat.mul_le_mul (by omega) (by omega)
            omega)
          have hb1 : (0 : Int) ≤ (j : Int) := by omega
          have hb2 : f2 + (j : Int) ≤ 47 := by have := HNN.out; omega
          clear hf1 hf2
          go_wp2_with (at_builtin; refine Pl.wpList_app _ rfl _ _ rfl base (wr.heap.size + 1) _ _ _ [(f1 + (i : Int), f2 + (j : Int))] rfl rfl (HA2.out.own.alloc _) (IsL.litP wr wr.heap.size (f1 + (i : Int)) (f2 + (j : Int)) HF1.out HF2.out rfl) ?c1 ?c2 ?_)
          case c1 => have q := HLE.out; (try simp only [List.length_append] at q ⊢); omega
          case c2 => have := HA2.out.below.size; have := HB.out; (try simp); omega
          intro v4 w4 hown4 hg4 hv4
          have HA4 := Lib.hid (HA2.out.app HB.out hown4 hg4 hv4 (by first | omega | (simp; done) | (simp; omega)))
          clear hown4 hg4 hv4
          go_wp2
          go_roundw
          case rel => exact ⟨j + 1, by omega, num_i (by omega), by have q := HA4.out; simp only [List.append_assoc] at q ⊢; rw [rowL_succ]; exact q⟩
          case measure => have := HNN.out; (try simp only [intOf]); omega
        · obtain rfl : j = N := by omega
          have hd2 : decide (f2 + (j : Int) ≤ t2) = false := by (rw [decide_eq_false_iff_not]; have := HNN.out; omega)
          have hb1 : f1 + (i : Int) ≤ 31 := by have := HRR.out; omega
          have hb2 : (0 : Int) ≤ f1 + (i : Int) := by omega
          go_wp2
          go_roundw
          case rel => exact ⟨i + 1, by omega, num_i (by omega), by have q := HA2.out; simp only [List.append_assoc] at q; rw [rectR_succ]; exact q⟩
          case measure => have := HRR.out; (try simp only [intOf]); omega
    · obtain rfl : i = R := by omega
      have hd : decide (f1 + (i : Int) ≤ t1) = false := by (rw [decide_eq_false_iff_not]; have := HRR.out; omega)
      go_wp2
      go_ret
      exact ⟨_, rfl, by rw [HRE.out]; exact HA.out.own, HA.out.below⟩
end Go.Proofs.Ytchnljdijmgnfaa

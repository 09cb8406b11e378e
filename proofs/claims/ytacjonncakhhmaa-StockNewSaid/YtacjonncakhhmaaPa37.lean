/- How a deck and a stock that came in are opened. -/
import Derived.Test.YtacjonncakhhmaaPa35
import Derived.Test.YtacjonncakhhmaaPa16
import Derived.Test.YtacjonncakhhmaaPa36
import Derived.Test.YtacjonncakhhmaaRows
import Derived.Test.YtacjonncakhhmaaPa02
import Derived.ProofKit
import Derived.OpenShut
import Derived.ShutString
import Derived.ChangeMaps5
import Derived.Deep.Slices
import Derived.Lib.SmallJoins
import Derived.Carry
import Derived.ChangeSlices
import Derived.Test.YtacjonncakhhmaaPa13
import Derived.Test.YtacjonncakhhmaaPa06
import Derived.OpenVars
namespace Go.Proofs.Ytacjonncakhhmaa
open Go.RowKit
set_option maxRecDepth 100000 in
set_option maxHeartbeats 4000000 in
theorem stockNew_walk (d : Dk) (w : World) (hd : d.In w w.heap.size) : Calls Try.prog 3 #[d.v] w fun e w' => e = .returned (.bool true) ∧ Below w.heap.size w w' := by
 obtain ⟨w0, hw0⟩ : ∃ w0, w0 = w.alloc (.cells #[.slice d.bA d.bn d.bc, .slice d.pA d.pn d.pc, .slice d.rA d.rn d.rc, .int .i64 d.arms] 26) := ⟨_, rfl⟩
 have HB0 := Lib.hid (show Below w.heap.size w w0 by rw [hw0]; exact Below.al (Below.refl _ _) _)
 have HD0 := Lib.hid (hd.then HB0.out)
 have HF := Lib.hid (show DkAt w0 w.heap.size d by rw [hw0]; exact Cells4.new w _ _ _ _ _)
 have C0 := Lib.hid (fun (V : World) (h : Below w0.heap.size w0 V) => large_any d V (HD0.out.then h))
 have C1 := Lib.hid (fun (V : World) (h : Below w0.heap.size w0 V) => new_any d V (HD0.out.then h))
 have C2 := Lib.hid (fun (V : World) (h : Below w0.heap.size w0 V) => rnew_any d V (HD0.out.then h))
 have C3 := Lib.hid (fun (V : World) => lives13 V)
 have C4 := Lib.hid (fun (s u : Stk) (h : s.ab = u.ab) (V : World) (h1) (h2) => same_s s u h V h1 h2)
 have C5 := Lib.hid (fun (s : Stk) (V : World) (h : Below w0.heap.size w0 V) (h2) => right_s d s V (HD0.out.then h) h2)
 have HRN := Lib.hid (rg_new d)
 obtain ⟨z, hz⟩ : ∃ z, zchk d = z := ⟨_, rfl⟩
 rw [hz] at C1 C2 HRN
 generalize largeB d = lb at *
 obtain ⟨d0, d1, d2, d3, -⟩ := HF.out
 rw [hw0] at d0 d1 d2 d3
 clear hd hz
 go_enter Try.func3, Try.ntmps3
 go_wp2_with fail
 rw [← hw0]
 clear hw0 d0 d1 d2 d3
 refine (C0.out w0 (Below.refl _ _)).mono ?_
 rintro e w1 ⟨rfl, hb1⟩
 have HB1 := Lib.hid hb1
 clear hb1
 cases lb
 case true =>
  go_wp2_with fail
  refine (C3.out w1).mono ?_
  rintro e w2 ⟨rfl, hb2⟩
  have HB2 := Lib.hid (Below.call HB0.out (Below.call HB1.out hb2))
  clear hb2
  go_wp2
  go_ret
  exact ⟨rfl, HB2.out⟩
 obtain ⟨d0, d1, d2, d3, -⟩ := HF.out.below HB1.out
 go_wp2_with fail
 refine (C1.out w1 HB1.out).mono ?_
 rintro e w2 ⟨s, rfl, hi2, ha2, hb2⟩
 obtain ⟨v2, hv2⟩ : ∃ v2, v2 = w2.alloc (.cells #[.slice s.cA s.cl.length s.cc, .slice s.lA s.ll.length s.lc, .slice s.tA s.tl.length s.tc, .int .i64 s.st, .int .i64 s.inn, .int .i64 s.out] 33) := ⟨_, rfl⟩
 have hba := Below.al (Below.refl w2.heap.size w2) (.cells #[.slice s.cA s.cl.length s.cc, .slice s.lA s.ll.length s.lc, .slice s.tA s.tl.length s.tc, .int .i64 s.st, .int .i64 s.inn, .int .i64 s.out] 33)
 rw [← hv2] at hba
 have HB2 := Lib.hid (show Below w0.heap.size w0 v2 from Below.call HB1.out (Below.call hb2 hba))
 have HI2 := Lib.hid (hi2.then hba)
 have HS2 := Lib.hid (show SkAt v2 w2.heap.size s by rw [hv2]; exact Cells6.new w2 _ _ _ _ _ _ _)
 have HA2 := Lib.hid ha2
 clear hi2 ha2 hb2 hba d0 d1 d2 d3
 obtain ⟨d0, d1, d2, d3, -⟩ := HF.out.below HB2.out
 rw [hv2] at d0 d1 d2 d3
 go_wp2_with fail
 rw [← hv2]
 clear hv2 d0 d1 d2 d3
 generalize w2.heap.size = G2 at *
 refine (C2.out v2 HB2.out).mono ?_
 rintro e w3 ⟨u, rfl, hi3, ha3, hb3⟩
 obtain ⟨v3, hv3⟩ : ∃ v3, v3 = w3.alloc (.cells #[.slice u.cA u.cl.length u.cc, .slice u.lA u.ll.length u.lc, .slice u.tA u.tl.length u.tc, .int .i64 u.st, .int .i64 u.inn, .int .i64 u.out] 33) := ⟨_, rfl⟩
 have hba := Below.al (Below.refl w3.heap.size w3) (.cells #[.slice u.cA u.cl.length u.cc, .slice u.lA u.ll.length u.lc, .slice u.tA u.tl.length u.tc, .int .i64 u.st, .int .i64 u.inn, .int .i64 u.out] 33)
 rw [← hv3] at hba
 have HB3 := Lib.hid (show Below w0.heap.size w0 v3 from Below.call HB2.out (Below.call hb3 hba))
 have HI3 := Lib.hid (hi3.then hba)
 have HJ3 := Lib.hid (HI2.out.then (Below.call hb3 hba))
 have HS3 := Lib.hid (show SkAt v3 w3.heap.size u by rw [hv3]; exact Cells6.new w3 _ _ _ _ _ _ _)
 have HT3 := Lib.hid (HS2.out.below (Below.call hb3 hba))
 have HA3 := Lib.hid (show s.ab = u.ab from HA2.out.trans ha3.symm)
 clear hi3 ha3 hb3 hba HI2 HS2 HB2
 go_wp2_with fail
 rw [← hv3]
 clear hv3
 generalize w3.heap.size = G3 at *
 refine (C3.out v3).mono ?_
 rintro e w4 ⟨rfl, hb4⟩
 have HB4 := Lib.hid (Below.call HB3.out hb4)
 have HI4 := Lib.hid (HI3.out.then hb4)
 have HJ4 := Lib.hid (HJ3.out.then hb4)
 have HS4 := Lib.hid (HS3.out.below hb4)
 have HT4 := Lib.hid (HT3.out.below hb4)
 clear hb4 HI3 HJ3 HS3 HT3 HB3
 obtain ⟨a0, a1, a2, a3, a4, a5, -⟩ := HS4.out
 obtain ⟨b0, b1, b2, b3, b4, b5, -⟩ := HT4.out
 go_wp2_with fail
 --CUT1
 refine (C4.out s u HA3.out w4 HJ4.out HI4.out).mono ?_
 rintro e w5 ⟨rfl, hb5⟩
 have HB5 := Lib.hid (Below.call HB4.out hb5)
 have HJ5 := Lib.hid (HJ4.out.then hb5)
 have HT5 := Lib.hid (HT4.out.below hb5)
 clear hb5 HI4 HJ4 HS4 HT4 HB4 a0 a1 a2 a3 a4 a5 b0 b1 b2 b3 b4 b5
 have hzz : (z == z) = true := by simp
 by_cases h0 : z = 0
 case neg =>
  have h0b : (z != 0) = true := by simpa using h0
  clear h0
  go_wp2
  go_ret
  exact ⟨rfl, Below.call HB0.out HB5.out⟩
 have HRG := Lib.hid (show rgS d s.ab = true from by rw [HA2.out, if_pos h0]; exact HRN.out h0)
 subst h0
 obtain ⟨b0, b1, b2, b3, b4, b5, -⟩ := HT5.out
 obtain ⟨d0, d1, d2, d3, -⟩ := HF.out.below HB5.out
 go_wp2_with fail
 --CUT2
 refine (C5.out s w5 HB5.out HJ5.out).mono ?_
 rw [HRG.out]
 rintro e w6 ⟨rfl, hb6⟩
 have HB6 := Lib.hid (Below.call HB0.out (Below.call HB5.out hb6))
 clear hb6 b0 b1 b2 b3 b4 b5 d0 d1 d2 d3
 go_wp2
 go_ret
 exact ⟨rfl, HB6.out⟩
end Go.Proofs.Ytacjonncakhhmaa
namespace Go.Proofs.Ytacjonncakhhmaa
open Go.ChangeShapes Go.WideShapes Go.ChangeAt Go.RowKit Go.Deep
theorem own : ownKnob Try.prog.godebug = none := by kernel_rfl
theorem laidOut : laidOutB Try.prog = true := by kernel_rfl
theorem int_fits {n : Int} (h : (Lit.int .i64 n).wf = true) : fits n := by
 have : -9223372036854775808 ≤ n ∧ n ≤ 9223372036854775807 := by simpa [Lit.wf, IntKind.min, IntKind.max, IntKind.signed, IntKind.bits] using h
 exact this
theorem fl_fits {n : Nat} (h : (Lit.float .f64 n).wf = true) : n < 18446744073709551616 := by simpa [Lit.wf] using h
/-- A list that came in, whatever its elements are. -/
theorem Lk.opened {P : Program} {α : Type} {K : Lk P α} {H : Type} {enc : TypeId × Value → H} {w : World} (Q : α → Prop) (hcells : P.cellsOf K.E = K.n)
  (each : ∀ (fuel : Nat) (cs : List Value) (x : DataW H × List MemPlace), DataW.trod enc P w 0 (fun _ => true) true fuel K.E cs = some x → ∃ y : α, cs = K.cells y ∧ K.ok y ∧ Q y)
  {fuel : Nat} {cs : List Value} {x : DataW H × List MemPlace} (h : DataW.trod enc P w 0 (fun _ => true) true fuel K.S cs = some x) :
  ∃ v xs, cs = [v] ∧ K.IsL w w.heap.size v xs ∧ ∀ y ∈ xs, Q y := by
 rcases open_slice K.und h with ⟨rfl, _⟩ | ⟨a, len, cap, m, n, D, Pl, rfl, hb, hl, hm, hmm, rfl, hx⟩
 ·exact ⟨_, [], rfl, IsL.nil _ _ _ _, fun y hy => by simp at hy⟩
 ·rw [if_pos rfl] at hmm
  subst hmm
  have hm' : m ≤ 9223372036854775807 := by unfold maxLen at hm; omega
  rcases Nat.eq_zero_or_pos len with h0 | h0
  ·subst h0
   exact ⟨_, [], rfl, IsL.nil _ _ _ _, fun y hy => by simp at hy⟩
  have hi : Inhabited α := ⟨K.dflt⟩
  obtain ⟨Y, hY⟩ := choose_lt (α := α) (n := len) (p := fun i y => K.ok y ∧ Q y ∧ ∀ j, j < K.n → w.cell? ((a.add (i * K.n)).add j) = (K.cells y)[j]?) (fun i hi => by
   obtain ⟨cs', h1, h2⟩ := hx i (by omega)
   rw [hcells] at h1
   obtain ⟨y, rfl, hy, hq⟩ := each _ _ _ h2
   obtain ⟨_, _, hcell⟩ := World.cells?_some h1
   exact ⟨y, hy, hq, hcell⟩)
  have hpos := K.pos
  obtain ⟨b, off, spot⟩ := a
  have h00 := (hY 0 h0).2.2 0 hpos
  obtain ⟨u0, hu0⟩ : ∃ u, (K.cells (Y 0))[0]? = some u := ⟨_, List.getElem?_eq_getElem (by rw [K.len]; exact hpos)⟩
  rw [hu0] at h00
  have hspot : spot = none := by simpa [Addr.add] using World.cell?_spot h00
  subst hspot
  have hlen : ((List.range len).map Y).length = len := by simp
  refine ⟨_, (List.range len).map Y, rfl, ⟨⟨some ⟨b, off, none⟩, m, by rw [hlen], by rw [hlen]; exact hl, fun _ => ⟨b, off, rfl, ?_, fun i hi j u hu => ?_⟩⟩, fun y hy => ?_, by rw [hlen]; omega⟩, fun y hy => ?_⟩
  ·have e := World.block_lt_of_cell? w _ h00
   simpa [Addr.add] using e
  ·rw [hlen] at hi
   have hj : j < K.n := by
    have := (List.getElem?_eq_some_iff.1 hu).1
    rw [K.len] at this
    exact this
   have e := (hY i hi).2.2 j hj
   rw [add_plain, add_plain] at e
   have hget : ((List.range len).map Y).getD i K.dflt = Y i := by
    rw [List.getD_eq_getElem?_getD, List.getElem?_map, List.getElem?_range hi]
    rfl
   rw [hget] at hu
   rw [← Nat.add_assoc, e, hu]
  ·obtain ⟨i, hi, rfl⟩ := List.mem_map.1 hy
   exact (hY i (List.mem_range.1 hi)).1
  ·obtain ⟨i, hi, rfl⟩ := List.mem_map.1 hy
   exact (hY i (List.mem_range.1 hi)).2.1
theorem trod_float {H : Type} {enc : TypeId × Value → H} {P : Program} {w : World} {base : Nat} {spare : Nat → Bool} {held : Bool} {fuel : Nat} {t : TypeId} {cs : List Value} {x : DataW H × List MemPlace} {k : FloatKind} (ht : P.underlying t = some (.float k)) (h : DataW.trod enc P w base spare held fuel t cs = some x) : ∃ n, cs = [.float k n] ∧ (Lit.float k n).wf = true := by
 cases fuel with
 | zero => simp [DataW.trod] at h
 | succ n =>
  unfold DataW.trod at h
  rw [ht] at h
  split at h <;> simp_all
end Go.Proofs.Ytacjonncakhhmaa
namespace Go.Proofs.Ytacjonncakhhmaa
open Go.ChangeShapes Go.WideShapes Go.ChangeAt Go.RowKit Go.Deep
set_option maxRecDepth 100000 in
/-- A struct's fields that came in, each read by itself. -/
theorem fieldz {H : Type} {enc : TypeId × Value → H} {w : World} {fuel : Nat} {t : TypeId} {fs : Array Field} {cs : List Value} {x : DataW H × List MemPlace} (ht : Try.prog.underlying t = some (.struct fs)) (h : DataW.trod enc Try.prog w 0 (fun _ => true) true fuel t cs = some x) :
  cs.length = Try.prog.cellsOf t ∧ ∃ n, ∀ (i : Nat) (f : Field), fs[i]? = some f → ∃ y, DataW.trod enc Try.prog w 0 (fun _ => true) true n f.type ((cs.drop f.offset).take (Try.prog.cellsOf f.type)) = some y := by
 obtain ⟨xs, n, _, _, hl, hlen, hf⟩ := DataW.trod_struct ht h
 refine ⟨hl, n, fun i f hi => ?_⟩
 have hi' : i < xs.length := by
  rw [hlen]
  exact (Array.getElem?_eq_some_iff.1 hi).1
 exact ⟨xs[i], by rw [hf i f hi, List.getElem?_eq_getElem hi']⟩
set_option maxRecDepth 100000 in
theorem one_int' {H : Type} {enc : TypeId × Value → H} {w : World} {n : Nat} {c : Value} (h : ∃ y, DataW.trod enc Try.prog w 0 (fun _ => true) true n 3 [c] = some y) : ∃ k, c = .int .i64 k ∧ fits k := by
 obtain ⟨y, hy⟩ := h
 obtain ⟨k, e, _, hw⟩ := DataW.trod_int Try.underlying3 hy
 simp only [List.cons.injEq, and_true] at e
 exact ⟨k, e, int_fits hw⟩
set_option maxRecDepth 100000 in
theorem cells28 : Try.prog.cellsOf 70 = 1 := by kernel_rfl
set_option maxRecDepth 100000 in
/-- A list of floats that came in. -/
theorem open_floats {H : Type} {enc : TypeId × Value → H} {w : World} {fuel : Nat} {cs : List Value} {x : DataW H × List MemPlace} (h : DataW.trod enc Try.prog w 0 (fun _ => true) true fuel 22 cs = some x) : ∃ v xs, cs = [v] ∧ KF.IsL w w.heap.size v xs := by
 obtain ⟨v, xs, h1, h2, _⟩ := Lk.opened (K := KF) (fun _ => True) cells28 (fun fuel cs x h => by
  obtain ⟨n, rfl, hw⟩ := trod_float Try.underlying70 h
  exact ⟨n, rfl, fl_fits hw, trivial⟩) h
 exact ⟨v, xs, h1, h2⟩
set_option maxRecDepth 100000 in
theorem cells3 : Try.prog.cellsOf 3 = 1 := by kernel_rfl
set_option maxRecDepth 100000 in
theorem cells61 : Try.prog.cellsOf 56 = 1 := by kernel_rfl
set_option maxRecDepth 100000 in
theorem cells22 : Try.prog.cellsOf 22 = 1 := by kernel_rfl
set_option maxRecDepth 100000 in
theorem cells41 : Try.prog.cellsOf 23 = 1 := by kernel_rfl
set_option maxRecDepth 100000 in
theorem cells42 : Try.prog.cellsOf 24 = 1 := by kernel_rfl
set_option maxRecDepth 100000 in
theorem cells44 : Try.prog.cellsOf 26 = 4 := by kernel_rfl
set_option maxRecDepth 100000 in
theorem cells63 : Try.prog.cellsOf 72 = 7 := by kernel_rfl
set_option maxRecDepth 100000 in
theorem cells72 : Try.prog.cellsOf 74 = 5 := by kernel_rfl
set_option maxRecDepth 100000 in
theorem deck_reads : Try.prog.readableRec 26 = true := by kernel_rfl
set_option maxRecDepth 100000 in
theorem deck_row : 26 < Try.prog.types.size := of_decide_eq_true (by kernel_rfl)
set_option maxRecDepth 100000 in
theorem one_float {H : Type} {enc : TypeId × Value → H} {w : World} {n : Nat} {c : Value} (h : ∃ y, DataW.trod enc Try.prog w 0 (fun _ => true) true n 70 [c] = some y) : ∃ k, c = .float .f64 k ∧ k < 18446744073709551616 := by
 obtain ⟨y, hy⟩ := h
 obtain ⟨k, e, hw⟩ := trod_float Try.underlying70 hy
 simp only [List.cons.injEq, and_true] at e
 exact ⟨k, e, fl_fits hw⟩
set_option maxRecDepth 100000 in
theorem one_ints {H : Type} {enc : TypeId × Value → H} {w : World} {n : Nat} {c : Value} (h : ∃ y, DataW.trod enc Try.prog w 0 (fun _ => true) true n 56 [c] = some y) : ∃ xs, KI.IsL w w.heap.size c xs := by
 obtain ⟨y, hy⟩ := h
 obtain ⟨v, xs, h1, h2, _⟩ := Lk.opened (K := KI) (fun _ => True) cells3 (fun fuel cs x h => by
  obtain ⟨k, e, _, hw⟩ := DataW.trod_int Try.underlying3 h
  exact ⟨k, e, int_fits hw, trivial⟩) hy
 simp only [List.cons.injEq, and_true] at h1
 subst h1
 exact ⟨xs, h2⟩
set_option maxRecDepth 100000 in
theorem open_plate {H : Type} {enc : TypeId × Value → H} {w : World} {fuel : Nat} {cs : List Value} {x : DataW H × List MemPlace} (h : DataW.trod enc Try.prog w 0 (fun _ => true) true fuel 72 cs = some x) :
  ∃ q : Pl, cs = KP.cells q ∧ KP.ok q ∧ KI.IsL w w.heap.size (.slice q.sA q.sn q.sc) q.st := by
 obtain ⟨hl, n, hf⟩ := fieldz Try.underlying72 h
 rw [cells63] at hl
 match cs, hl with
 | [c0, c1, c2, c3, c4, c5, c6], _ =>
  have g0 := hf 0 { name := "Rows", type := 3, offset := 0, embedded := false, tag := "", pkgPath := "", byteOffset := 0 } rfl
  have g1 := hf 1 { name := "Cols", type := 3, offset := 1, embedded := false, tag := "", pkgPath := "", byteOffset := 8 } rfl
  have g2 := hf 2 { name := "X", type := 70, offset := 2, embedded := false, tag := "", pkgPath := "", byteOffset := 16 } rfl
  have g3 := hf 3 { name := "Pitch", type := 70, offset := 3, embedded := false, tag := "", pkgPath := "", byteOffset := 24 } rfl
  have g4 := hf 4 { name := "Reach", type := 70, offset := 4, embedded := false, tag := "", pkgPath := "", byteOffset := 32 } rfl
  have g5 := hf 5 { name := "Cap", type := 3, offset := 5, embedded := false, tag := "", pkgPath := "", byteOffset := 40 } rfl
  have g6 := hf 6 { name := "Start", type := 56, offset := 6, embedded := false, tag := "", pkgPath := "", byteOffset := 48 } rfl
  simp only [cells3, cells28, cells61, List.drop_zero, List.drop_succ_cons, List.take_succ_cons, List.take_zero] at g0 g1 g2 g3 g4 g5 g6
  obtain ⟨k0, rfl, f0⟩ := one_int' g0
  obtain ⟨k1, rfl, f1⟩ := one_int' g1
  obtain ⟨k2, rfl, f2⟩ := one_float g2
  obtain ⟨k3, rfl, f3⟩ := one_float g3
  obtain ⟨k4, rfl, f4⟩ := one_float g4
  obtain ⟨k5, rfl, f5⟩ := one_int' g5
  obtain ⟨xs, hx⟩ := one_ints g6
  obtain ⟨A, cap, hv, _, _⟩ := hx.1
  subst hv
  exact ⟨⟨k0, k1, k2, k3, k4, k5, A, xs.length, cap, xs⟩, rfl, ⟨f0, f1, f2, f3, f4, f5⟩, hx⟩
set_option maxRecDepth 100000 in
theorem open_rack {H : Type} {enc : TypeId × Value → H} {w : World} {fuel : Nat} {cs : List Value} {x : DataW H × List MemPlace} (h : DataW.trod enc Try.prog w 0 (fun _ => true) true fuel 74 cs = some x) :
  ∃ q : Rk, cs = KR.cells q ∧ KR.ok q ∧ True := by
 obtain ⟨hl, n, hf⟩ := fieldz Try.underlying74 h
 rw [cells72] at hl
 match cs, hl with
 | [c0, c1, c2, c3, c4], _ =>
  have g0 := hf 0 { name := "Rows", type := 3, offset := 0, embedded := false, tag := "", pkgPath := "", byteOffset := 0 } rfl
  have g1 := hf 1 { name := "Cols", type := 3, offset := 1, embedded := false, tag := "", pkgPath := "", byteOffset := 8 } rfl
  have g2 := hf 2 { name := "X", type := 70, offset := 2, embedded := false, tag := "", pkgPath := "", byteOffset := 16 } rfl
  have g3 := hf 3 { name := "Pitch", type := 70, offset := 3, embedded := false, tag := "", pkgPath := "", byteOffset := 24 } rfl
  have g4 := hf 4 { name := "Reach", type := 70, offset := 4, embedded := false, tag := "", pkgPath := "", byteOffset := 32 } rfl
  simp only [cells3, cells28, List.drop_zero, List.drop_succ_cons, List.take_succ_cons, List.take_zero] at g0 g1 g2 g3 g4
  obtain ⟨k0, rfl, f0⟩ := one_int' g0
  obtain ⟨k1, rfl, f1⟩ := one_int' g1
  obtain ⟨k2, rfl, f2⟩ := one_float g2
  obtain ⟨k3, rfl, f3⟩ := one_float g3
  obtain ⟨k4, rfl, f4⟩ := one_float g4
  exact ⟨⟨k0, k1, k2, k3, k4⟩, rfl, ⟨f0, f1, f2, f3, f4⟩, trivial⟩
set_option maxRecDepth 100000 in
/-- A deck that came in. -/
theorem open_deck {H : Type} {enc : TypeId × Value → H} {W w : World} {r : Reach} {base : Nat} {v : Value} {d : DataW H} {ps : List MemPlace} (hv : Value.okWide Try.prog W r base 26 v) (h : DataW.Trod enc Try.prog w 0 (fun _ => true) true 26 v d ps) : ∃ D : Dk, v = D.v ∧ D.In w w.heap.size := by
 obtain ⟨ca, rfl, hca⟩ := okWide_struct Try.underlying26 hv
 obtain ⟨fuel, hf0⟩ := h
 obtain ⟨hl, n, hf⟩ := fieldz Try.underlying26 hf0
 have hcs : (Value.agg ca).cells = ca := by simp [Value.cells]
 rw [hcs] at hl hf
 rw [cells44] at hl
 match ca, hl with
 | ⟨[c0, c1, c2, c3]⟩, _ =>
  have g0 := hf 0 { name := "Borders", type := 22, offset := 0, embedded := false, tag := "", pkgPath := "", byteOffset := 0 } rfl
  have g1 := hf 1 { name := "Plates", type := 23, offset := 1, embedded := false, tag := "", pkgPath := "", byteOffset := 24 } rfl
  have g2 := hf 2 { name := "Racks", type := 24, offset := 2, embedded := false, tag := "", pkgPath := "", byteOffset := 48 } rfl
  have g3 := hf 3 { name := "Arms", type := 3, offset := 3, embedded := false, tag := "", pkgPath := "", byteOffset := 72 } rfl
  simp only [cells3, cells22, cells41, cells42, List.drop_zero, List.drop_succ_cons, List.take_succ_cons, List.take_zero] at g0 g1 g2 g3
  obtain ⟨k3, rfl, f3⟩ := one_int' g3
  obtain ⟨y0, e0⟩ := g0
  obtain ⟨y1, e1⟩ := g1
  obtain ⟨y2, e2⟩ := g2
  obtain ⟨v0, bl, a0, b0⟩ := open_floats e0
  obtain ⟨v1, pl, a1, b1, q1⟩ := Lk.opened (K := KP) (fun q => KI.IsL w w.heap.size (.slice q.sA q.sn q.sc) q.st) cells63 (fun fuel cs x h => open_plate h) e1
  obtain ⟨v2, rl, a2, b2, _⟩ := Lk.opened (K := KR) (fun _ => True) cells72 (fun fuel cs x h => open_rack h) e2
  have z0 : c0 = v0 := by simpa using a0
  have z1 : c1 = v1 := by simpa using a1
  have z2 : c2 = v2 := by simpa using a2
  subst z0 z1 z2
  obtain ⟨A0, m0, h0, _, _⟩ := b0.1
  obtain ⟨A1, m1, h1, _, _⟩ := b1.1
  obtain ⟨A2, m2, h2, _, _⟩ := b2.1
  subst h0 h1 h2
  exact ⟨⟨A0, bl.length, m0, bl, A1, pl.length, m1, pl, A2, rl.length, m2, rl, k3⟩, rfl, ⟨b0, b1, b2, q1, f3⟩⟩
end Go.Proofs.Ytacjonncakhhmaa

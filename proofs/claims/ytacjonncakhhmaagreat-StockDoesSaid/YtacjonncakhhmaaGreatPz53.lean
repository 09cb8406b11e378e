/- What all proofs of this seat's statements share: the set-up, and how a list that came in is opened. -/
import Derived.Test.YtacjonncakhhmaaGreatPz52
import Derived.Test.YtacjonncakhhmaaGreatPz45
import Derived.Test.YtacjonncakhhmaaGreatPz43
import Derived.Test.YtacjonncakhhmaaGreatPz19
import Derived.Test.YtacjonncakhhmaaGreatPz35
import Derived.Test.YtacjonncakhhmaaGreatRows
import Derived.Test.YtacjonncakhhmaaGreatPz03
import Derived.ProofKit
import Derived.OpenShut
import Derived.ShutString
import Derived.ChangeMaps5
import Derived.Deep.Slices
import Derived.Lib.SmallJoins
import Derived.Carry
import Derived.ChangeSlices
namespace Go.Proofs.YtacjonncakhhmaaGreat
open Go.RowKit
set_option maxRecDepth 100000 in
set_option maxHeartbeats 4000000 in
theorem stockDoes_walk (d : Dk) (s : Stk) (o : Opp) (w : World) (hd : d.In w w.heap.size) (hs : s.In w w.heap.size) (ho : o.Fit) : Calls Tryz.prog 3 #[d.v, s.v, o.v] w fun e w' => e = .returned (.bool true) ∧ Below w.heap.size w w' := by
 obtain ⟨w0, hw0⟩ : ∃ w0, w0 = (((w.alloc (.cells #[.slice d.bA d.bn d.bc, .slice d.pA d.pn d.pc, .slice d.rA d.rn d.rc, .int .i64 d.arms] 26)).alloc (.cells #[.slice s.cA s.cl.length s.cc, .slice s.lA s.ll.length s.lc, .slice s.tA s.tl.length s.tc, .int .i64 s.st, .int .i64 s.inn, .int .i64 s.out] 31)).alloc (.cells #[.int .i64 o.k, .int .i64 o.w, .int .i64 o.a, .int .i64 o.b, .int .i64 o.n] 33)) := ⟨_, rfl⟩
 have HB0 := Lib.hid (show Below w.heap.size w w0 by rw [hw0]; exact Below.al (Below.al (Below.al (Below.refl _ _) _) _) _)
 have HD0 := Lib.hid (hd.then HB0.out)
 have HS0 := Lib.hid (hs.then HB0.out)
 obtain ⟨Gd, hGd⟩ : ∃ Gd, Gd = w.heap.size := ⟨_, rfl⟩
 obtain ⟨Gs, hGs⟩ : ∃ Gs, Gs = w.heap.size + 1 := ⟨_, rfl⟩
 obtain ⟨Go', hGo⟩ : ∃ Go', Go' = w.heap.size + 1 + 1 := ⟨_, rfl⟩
 have HK := Lib.hid (show DkAt w0 Gd d by rw [hw0, hGd]; exact ((Cells4.new w _ _ _ _ _).below (Below.al (Below.refl _ _) _)).below (Below.al (Below.refl _ _) _))
 have HT := Lib.hid (show SkAt w0 Gs s by
  have e : (w.alloc (.cells #[.slice d.bA d.bn d.bc, .slice d.pA d.pn d.pc, .slice d.rA d.rn d.rc, .int .i64 d.arms] 26)).heap.size = w.heap.size + 1 := by simp
  rw [hw0, hGs, ← e]
  exact (Cells6.new (w.alloc (.cells #[.slice d.bA d.bn d.bc, .slice d.pA d.pn d.pc, .slice d.rA d.rn d.rc, .int .i64 d.arms] 26)) 31 _ _ _ _ _ _).below (Below.al (Below.refl _ _) _))
 have HOB := Lib.hid (show ∀ W, Below w0.heap.size w0 W → W.cell? ⟨Go', 0, none⟩ = some (.int .i64 o.k) ∧ W.cell? ⟨Go', 1, none⟩ = some (.int .i64 o.w) ∧ W.cell? ⟨Go', 2, none⟩ = some (.int .i64 o.a) ∧ W.cell? ⟨Go', 3, none⟩ = some (.int .i64 o.b) ∧ W.cell? ⟨Go', 4, none⟩ = some (.int .i64 o.n) from fun W h => by
  have e : ((w.alloc (.cells #[.slice d.bA d.bn d.bc, .slice d.pA d.pn d.pc, .slice d.rA d.rn d.rc, .int .i64 d.arms] 26)).alloc (.cells #[.slice s.cA s.cl.length s.cc, .slice s.lA s.ll.length s.lc, .slice s.tA s.tl.length s.tc, .int .i64 s.st, .int .i64 s.inn, .int .i64 s.out] 31)).heap.size = w.heap.size + 1 + 1 := by simp
  refine ⟨keep_cell h ?_, keep_cell h ?_, keep_cell h ?_, keep_cell h ?_, keep_cell h ?_⟩
  all_goals (rw [hw0, hGo, ← e, alloc_at]; rfl))
 have HLD := Lib.hid (fun (V : World) (h : Below w0.heap.size w0 V) => large_any d V (HD0.out.then h))
 have HLS := Lib.hid (fun (V : World) (h : Below w0.heap.size w0 V) => large_s s V (HS0.out.then h))
 have HLV := Lib.hid (fun (V : World) => lives13 V)
 have HCP := Lib.hid (show laB s.ab = false → ∀ (V : World), Below w0.heap.size w0 V → Calls Tryz.prog 7 #[s.v] V fun e w' => ∃ t : Stk, e = .returned t.v ∧ t.ab = s.ab ∧ t.In w' w'.heap.size ∧ Below V.heap.size V w' from fun hl V h => by
  have h1 := la_no hl
  have e1 : s.ab.c.length = s.cl.length := rfl
  have e2 : s.ab.l.length = s.ll.length := by show (s.ll.map Lo.ab).length = _; rw [List.length_map]
  have e3 : s.ab.t.length = s.tl.length := rfl
  have h4 : ∀ q ∈ s.ll, q.xs.length ≤ 100 := fun q hq => h1.2.2.2 q.ab (List.mem_map.2 ⟨q, hq, rfl⟩)
  refine (rcopy_any s V (HS0.out.then h) (by omega) (by omega) (by omega) (fun q hq => by have := h4 q hq; omega)).mono ?_
  rintro e w' ⟨t, rfl, ha, hr, hb, -⟩
  have f1 : t.cl.length = s.cl.length := congrArg (fun a : Ab => a.c.length) ha
  have f2 : t.ab.l.length = t.ll.length := by show (t.ll.map Lo.ab).length = _; rw [List.length_map]
  have f3 : t.ab.l.length = s.ab.l.length := congrArg (fun a : Ab => a.l.length) ha
  have f4 : t.tl.length = s.tl.length := congrArg (fun a : Ab => a.t.length) ha
  exact ⟨t, rfl, ha, hr.inn (by omega) (by omega) (by omega), hb⟩)
 have HDO := Lib.hid (fun (V : World) (h : Below w0.heap.size w0 V) => does_any d s o V (HD0.out.then h) (HS0.out.then h) ho)
 have HRD := Lib.hid (fun (u : Stk) (hu : u.ab = s.ab) (V : World) (h : Below w0.heap.size w0 V) (hi : u.In V V.heap.size) => show Calls Tryz.prog 9 #[d.v, u.v, o.v] V fun e w' => ∃ t : Stk, e = .returned (.tuple #[t.v, .int .i64 (cgE d s.ab o.w (opE d s.ab o))]) ∧ t.In w' w'.heap.size ∧ t.ab = (if cgE d s.ab o.w (opE d s.ab o) = 0 then opA s.ab o else ab0) ∧ Below V.heap.size V w' from by
  have := rdoes_any d u o V (HD0.out.then h) hi ho
  rw [hu] at this
  refine this.mono ?_
  rintro e w' ⟨t, h1, h2, h3, h4, -⟩
  exact ⟨t, h1, h2, h3, h4⟩)
 have HSM := Lib.hid (fun (s u : Stk) (h : s.ab = u.ab) (V : World) (h1) (h2) => same_s s u h V h1 h2)
 have HRG := Lib.hid (fun (s : Stk) (V : World) (h : Below w0.heap.size w0 V) (h2) => right_s d s V (HD0.out.then h) h2)
 have HOR := Lib.hid (fun h => @op_right d s.ab o h)
 generalize laB s.ab = ls at *
 generalize largeB d = lb at *
 generalize cgE d s.ab o.w (opE d s.ab o) = E at *
 generalize opA s.ab o = dA at *
 obtain ⟨d0, d1, d2, d3, -⟩ := HK.out
 obtain ⟨t0, t1, t2, t3, t4, t5, -⟩ := HT.out
 rw [hw0, hGd] at d0 d1 d2 d3
 rw [hw0, hGs] at t0 t1 t2 t3 t4 t5
 clear hd hs ho
 go_enter Tryz.func3, Tryz.ntmps3
 go_wp2_with fail
 rw [← hw0]
 --CUT1
 try rw [← hGo]
 try rw [← hGs]
 try rw [← hGd]
 clear hw0 hGd hGs hGo d0 d1 d2 d3 t0 t1 t2 t3 t4 t5
 refine (HLD.out w0 (Below.refl _ _)).mono ?_
 rintro e w1 ⟨rfl, hb1⟩
 have HB1 := Lib.hid hb1
 clear hb1
 cases lb
 case true =>
  go_wp2_with fail
  refine (HLV.out w1).mono ?_
  rintro e w2 ⟨rfl, hb2⟩
  have HB2 := Lib.hid (Below.call HB0.out (Below.call HB1.out hb2))
  clear hb2
  go_wp2
  go_ret
  exact ⟨rfl, HB2.out⟩
 obtain ⟨t0, t1, t2, t3, t4, t5, -⟩ := HT.out.below HB1.out
 go_wp2_with fail
 refine (HLS.out w1 HB1.out).mono ?_
 rintro e w2 ⟨rfl, hb2⟩
 have HB2 := Lib.hid (Below.call HB1.out hb2)
 clear hb2 t0 t1 t2 t3 t4 t5 HB1
 cases ls
 case true =>
  go_wp2_with fail
  refine (HLV.out w2).mono ?_
  rintro e w3 ⟨rfl, hb3⟩
  have HB3 := Lib.hid (Below.call HB0.out (Below.call HB2.out hb3))
  clear hb3
  go_wp2
  go_ret
  exact ⟨rfl, HB3.out⟩
 have HCX := Lib.hid (HCP.out (by simp))
 obtain ⟨t0, t1, t2, t3, t4, t5, -⟩ := HT.out.below HB2.out
 go_wp2_with fail
 clear t0 t1 t2 t3 t4 t5
 refine (HCX.out w2 HB2.out).mono ?_
 rintro e w3 ⟨u, rfl, hua, hui, hb3⟩
 obtain ⟨v3, hv3⟩ : ∃ v3, v3 = w3.alloc (.cells #[.slice u.cA u.cl.length u.cc, .slice u.lA u.ll.length u.lc, .slice u.tA u.tl.length u.tc, .int .i64 u.st, .int .i64 u.inn, .int .i64 u.out] 31) := ⟨_, rfl⟩
 have hba := Below.al (Below.refl w3.heap.size w3) (.cells #[.slice u.cA u.cl.length u.cc, .slice u.lA u.ll.length u.lc, .slice u.tA u.tl.length u.tc, .int .i64 u.st, .int .i64 u.inn, .int .i64 u.out] 31)
 rw [← hv3] at hba
 have HB3 := Lib.hid (show Below w0.heap.size w0 v3 from Below.call HB2.out (Below.call hb3 hba))
 have HUA := Lib.hid hua
 have HU3 := Lib.hid (hui.then hba)
 have HS3 := Lib.hid (show SkAt v3 w3.heap.size u by rw [hv3]; exact Cells6.new w3 _ _ _ _ _ _ _)
 clear hua hui hb3 hba HB2
 obtain ⟨d0, d1, d2, d3, -⟩ := HK.out.below HB3.out
 obtain ⟨t0, t1, t2, t3, t4, t5, -⟩ := HT.out.below HB3.out
 obtain ⟨o0, o1, o2, o3, o4⟩ := HOB.out v3 HB3.out
 rw [hv3] at d0 d1 d2 d3 t0 t1 t2 t3 t4 t5 o0 o1 o2 o3 o4
 go_wp2_with fail
 rw [← hv3]
 --CUT2
 clear hv3 d0 d1 d2 d3 t0 t1 t2 t3 t4 t5 o0 o1 o2 o3 o4
 generalize w3.heap.size = Gu at *
 refine (HDO.out v3 HB3.out).mono ?_
 rintro e w4 ⟨a, rfl, hai, haa, hb4, -⟩
 obtain ⟨v4, hv4⟩ : ∃ v4, v4 = w4.alloc (.cells #[.slice a.cA a.cl.length a.cc, .slice a.lA a.ll.length a.lc, .slice a.tA a.tl.length a.tc, .int .i64 a.st, .int .i64 a.inn, .int .i64 a.out] 31) := ⟨_, rfl⟩
 have hba := Below.al (Below.refl w4.heap.size w4) (.cells #[.slice a.cA a.cl.length a.cc, .slice a.lA a.ll.length a.lc, .slice a.tA a.tl.length a.tc, .int .i64 a.st, .int .i64 a.inn, .int .i64 a.out] 31)
 rw [← hv4] at hba
 have HB4 := Lib.hid (show Below w0.heap.size w0 v4 from Below.call HB3.out (Below.call hb4 hba))
 have HAA := Lib.hid haa
 have HA4 := Lib.hid (hai.then hba)
 have HU4 := Lib.hid (HU3.out.then (Below.call hb4 hba))
 have HS4 := Lib.hid (HS3.out.below (Below.call hb4 hba))
 have HT4 := Lib.hid (show SkAt v4 w4.heap.size a by rw [hv4]; exact Cells6.new w4 _ _ _ _ _ _ _)
 clear haa hai hb4 hba HU3 HS3 HB3
 obtain ⟨d0, d1, d2, d3, -⟩ := HK.out.below HB4.out
 obtain ⟨t0, t1, t2, t3, t4, t5, -⟩ := HS4.out
 obtain ⟨o0, o1, o2, o3, o4⟩ := HOB.out v4 HB4.out
 rw [hv4] at d0 d1 d2 d3 t0 t1 t2 t3 t4 t5 o0 o1 o2 o3 o4
 go_wp2_with fail
 rw [← hv4]
 --CUT3
 clear hv4 d0 d1 d2 d3 t0 t1 t2 t3 t4 t5 o0 o1 o2 o3 o4
 generalize w4.heap.size = Ga at *
 refine (HRD.out u HUA.out v4 HB4.out HU4.out).mono ?_
 rintro e w5 ⟨b, rfl, hbi, hbb, hb5⟩
 obtain ⟨v5, hv5⟩ : ∃ v5, v5 = w5.alloc (.cells #[.slice b.cA b.cl.length b.cc, .slice b.lA b.ll.length b.lc, .slice b.tA b.tl.length b.tc, .int .i64 b.st, .int .i64 b.inn, .int .i64 b.out] 31) := ⟨_, rfl⟩
 have hba := Below.al (Below.refl w5.heap.size w5) (.cells #[.slice b.cA b.cl.length b.cc, .slice b.lA b.ll.length b.lc, .slice b.tA b.tl.length b.tc, .int .i64 b.st, .int .i64 b.inn, .int .i64 b.out] 31)
 rw [← hv5] at hba
 have HB5 := Lib.hid (show Below w0.heap.size w0 v5 from Below.call HB4.out (Below.call hb5 hba))
 have HAB := Lib.hid (show a.ab = b.ab from HAA.out.trans hbb.symm)
 have HBI := Lib.hid (hbi.then hba)
 have HA5 := Lib.hid (HA4.out.then (Below.call hb5 hba))
 have HU5 := Lib.hid (HU4.out.then (Below.call hb5 hba))
 have HS5 := Lib.hid (HS4.out.below (Below.call hb5 hba))
 have HT5 := Lib.hid (HT4.out.below (Below.call hb5 hba))
 have HR5 := Lib.hid (show SkAt v5 w5.heap.size b by rw [hv5]; exact Cells6.new w5 _ _ _ _ _ _ _)
 clear hbb hbi hb5 hba HU4 HS4 HB4 HA4 HT4
 go_wp2_with fail
 rw [← hv5]
 --CUT4
 clear hv5
 generalize w5.heap.size = Gb at *
 refine (HLV.out v5).mono ?_
 rintro e w6 ⟨rfl, hb6⟩
 have HB6 := Lib.hid (Below.call HB5.out hb6)
 have HBI6 := Lib.hid (HBI.out.then hb6)
 have HA6 := Lib.hid (HA5.out.then hb6)
 have HU6 := Lib.hid (HU5.out.then hb6)
 have HS6 := Lib.hid (HS5.out.below hb6)
 have HT6 := Lib.hid (HT5.out.below hb6)
 have HR6 := Lib.hid (HR5.out.below hb6)
 clear hb6 HB5 HBI HA5 HU5 HS5 HT5 HR5
 obtain ⟨a0, a1, a2, a3, a4, a5, -⟩ := HT6.out
 obtain ⟨b0, b1, b2, b3, b4, b5, -⟩ := HR6.out
 go_wp2_with fail
 clear a0 a1 a2 a3 a4 a5 b0 b1 b2 b3 b4 b5
 --CUT5
 refine (HSM.out a b HAB.out w6 HA6.out HBI6.out).mono ?_
 rintro e w7 ⟨rfl, hb7⟩
 have HB7 := Lib.hid (Below.call HB6.out hb7)
 have HA7 := Lib.hid (HA6.out.then hb7)
 have HU7 := Lib.hid (HU6.out.then hb7)
 have HS7 := Lib.hid (HS6.out.below hb7)
 have HT7 := Lib.hid (HT6.out.below hb7)
 clear hb7 HB6 HBI6 HA6 HU6 HS6 HT6 HR6
 have hee : (E != E) = false := by simp
 obtain ⟨t0, t1, t2, t3, t4, t5, -⟩ := HT.out.below HB7.out
 obtain ⟨u0, u1, u2, u3, u4, u5, -⟩ := HS7.out
 go_wp2_with fail
 clear t0 t1 t2 t3 t4 t5 u0 u1 u2 u3 u4 u5 hee
 --CUT6
 refine (HSM.out s u HUA.out.symm w7 (HS0.out.then HB7.out) HU7.out).mono ?_
 rintro e w8 ⟨rfl, hb8⟩
 have HB8 := Lib.hid (Below.call HB7.out hb8)
 have HA8 := Lib.hid (HA7.out.then hb8)
 have HT8 := Lib.hid (HT7.out.below hb8)
 clear hb8 HB7 HA7 HU7 HS7 HT7
 by_cases hE : E = 0
 case neg =>
  have hEb : (E != 0) = true := by simpa using hE
  clear hE
  go_wp2
  go_ret
  exact ⟨rfl, Below.call HB0.out HB8.out⟩
 have HRT := Lib.hid (show rgS d a.ab = true from by rw [HAA.out, if_pos hE]; exact (HOR.out hE).1)
 subst hE
 obtain ⟨d0, d1, d2, d3, -⟩ := HK.out.below HB8.out
 obtain ⟨a0, a1, a2, a3, a4, a5, -⟩ := HT8.out
 go_wp2_with fail
 clear d0 d1 d2 d3 a0 a1 a2 a3 a4 a5
 --CUT7
 refine (HRG.out a w8 HB8.out HA8.out).mono ?_
 rw [HRT.out]
 rintro e w9 ⟨rfl, hb9⟩
 have HB9 := Lib.hid (Below.call HB0.out (Below.call HB8.out hb9))
 clear hb9
 go_wp2
 go_ret
 exact ⟨rfl, HB9.out⟩
end Go.Proofs.YtacjonncakhhmaaGreat
namespace Go.Proofs.YtacjonncakhhmaaGreat
open Go.ChangeShapes Go.WideShapes Go.ChangeAt Go.RowKit Go.Deep
theorem own : ownKnob Tryz.prog.godebug = none := by kernel_rfl
theorem laidOut : laidOutB Tryz.prog = true := by kernel_rfl
theorem int_fits {n : Int} (h : (Lit.int .i64 n).wf = true) : fits n := by
 have : -9223372036854775808 ≤ n ∧ n ≤ 9223372036854775807 := by simpa [Lit.wf, IntKind.min, IntKind.max, IntKind.signed, IntKind.bits] using h
 exact this
theorem fl_fits {n : Nat} (h : (Lit.float .f64 n).wf = true) : n < 18446744073709551616 := by simpa [Lit.wf] using h
/-- A list that came in, whatever its elements are. -/
theorem Lk.opened {P : Program} {α : Type} {K : Lk P α} {H : Type} {enc : TypeId × Value → H} {w : World} (Q : α → Prop) (hcells : P.cellsOf K.E = K.n)
  (each : ∀ (fuel : Nat) (cs : List Value) (x : DataW H × List MemPlace), DataW.trod enc P w 0 (fun _ => true) true fuel K.E cs = some x → ∃ y : α, cs = K.cells y ∧ K.ok y ∧ Q y)
  {fuel : Nat} {cs : List Value} {x : DataW H × List MemPlace} (h : DataW.trod enc P w 0 (fun _ => true) true fuel K.S cs = some x) :
  ∃ v xs, cs = [v] ∧ K.IsL w w.heap.size v xs ∧ ∀ y ∈ xs, Q y := by
 rcases open_slice K.und h with ⟨rfl, _⟩ | ⟨a, len, cap, m, n, D, Pl, rfl, hb, hl, hm, hmm, rfl, hx⟩
 ·exact ⟨_, [], rfl, IsL.nil _ _ _ _, fun y hy => by simp at hy⟩
 ·rw [if_pos rfl] at hmm
  subst hmm
  have hm' : m ≤ 9223372036854775807 := by unfold maxLen at hm; omega
  rcases Nat.eq_zero_or_pos len with h0 | h0
  ·subst h0
   exact ⟨_, [], rfl, IsL.nil _ _ _ _, fun y hy => by simp at hy⟩
  have hi : Inhabited α := ⟨K.dflt⟩
  obtain ⟨Y, hY⟩ := choose_lt (α := α) (n := len) (p := fun i y => K.ok y ∧ Q y ∧ ∀ j, j < K.n → w.cell? ((a.add (i * K.n)).add j) = (K.cells y)[j]?) (fun i hi => by
   obtain ⟨cs', h1, h2⟩ := hx i (by omega)
   rw [hcells] at h1
   obtain ⟨y, rfl, hy, hq⟩ := each _ _ _ h2
   obtain ⟨_, _, hcell⟩ := World.cells?_some h1
   exact ⟨y, hy, hq, hcell⟩)
  have hpos := K.pos
  obtain ⟨b, off, spot⟩ := a
  have h00 := (hY 0 h0).2.2 0 hpos
  obtain ⟨u0, hu0⟩ : ∃ u, (K.cells (Y 0))[0]? = some u := ⟨_, List.getElem?_eq_getElem (by rw [K.len]; exact hpos)⟩
  rw [hu0] at h00
  have hspot : spot = none := by simpa [Addr.add] using World.cell?_spot h00
  subst hspot
  have hlen : ((List.range len).map Y).length = len := by simp
  refine ⟨_, (List.range len).map Y, rfl, ⟨⟨some ⟨b, off, none⟩, m, by rw [hlen], by rw [hlen]; exact hl, fun _ => ⟨b, off, rfl, ?_, fun i hi j u hu => ?_⟩⟩, fun y hy => ?_, by rw [hlen]; omega⟩, fun y hy => ?_⟩
  ·have e := World.block_lt_of_cell? w _ h00
   simpa [Addr.add] using e
  ·rw [hlen] at hi
   have hj : j < K.n := by
    have := (List.getElem?_eq_some_iff.1 hu).1
    rw [K.len] at this
    exact this
   have e := (hY i hi).2.2 j hj
   rw [add_plain, add_plain] at e
   have hget : ((List.range len).map Y).getD i K.dflt = Y i := by
    rw [List.getD_eq_getElem?_getD, List.getElem?_map, List.getElem?_range hi]
    rfl
   rw [hget] at hu
   rw [← Nat.add_assoc, e, hu]
  ·obtain ⟨i, hi, rfl⟩ := List.mem_map.1 hy
   exact (hY i (List.mem_range.1 hi)).1
  ·obtain ⟨i, hi, rfl⟩ := List.mem_map.1 hy
   exact (hY i (List.mem_range.1 hi)).2.1
theorem trod_float {H : Type} {enc : TypeId × Value → H} {P : Program} {w : World} {base : Nat} {spare : Nat → Bool} {held : Bool} {fuel : Nat} {t : TypeId} {cs : List Value} {x : DataW H × List MemPlace} {k : FloatKind} (ht : P.underlying t = some (.float k)) (h : DataW.trod enc P w base spare held fuel t cs = some x) : ∃ n, cs = [.float k n] ∧ (Lit.float k n).wf = true := by
 cases fuel with
 | zero => simp [DataW.trod] at h
 | succ n =>
  unfold DataW.trod at h
  rw [ht] at h
  split at h <;> simp_all
end Go.Proofs.YtacjonncakhhmaaGreat

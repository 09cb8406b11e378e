/- Histories: a map of courses: the program. -/
import Derived.Test.YtbfklpopodmalaaHL
import Derived.Maps.OwnSet
import Derived.DeepKeys4
namespace Go.Proofs.Ytbfklpopodmalaa
open Go.RowKit Go.Maps
theorem laidH : laidOutB Try.prog = true := by kernel_rfl
theorem lawC : Keyed Try.prog 31 := Keyed.of_law (deep_law_laid laidH (m := 2) (by omega) (of_decide_eq_true (by kernel_rfl)) (by kernel_rfl) (by rw [Try.underlying31]))
def ck (c : Int × Int) : Lit := .string (keyBytes [.int .i64 c.1, .int .i64 c.2])
theorem fits_lit {x : Int} (h : fits x) : (Lit.int .i64 x).wf = true := by simpa [Lit.wf, IntKind.min, IntKind.max, IntKind.signed, IntKind.bits, fits] using h
theorem kt : Try.prog.keyType 31 = true := by kernel_rfl
theorem kc1 : Try.prog.cellsOf 31 = 2 := by kernel_rfl
theorem kc2 : Try.prog.cellsOf 3 = 1 := by kernel_rfl
theorem kfm (a b : Int) : (Value.agg #[.int .i64 a, .int .i64 b]).formed Try.prog 31 = true := by
  simp [Value.formed, Try.underlying31, kc1]
theorem kn : ∃ n, Try.prog.types.size = n + 1 := ⟨Try.prog.types.size - 1, by have : 0 < Try.prog.types.size := of_decide_eq_true (by kernel_rfl); omega⟩
theorem kli (P : Program) (hu : P.underlying 3 = some (.int .i64)) (n : Nat) (x : Int) (h : (Lit.int .i64 x).wf = true) : P.keyLits (n + 1) 3 [.int .i64 x] = some [.int .i64 x] := by
  simp [Program.keyLits, hu, h]
theorem kls (P : Program) (hu3 : P.underlying 3 = some (.int .i64)) (d : TypeDesc) (hd : Try.prog.underlying 31 = some d) (hu : P.underlying 31 = some d) (hc : P.cellsOf 31 = 2) (hc3 : P.cellsOf 3 = 1) (n : Nat) (x y : Int) (hx : (Lit.int .i64 x).wf = true) (hy : (Lit.int .i64 y).wf = true) :
    P.keyLits (n + 2) 31 [.int .i64 x, .int .i64 y] = some [.int .i64 x, .int .i64 y] := by
  rw [Try.underlying31] at hd
  cases hd
  have k1 := kli P hu3 n x hx
  have k2 := kli P hu3 n y hy
  simp [Program.keyLits, hu, hu3, hc, hc3, hx, hy]
theorem kof (P : Program) (v : Value) (l : List Lit) (d : TypeDesc) (hd : Try.prog.underlying 31 = some d) (hu : P.underlying 31 = some d) (t1 : P.keyType 31 = true) (t2 : v.formed P 31 = true) (t3 : P.keyLits (P.types.size + 1) 31 v.cells.toList = some l) : keyOf P 31 v = some (.string (keyBytes l)) := by
  rw [Try.underlying31] at hd
  cases hd
  unfold keyOf
  rw [hu]
  simp only [t1, t2, t3, Bool.and_self, if_true, Option.map_some]
theorem keyC {c : Int × Int} (h : KC.ok c) : keyOf Try.prog 31 (.agg #[.int .i64 c.1, .int .i64 c.2]) = some (ck c) := by
  obtain ⟨n, hn⟩ := kn
  exact kof Try.prog _ _ _ Try.underlying31 Try.underlying31 kt (kfm _ _) (by rw [hn]; exact kls Try.prog Try.underlying3 _ Try.underlying31 Try.underlying31 kc1 kc2 n _ _ (fits_lit h.1) (fits_lit h.2))
theorem ck_inj {c d : Int × Int} (hc : KC.ok c) (hd : KC.ok d) (h : ck c = ck d) : c = d := by
  have := lawC.inj (keyC hc) (h ▸ keyC hd)
  simp only [Value.agg.injEq, Array.mk.injEq, List.cons.injEq, Value.int.injEq, true_and, and_true] at this
  exact Prod.ext this.1 this.2
/-- Two numbers as an element of a map. -/
def crD (p : Int × Int) : DataW Unit := .agg [.lit (.int .i64 p.1), .lit (.int .i64 p.2)]
def crR : Value → Option (DataW Unit × List MemPlace)
  | .agg ⟨[.int .i64 x, .int .i64 y]⟩ => some (crD (x, y), [])
  | _ => none
theorem crR_mk (x y : Int) : crR (.agg #[.int .i64 x, .int .i64 y]) = some (crD (x, y), []) := rfl
theorem crR_inv {v : Value} {z : DataW Unit × List MemPlace} (h : crR v = some z) : ∃ p : Int × Int, v = .agg #[.int .i64 p.1, .int .i64 p.2] ∧ z = (crD p, []) := by
  unfold crR at h
  split at h
  · rename_i x y
    cases h
    exact ⟨(x, y), rfl, rfl⟩
  · cases h
theorem crD_inj {p q : Int × Int} (h : crD p = crD q) : p = q := by
  unfold crD at h
  injection h with h
  simp only [List.cons.injEq, DataW.lit.injEq, Lit.int.injEq, true_and, and_true] at h
  exact Prod.ext h.1 h.2
def crs (h : List Ev) (c : Int × Int) : Int × Int := ((pl h 1 c : Nat), (pl h 3 c : Nat))
theorem crs_of {h : List Ev} {c : Int × Int} {a b : Int} (e1 : a = (pl h 1 c : Nat)) (e2 : b = (pl h 3 c : Nat)) : (a, b) = crs h c := Prod.ext e1 e2
/-- A map that reads as the courses of a history's calls. -/
structure Rc (D : DataW Unit) (h : List Ev) : Prop where
  cr : ∀ c, KC.ok c → D.atKey (ck c) (crD (0, 0)) = crD (crs h c)
  has : ∀ c, KC.ok c → Maps.has D (ck c) = decide (c ∈ h.map Ev.c)
  only : ∀ kl, Maps.has D kl = true → ∃ c, KC.ok c ∧ c ∈ h.map Ev.c ∧ kl = ck c
theorem Rc.nil : Rc (.map []) [] := ⟨fun _ _ => rfl, fun _ _ => rfl, fun kl h => by cases h⟩
theorem crs_other {h : List Ev} {d : Ev} {c : Int × Int} (e : d.c ≠ c) : crs (h ++ [d]) c = crs h c := by
  unfold crs
  rw [pl_snoc, pl_snoc, if_neg (fun a => e a.2.2), if_neg (fun a => e a.2.2)]
theorem Rc.put {D : DataW Unit} {h : List Ev} (r : Rc D h) (hT : IsMap D) (d : Ev) (hd : KC.ok d.c) : Rc (D.put (ck d.c) (crD (crs (h ++ [d]) d.c))) (h ++ [d]) := by
  refine ⟨fun c hc => ?_, fun c hc => ?_, fun kl hk => ?_⟩
  · by_cases e : d.c = c
    · subst e
      rw [Maps.atKey_put_same (k := ck d.c) hT trivial]
    · rw [Maps.atKey_put_other (fun a => e (ck_inj hc hd a).symm), r.cr c hc, crs_other e]
  · rw [List.map_append]
    by_cases e : d.c = c
    · subst e
      rw [Maps.has_put_same (k := ck d.c) hT trivial]
      exact (decide_eq_true (by simp)).symm
    · rw [Maps.has_put_other (fun a => e (ck_inj hc hd a).symm), r.has c hc, decide_eq_decide, List.mem_append]
      refine ⟨Or.inl, fun a => a.elim id fun a => ?_⟩
      rw [List.map_singleton, List.mem_singleton] at a
      exact absurd a.symm e
  · by_cases e : kl = ck d.c
    · exact ⟨d.c, hd, by simp, e⟩
    · rw [Maps.has_put_other e] at hk
      obtain ⟨c, h1, h2, h3⟩ := r.only kl hk
      exact ⟨c, h1, by rw [List.map_append]; exact List.mem_append.2 (.inl h2), h3⟩
def Mc (w : World) (b n : Nat) (h : List Ev) : Prop := ∃ D, w.ownsMap Try.prog 31 crR b n D ∧ Rc D h
theorem bgrow {w w' : World} (hb : Below w.heap.size w w') : w.grownBy w' none := ⟨hb.os, hb.tape, hb.output, hb.size, fun i hi _ => hb.block i hi⟩
theorem Mc.then {w w' : World} {b n : Nat} {h : List Ev} (m : Mc w b n h) (hb : Below w.heap.size w w') : Mc w' b n h := let ⟨D, o, r⟩ := m; ⟨D, o.kept (bgrow hb) (by simp), r⟩
theorem Mc.lt {w : World} {b n : Nat} {h : List Ev} (m : Mc w b n h) : b < w.heap.size := let ⟨_, o, _⟩ := m; o.lt
theorem zeroC (w : World) : (zeroValue 46).run Try.prog w = .ok (.agg #[.int .i64 0, .int .i64 0]) w := by kernel_rfl
theorem Mc.look {w : World} {b n : Nat} {h : List Ev} (m : Mc w b n h) {c1 c2 : Int} (hc : KC.ok (c1, c2)) : (Instr.lookup 43 (.map (some b)) (.agg #[.int .i64 c1, .int .i64 c2]) false).run Try.prog w = .ok (.agg #[.int .i64 (pl h 1 (c1, c2) : Nat), .int .i64 (pl h 3 (c1, c2) : Nat)]) w := by
  obtain ⟨D, o, r⟩ := m
  obtain ⟨v, ps, hr, hv⟩ := o.lookup lawC Try.underlying43 (zeroC w) (crR_mk 0 0) (keyC hc)
  rw [r.cr _ hc] at hv
  obtain ⟨p, rfl, hp⟩ := crR_inv hv
  have := crD_inj (congrArg Prod.fst hp)
  rw [hr, ← this]
  rfl
theorem Mc.store {w : World} {b n : Nat} {h : List Ev} (m : Mc w b n h) (hn : n < maxLen) (d : Ev) (hd : KC.ok d.c) {a1 a2 : Int} (e : (a1, a2) = crs (h ++ [d]) d.c) :
    ∃ w', (Instr.mapUpdate 43 (.map (some b)) (.agg #[.int .i64 d.w, .int .i64 d.n]) (.agg #[.int .i64 a1, .int .i64 a2])).run Try.prog w = .ok () w' ∧ Mc w' b (n + 1) (h ++ [d]) ∧ w.grownBy w' (some b) := by
  obtain ⟨D, o, r⟩ := m
  obtain ⟨w', hr, ho, hg⟩ := o.update lawC Try.underlying43 hn (keyC hd) (crR_mk a1 a2)
  refine ⟨w', hr, ⟨_, ho, ?_⟩, hg⟩
  rw [e]
  exact r.put o.isMap d hd
theorem cell_grown {w w' : World} {b o : Nat} {row : Option Nat} {v : Value} (h : w.cell? ⟨b, o, none⟩ = some v) (hg : w.grownBy w' row) (hb : b < w.heap.size) (hne : some b ≠ row) : w'.cell? ⟨b, o, none⟩ = some v := by
  have e := hg.block b hb hne
  have : w'.cell? ⟨b, o, none⟩ = w.cell? ⟨b, o, none⟩ := by simp only [World.cell?, e]
  rw [this, h]

theorem Mc.setC {w : World} {b n B o : Nat} {h : List Ev} (m : Mc w b n h) (hne : B ≠ b) (v : Value) : Mc (w.setCell ⟨B, o, none⟩ v) b n h := let ⟨D, q, r⟩ := m; ⟨D, q.setCell (fun e => hne e.symm) v, r⟩
set_option maxRecDepth 100000 in
set_option maxHeartbeats 4000000 in

theorem courses_any (v : Value) (h : List Ev) (w : World) (hv : KE.IsL w w.heap.size v h) (hl : h.length ≤ 1000) :
    Calls Try.prog 21 #[v] w fun e w' => e = .returned (.map (some w.heap.size)) ∧ Mc w' w.heap.size h.length h ∧ Below w.heap.size w w' := by
  have HV := Lib.hid hv
  obtain ⟨A, c, rfl, hc⟩ := hv.shape
  clear hv
  have hmm := @run_makeMap Try.prog
  have HM0 := Lib.hid (show Mc (w.alloc (.map #[] 0)) w.heap.size 0 [] from ⟨_, World.ownsMap_made w Try.prog 31 _, Rc.nil⟩)
  have HTL := Lib.hid (fun k (hk : k < h.length) => take_snoc h k ev0 hk)
  go_enter Try.func21, Try.ntmps21
  go_wp2
  go_loopg [10] h.length (fun gh i wr => ∃ k : Nat, k ≤ h.length ∧ gh = h.length - k ∧ i = .int .i64 k ∧ Mc wr w.heap.size k (h.take k) ∧ Below w.heap.size w wr)
  case atStart => exact ⟨0, Nat.zero_le _, rfl, rfl, HM0.out, Below.al (Below.refl _ _) _⟩
  case round =>
    obtain ⟨k, hk, rfl, rfl, hmc, hbl⟩ := hrel
    have HM := Lib.hid hmc
    have HB := Lib.hid hbl
    have HWB := Lib.hid hmc.lt
    clear hmc hbl
    by_cases hlt : k < h.length
    · have HTS := Lib.hid (HTL.out k hlt)
      obtain ⟨b, off, rfl, hb, _, hcell⟩ := ev_cells (HV.out.then HB.out) (by omega)
      obtain ⟨e0, e1, e2, e3⟩ := hcell k hlt
      have HFO := Lib.hid ((HV.out.2.1 _ (getD_mem' h k ev0 hlt)))
      clear hcell
      obtain ⟨d, hd⟩ : ∃ d, h.getD k ev0 = d := ⟨_, rfl⟩
      rw [hd] at HTS HFO e0 e1 e2 e3
      clear hd
      obtain ⟨dk, dw, dn, da⟩ := d
      simp only at e0 e1 e2 e3
      have HOK := Lib.hid (show KC.ok (dw, dn) from ⟨HFO.out.2.1, HFO.out.2.2.1⟩)
      have HOF := Lib.hid (fun w => callOf_any ⟨dk, dw, dn, da⟩ w)
      obtain ⟨wo, hwo⟩ : ∃ wo, wo = wr.alloc (.cells #[.int .i64 dk, .int .i64 dw, .int .i64 dn, .int .i64 da] 35) := ⟨_, rfl⟩
      have hbo : Below wr.heap.size wr wo := by rw [hwo]; exact Below.al (Below.refl _ _) _
      have HBo := Lib.hid (Below.call HB.out hbo)
      have HMo := Lib.hid (HM.out.then hbo)
      have HSo := Lib.hid (show wr.heap.size < wo.heap.size by rw [hwo]; simp)
      have y0 : wo.cell? ⟨wr.heap.size, 0, none⟩ = some (.int .i64 dk) := by rw [hwo]; simp [go_sem]
      have y1 : wo.cell? ⟨wr.heap.size, 1, none⟩ = some (.int .i64 dw) := by rw [hwo]; simp [go_sem]
      have y2 : wo.cell? ⟨wr.heap.size, 2, none⟩ = some (.int .i64 dn) := by rw [hwo]; simp [go_sem]
      have y3 : wo.cell? ⟨wr.heap.size, 3, none⟩ = some (.int .i64 da) := by rw [hwo]; simp [go_sem]
      go_upto_region 5 with fail
      rw [← hwo]
      clear hwo e0 e1 e2 e3 hbo
      go_wp2_with fail
      refine (HOF.out _).mono ?_
      rintro e w2 ⟨rfl, hb2⟩
      have HB2 := Lib.hid (Below.call HBo.out hb2)
      have HM2 := Lib.hid (HMo.out.then hb2)
      have hlk := HM2.out.look HOK.out
      have y0 := keep_cell hb2 y0
      have y1 := keep_cell hb2 y1
      have y2 := keep_cell hb2 y2
      have y3 := keep_cell hb2 y3
      have HS2 := Lib.hid (Nat.lt_of_lt_of_le HSo.out hb2.size)
      have HP1 := Lib.hid (fun q => pl_snoc (h.take k) ⟨dk, dw, dn, da⟩ q (dw, dn))
      have hkl : (h.take k).length = k := by rw [List.length_take]; omega
      rw [hkl] at HP1
      obtain ⟨p1, hp1⟩ : ∃ p, pl (h.take k) 1 (dw, dn) = p := ⟨_, rfl⟩
      obtain ⟨p3, hp3⟩ : ∃ p, pl (h.take k) 3 (dw, dn) = p := ⟨_, rfl⟩
      have HQ1 := Lib.hid (HP1.out 1)
      have HQ3 := Lib.hid (HP1.out 3)
      rw [hp1] at HQ1 hlk
      rw [hp3] at HQ3 hlk
      clear hb2 HP1 hp1 hp3 hkl HM0
      obtain ⟨w3, hw3⟩ : ∃ w3, w3 = w2.alloc (.cells #[.int .i64 (p1 : Nat), .int .i64 (p3 : Nat)] 46) := ⟨_, rfl⟩
      have hb3 : Below w2.heap.size w2 w3 := by rw [hw3]; exact Below.al (Below.refl _ _) _
      have HB3 := Lib.hid (Below.call HB2.out hb3)
      have HM3 := Lib.hid (HM2.out.then hb3)
      replace y0 := keep_cell hb3 y0
      replace y1 := keep_cell hb3 y1
      replace y2 := keep_cell hb3 y2
      replace y3 := keep_cell hb3 y3
      go_upto_region 6 with fail
      clear hlk
      obtain ⟨D, hD⟩ : ∃ D, w2.heap.size = D := ⟨_, rfl⟩
      have HD3 := Lib.hid (show D < w3.heap.size by rw [hw3, ← hD]; simp)
      have x0 : w3.cell? ⟨D, 0, none⟩ = some (.int .i64 (p1 : Nat)) := by rw [hw3, ← hD]; simp [go_sem]
      have x1 : w3.cell? ⟨D, 1, none⟩ = some (.int .i64 (p3 : Nat)) := by rw [hw3, ← hD]; simp [go_sem]
      have z0 : w3.frozen? ⟨D, 0, none⟩ = false := by rw [hw3, ← hD]; simp [go_sem]
      have z1 : w3.frozen? ⟨D, 1, none⟩ = false := by rw [hw3, ← hD]; simp [go_sem]
      rw [← hw3, hD]
      have HDB := Lib.hid (show wr.heap.size < D by rw [← hD]; exact HS2.out)
      have hDR : ∀ i j : Nat, (⟨D, i, none⟩ : Addr) ≠ ⟨wr.heap.size, j, none⟩ := fun i j e => by have := HDB.out; injection e; omega
      clear hw3 hb3 hD
      have hne : Ev.c ⟨dk, dw, dn, da⟩ = (dw, dn) := rfl
      rw [hne] at HQ1 HQ3
      by_cases h1 : dk = 1
      · subst h1
        rw [if_neg (by omega)] at HQ3
        by_cases h2 : p1 = 0
        · subst h2
          rw [if_pos ⟨rfl, rfl, rfl⟩] at HQ1
          have HN := Lib.hid (show (((k : Int) + 1 : Int), (((p3 : Nat) : Int) : Int)) = crs (h.take k ++ [⟨1, dw, dn, da⟩]) (dw, dn) from crs_of (by rw [HQ1.out]; omega) (by rw [HQ3.out]))
          go_upto_region 10 with fail
          obtain ⟨W, hW⟩ : ∃ W, W = w3.setCell ⟨D, 0, none⟩ (.int .i64 ((k : Int) + 1)) := ⟨_, rfl⟩
          rw [← hW]
          replace y0 : W.cell? ⟨wr.heap.size, 0, none⟩ = some (.int .i64 1) := by rw [hW]; exact st_other y0 (hDR _ _)
          replace y1 : W.cell? ⟨wr.heap.size, 1, none⟩ = some (.int .i64 dw) := by rw [hW]; exact st_other y1 (hDR _ _)
          replace y2 : W.cell? ⟨wr.heap.size, 2, none⟩ = some (.int .i64 dn) := by rw [hW]; exact st_other y2 (hDR _ _)
          replace y3 : W.cell? ⟨wr.heap.size, 3, none⟩ = some (.int .i64 da) := by rw [hW]; exact st_other y3 (hDR _ _)
          replace x0 : W.cell? ⟨D, 0, none⟩ = some (.int .i64 ((k : Int) + 1)) := by rw [hW]; exact st_same x0
          replace x1 : W.cell? ⟨D, 1, none⟩ = some (.int .i64 (((p3 : Nat) : Int))) := by rw [hW]; exact st_other x1 (by simp)
          have HBW := Lib.hid (show Below w.heap.size w W by rw [hW]; exact HB3.out.setCell (show w.heap.size ≤ D by have := HDB.out; have := HWB.out; omega) _)
          have HMW := Lib.hid (show Mc W w.heap.size k (h.take k) by rw [hW]; exact HM3.out.setC (by have := HDB.out; have := HWB.out; omega) _)
          have HDW := Lib.hid (show D < W.heap.size by rw [hW]; simpa using HD3.out)
          have HRW := Lib.hid (show wr.heap.size < W.heap.size by rw [hW]; have := HD3.out; have := HDB.out; simp; omega)
          clear hW
          clear hDR z0 z1
          refine wp_region_held_drew (S := fun w' => w'.cell? ⟨wr.heap.size, 0, none⟩ = some (.int .i64 (1)) ∧ w'.cell? ⟨wr.heap.size, 1, none⟩ = some (.int .i64 dw) ∧ w'.cell? ⟨wr.heap.size, 2, none⟩ = some (.int .i64 dn) ∧ w'.cell? ⟨wr.heap.size, 3, none⟩ = some (.int .i64 da) ∧ w'.cell? ⟨D, 0, none⟩ = some (.int .i64 ((k : Int) + 1)) ∧ w'.cell? ⟨D, 1, none⟩ = some (.int .i64 (((p3 : Nat) : Int)))) (by kernel_rfl) ?_ (fun hHeld => ?_)
          · exact ⟨y0, y1, y2, y3, x0, x1⟩
          have HBr := Lib.hid (show Below w.heap.size w W.drew from below_drewN HBW.out 1)
          have HMr := Lib.hid (show Mc W.drew w.heap.size k (h.take k) from HMW.out)
          have HDr := Lib.hid (show D < W.drew.heap.size from HDW.out)
          have HRr := Lib.hid (show wr.heap.size < W.drew.heap.size from HRW.out)
          clear y0 y1 y2 y3 x0 x1
          generalize W.drew = V at *
          refine wpAnyH_take (i := 0) (oi := ⟨some 43, _, _, _, _, _⟩) (v := ?_) rfl (by kernel_rfl) (by kernel_rfl) (by kernel_rfl) (fun _ _ _ h => h) (Or.inl ⟨by kernel_rfl, ?_⟩) (by assumption) ?_
          rotate_left 1
          · ((intro w hSw; (try dsimp only at hSw); go_simp) <;> (try with_reducible rfl))
          (try simp only [Act.put, List.setIfInBounds_toArray, List.set_cons_zero, List.set_cons_succ])
          refine wpAnyH_take (i := 1) (oi := ⟨some 44, _, _, _, _, _⟩) (v := ?_) rfl (by kernel_rfl) (by kernel_rfl) (by kernel_rfl) (fun _ _ _ h => h) (Or.inl ⟨by kernel_rfl, ?_⟩) (by assumption) ?_
          rotate_left 1
          · ((intro w hSw; (try dsimp only at hSw); go_simp) <;> (try with_reducible rfl))
          (try simp only [Act.put, List.setIfInBounds_toArray, List.set_cons_zero, List.set_cons_succ])
          refine wpAnyH_take (i := 3) (oi := ⟨some 46, _, _, _, _, _⟩) (v := ?_) rfl (by kernel_rfl) (by kernel_rfl) (by kernel_rfl) (fun _ _ _ h => h) (Or.inl ⟨by kernel_rfl, ?_⟩) (by assumption) ?_
          rotate_left 1
          · ((intro w hSw; (try dsimp only at hSw); go_simp) <;> (try with_reducible rfl))
          (try simp only [Act.put, List.setIfInBounds_toArray, List.set_cons_zero, List.set_cons_succ])
          refine wpAnyH_ready (rs := [2]) (by kernel_rfl) (by simp) ?_
          refine AllReadyH.cons (o := ⟨some 45, _, _, _, _, _⟩) rfl (fun K hK => ?_) AllReadyH.nil
          go_simp
          (with_reducible refine (HOF.out _).mono ?_)
          rintro e wv ⟨rfl, hb⟩
          obtain ⟨s0, s1, s2, s3, s4, s5⟩ := hHeld
          replace s0 := keep_cell hb s0
          replace s1 := keep_cell hb s1
          replace s2 := keep_cell hb s2
          replace s3 := keep_cell hb s3
          replace s4 := keep_cell hb s4
          replace s5 := keep_cell hb s5
          have HBv := Lib.hid (Below.call HBr.out hb)
          have HMv := Lib.hid (HMr.out.then hb)
          have HDv := Lib.hid (Nat.lt_of_lt_of_le HDr.out hb.size)
          have HRv := Lib.hid (Nat.lt_of_lt_of_le HRr.out hb.size)
          clear hb
          go_wp2_with fail
          refine hK.out _ _ ⟨s0, s1, s2, s3, s4, s5⟩ (fun hHeld => ?_)
          clear hK K s0 s1 s2 s3 s4 s5
          (try simp only [Act.put, List.setIfInBounds_toArray, List.set_cons_zero, List.set_cons_succ])
          refine wpAnyH_ready (rs := [4]) (by kernel_rfl) (by simp) ?_
          refine AllReadyH.cons (o := ⟨none, _, _, _, _, _⟩) rfl (fun K hK => ?_) AllReadyH.nil
          obtain ⟨wz, hrun, hmz, hgz⟩ := HMv.out.store (by unfold maxLen; omega) ⟨1, dw, dn, da⟩ HOK.out HN.out
          simp only at hrun
          have HMz := Lib.hid hmz
          have HBz := Lib.hid (HBv.out.grown hgz HBv.out.size (fun j hj => by cases hj; exact Nat.le_refl _))
          obtain ⟨s0, s1, s2, s3, s4, s5⟩ := hHeld
          have h1 : some wr.heap.size ≠ some w.heap.size := fun e => by have := HWB.out; injection e; omega
          have h2 : some D ≠ some w.heap.size := fun e => by have := HWB.out; have := HDB.out; injection e; omega
          have F := Lib.hid (And.intro (cell_grown s0 hgz HRv.out h1) (And.intro (cell_grown s1 hgz HRv.out h1) (And.intro (cell_grown s2 hgz HRv.out h1) (And.intro (cell_grown s3 hgz HRv.out h1) (And.intro (cell_grown s4 hgz HDv.out h2) (cell_grown s5 hgz HDv.out h2))))))
          clear h1 h2 hmz hgz s0 s1 s2 s3 s4 s5
          go_simp
          refine hK.out _ _ F.out (fun hHeld => ?_)
          clear hK K hrun hHeld
          (try simp only [Act.put, List.setIfInBounds_toArray, List.set_cons_zero, List.set_cons_succ])
          refine wpAnyH_done (by kernel_rfl) ?_ _
          go_wp2
          go_roundg (h.length - (k + 1))
          case measure => omega
          case rel => exact ⟨k + 1, by omega, rfl, num_i (by omega), by rw [HTS.out]; exact HMz.out, HBz.out⟩
        · rw [if_neg (fun a => h2 a.1)] at HQ1
          have hq : ((p1 : Int) == 0) = false := by rw [beq_eq_false_iff_ne]; omega
          have hq' : decide (p1 = 0) = false := decide_eq_false h2
          have HN := Lib.hid (show ((((p1 : Nat) : Int) : Int), (((p3 : Nat) : Int) : Int)) = crs (h.take k ++ [⟨1, dw, dn, da⟩]) (dw, dn) from crs_of (by rw [HQ1.out]) (by rw [HQ3.out]))
          go_upto_region 10 with fail
          obtain ⟨W, hW⟩ : ∃ W, W = w3 := ⟨_, rfl⟩
          rw [← hW]
          rw [← hW] at y0 y1 y2 y3 x0 x1
          have HBW := Lib.hid (show Below w.heap.size w W by rw [hW]; exact HB3.out)
          have HMW := Lib.hid (show Mc W w.heap.size k (h.take k) by rw [hW]; exact HM3.out)
          have HDW := Lib.hid (show D < W.heap.size by rw [hW]; exact HD3.out)
          have HRW := Lib.hid (show wr.heap.size < W.heap.size by rw [hW]; have := HD3.out; have := HDB.out; omega)
          clear hW
          clear hDR z0 z1
          refine wp_region_held_drew (S := fun w' => w'.cell? ⟨wr.heap.size, 0, none⟩ = some (.int .i64 (1)) ∧ w'.cell? ⟨wr.heap.size, 1, none⟩ = some (.int .i64 dw) ∧ w'.cell? ⟨wr.heap.size, 2, none⟩ = some (.int .i64 dn) ∧ w'.cell? ⟨wr.heap.size, 3, none⟩ = some (.int .i64 da) ∧ w'.cell? ⟨D, 0, none⟩ = some (.int .i64 (((p1 : Nat) : Int))) ∧ w'.cell? ⟨D, 1, none⟩ = some (.int .i64 (((p3 : Nat) : Int)))) (by kernel_rfl) ?_ (fun hHeld => ?_)
          · exact ⟨y0, y1, y2, y3, x0, x1⟩
          have HBr := Lib.hid (show Below w.heap.size w W.drew from below_drewN HBW.out 1)
          have HMr := Lib.hid (show Mc W.drew w.heap.size k (h.take k) from HMW.out)
          have HDr := Lib.hid (show D < W.drew.heap.size from HDW.out)
          have HRr := Lib.hid (show wr.heap.size < W.drew.heap.size from HRW.out)
          clear y0 y1 y2 y3 x0 x1
          generalize W.drew = V at *
          refine wpAnyH_take (i := 0) (oi := ⟨some 43, _, _, _, _, _⟩) (v := ?_) rfl (by kernel_rfl) (by kernel_rfl) (by kernel_rfl) (fun _ _ _ h => h) (Or.inl ⟨by kernel_rfl, ?_⟩) (by assumption) ?_
          rotate_left 1
          · ((intro w hSw; (try dsimp only at hSw); go_simp) <;> (try with_reducible rfl))
          (try simp only [Act.put, List.setIfInBounds_toArray, List.set_cons_zero, List.set_cons_succ])
          refine wpAnyH_take (i := 1) (oi := ⟨some 44, _, _, _, _, _⟩) (v := ?_) rfl (by kernel_rfl) (by kernel_rfl) (by kernel_rfl) (fun _ _ _ h => h) (Or.inl ⟨by kernel_rfl, ?_⟩) (by assumption) ?_
          rotate_left 1
          · ((intro w hSw; (try dsimp only at hSw); go_simp) <;> (try with_reducible rfl))
          (try simp only [Act.put, List.setIfInBounds_toArray, List.set_cons_zero, List.set_cons_succ])
          refine wpAnyH_take (i := 3) (oi := ⟨some 46, _, _, _, _, _⟩) (v := ?_) rfl (by kernel_rfl) (by kernel_rfl) (by kernel_rfl) (fun _ _ _ h => h) (Or.inl ⟨by kernel_rfl, ?_⟩) (by assumption) ?_
          rotate_left 1
          · ((intro w hSw; (try dsimp only at hSw); go_simp) <;> (try with_reducible rfl))
          (try simp only [Act.put, List.setIfInBounds_toArray, List.set_cons_zero, List.set_cons_succ])
          refine wpAnyH_ready (rs := [2]) (by kernel_rfl) (by simp) ?_
          refine AllReadyH.cons (o := ⟨some 45, _, _, _, _, _⟩) rfl (fun K hK => ?_) AllReadyH.nil
          go_simp
          (with_reducible refine (HOF.out _).mono ?_)
          rintro e wv ⟨rfl, hb⟩
          obtain ⟨s0, s1, s2, s3, s4, s5⟩ := hHeld
          replace s0 := keep_cell hb s0
          replace s1 := keep_cell hb s1
          replace s2 := keep_cell hb s2
          replace s3 := keep_cell hb s3
          replace s4 := keep_cell hb s4
          replace s5 := keep_cell hb s5
          have HBv := Lib.hid (Below.call HBr.out hb)
          have HMv := Lib.hid (HMr.out.then hb)
          have HDv := Lib.hid (Nat.lt_of_lt_of_le HDr.out hb.size)
          have HRv := Lib.hid (Nat.lt_of_lt_of_le HRr.out hb.size)
          clear hb
          go_wp2_with fail
          refine hK.out _ _ ⟨s0, s1, s2, s3, s4, s5⟩ (fun hHeld => ?_)
          clear hK K s0 s1 s2 s3 s4 s5
          (try simp only [Act.put, List.setIfInBounds_toArray, List.set_cons_zero, List.set_cons_succ])
          refine wpAnyH_ready (rs := [4]) (by kernel_rfl) (by simp) ?_
          refine AllReadyH.cons (o := ⟨none, _, _, _, _, _⟩) rfl (fun K hK => ?_) AllReadyH.nil
          obtain ⟨wz, hrun, hmz, hgz⟩ := HMv.out.store (by unfold maxLen; omega) ⟨1, dw, dn, da⟩ HOK.out HN.out
          simp only at hrun
          have HMz := Lib.hid hmz
          have HBz := Lib.hid (HBv.out.grown hgz HBv.out.size (fun j hj => by cases hj; exact Nat.le_refl _))
          obtain ⟨s0, s1, s2, s3, s4, s5⟩ := hHeld
          have h1 : some wr.heap.size ≠ some w.heap.size := fun e => by have := HWB.out; injection e; omega
          have h2 : some D ≠ some w.heap.size := fun e => by have := HWB.out; have := HDB.out; injection e; omega
          have F := Lib.hid (And.intro (cell_grown s0 hgz HRv.out h1) (And.intro (cell_grown s1 hgz HRv.out h1) (And.intro (cell_grown s2 hgz HRv.out h1) (And.intro (cell_grown s3 hgz HRv.out h1) (And.intro (cell_grown s4 hgz HDv.out h2) (cell_grown s5 hgz HDv.out h2))))))
          clear h1 h2 hmz hgz s0 s1 s2 s3 s4 s5
          go_simp
          refine hK.out _ _ F.out (fun hHeld => ?_)
          clear hK K hrun hHeld
          (try simp only [Act.put, List.setIfInBounds_toArray, List.set_cons_zero, List.set_cons_succ])
          refine wpAnyH_done (by kernel_rfl) ?_ _
          go_wp2
          go_roundg (h.length - (k + 1))
          case measure => omega
          case rel => exact ⟨k + 1, by omega, rfl, num_i (by omega), by rw [HTS.out]; exact HMz.out, HBz.out⟩
      · rw [if_neg (fun a => h1 a.2.1)] at HQ1
        have hq1 : (dk == 1) = false := by rw [beq_eq_false_iff_ne]; exact h1
        by_cases h3 : dk = 3
        · subst h3
          by_cases h2 : p3 = 0
          · subst h2
            rw [if_pos ⟨rfl, rfl, rfl⟩] at HQ3
            have HN := Lib.hid (show ((((p1 : Nat) : Int) : Int), ((k : Int) + 1 : Int)) = crs (h.take k ++ [⟨3, dw, dn, da⟩]) (dw, dn) from crs_of (by rw [HQ1.out]) (by rw [HQ3.out]; omega))
            go_upto_region 10 with fail
            obtain ⟨W, hW⟩ : ∃ W, W = w3.setCell ⟨D, 1, none⟩ (.int .i64 ((k : Int) + 1)) := ⟨_, rfl⟩
            rw [← hW]
            replace y0 : W.cell? ⟨wr.heap.size, 0, none⟩ = some (.int .i64 3) := by rw [hW]; exact st_other y0 (hDR _ _)
            replace y1 : W.cell? ⟨wr.heap.size, 1, none⟩ = some (.int .i64 dw) := by rw [hW]; exact st_other y1 (hDR _ _)
            replace y2 : W.cell? ⟨wr.heap.size, 2, none⟩ = some (.int .i64 dn) := by rw [hW]; exact st_other y2 (hDR _ _)
            replace y3 : W.cell? ⟨wr.heap.size, 3, none⟩ = some (.int .i64 da) := by rw [hW]; exact st_other y3 (hDR _ _)
            replace x1 : W.cell? ⟨D, 1, none⟩ = some (.int .i64 ((k : Int) + 1)) := by rw [hW]; exact st_same x1
            replace x0 : W.cell? ⟨D, 0, none⟩ = some (.int .i64 (((p1 : Nat) : Int))) := by rw [hW]; exact st_other x0 (by simp)
            have HBW := Lib.hid (show Below w.heap.size w W by rw [hW]; exact HB3.out.setCell (show w.heap.size ≤ D by have := HDB.out; have := HWB.out; omega) _)
            have HMW := Lib.hid (show Mc W w.heap.size k (h.take k) by rw [hW]; exact HM3.out.setC (by have := HDB.out; have := HWB.out; omega) _)
            have HDW := Lib.hid (show D < W.heap.size by rw [hW]; simpa using HD3.out)
            have HRW := Lib.hid (show wr.heap.size < W.heap.size by rw [hW]; have := HD3.out; have := HDB.out; simp; omega)
            clear hW
            clear hDR z0 z1
            refine wp_region_held_drew (S := fun w' => w'.cell? ⟨wr.heap.size, 0, none⟩ = some (.int .i64 (3)) ∧ w'.cell? ⟨wr.heap.size, 1, none⟩ = some (.int .i64 dw) ∧ w'.cell? ⟨wr.heap.size, 2, none⟩ = some (.int .i64 dn) ∧ w'.cell? ⟨wr.heap.size, 3, none⟩ = some (.int .i64 da) ∧ w'.cell? ⟨D, 0, none⟩ = some (.int .i64 (((p1 : Nat) : Int))) ∧ w'.cell? ⟨D, 1, none⟩ = some (.int .i64 ((k : Int) + 1))) (by kernel_rfl) ?_ (fun hHeld => ?_)
            · exact ⟨y0, y1, y2, y3, x0, x1⟩
            have HBr := Lib.hid (show Below w.heap.size w W.drew from below_drewN HBW.out 1)
            have HMr := Lib.hid (show Mc W.drew w.heap.size k (h.take k) from HMW.out)
            have HDr := Lib.hid (show D < W.drew.heap.size from HDW.out)
            have HRr := Lib.hid (show wr.heap.size < W.drew.heap.size from HRW.out)
            clear y0 y1 y2 y3 x0 x1
            generalize W.drew = V at *
            refine wpAnyH_take (i := 0) (oi := ⟨some 43, _, _, _, _, _⟩) (v := ?_) rfl (by kernel_rfl) (by kernel_rfl) (by kernel_rfl) (fun _ _ _ h => h) (Or.inl ⟨by kernel_rfl, ?_⟩) (by assumption) ?_
            rotate_left 1
            · ((intro w hSw; (try dsimp only at hSw); go_simp) <;> (try with_reducible rfl))
            (try simp only [Act.put, List.setIfInBounds_toArray, List.set_cons_zero, List.set_cons_succ])
            refine wpAnyH_take (i := 1) (oi := ⟨some 44, _, _, _, _, _⟩) (v := ?_) rfl (by kernel_rfl) (by kernel_rfl) (by kernel_rfl) (fun _ _ _ h => h) (Or.inl ⟨by kernel_rfl, ?_⟩) (by assumption) ?_
            rotate_left 1
            · ((intro w hSw; (try dsimp only at hSw); go_simp) <;> (try with_reducible rfl))
            (try simp only [Act.put, List.setIfInBounds_toArray, List.set_cons_zero, List.set_cons_succ])
            refine wpAnyH_take (i := 3) (oi := ⟨some 46, _, _, _, _, _⟩) (v := ?_) rfl (by kernel_rfl) (by kernel_rfl) (by kernel_rfl) (fun _ _ _ h => h) (Or.inl ⟨by kernel_rfl, ?_⟩) (by assumption) ?_
            rotate_left 1
            · ((intro w hSw; (try dsimp only at hSw); go_simp) <;> (try with_reducible rfl))
            (try simp only [Act.put, List.setIfInBounds_toArray, List.set_cons_zero, List.set_cons_succ])
            refine wpAnyH_ready (rs := [2]) (by kernel_rfl) (by simp) ?_
            refine AllReadyH.cons (o := ⟨some 45, _, _, _, _, _⟩) rfl (fun K hK => ?_) AllReadyH.nil
            go_simp
            (with_reducible refine (HOF.out _).mono ?_)
            rintro e wv ⟨rfl, hb⟩
            obtain ⟨s0, s1, s2, s3, s4, s5⟩ := hHeld
            replace s0 := keep_cell hb s0
            replace s1 := keep_cell hb s1
            replace s2 := keep_cell hb s2
            replace s3 := keep_cell hb s3
            replace s4 := keep_cell hb s4
            replace s5 := keep_cell hb s5
            have HBv := Lib.hid (Below.call HBr.out hb)
            have HMv := Lib.hid (HMr.out.then hb)
            have HDv := Lib.hid (Nat.lt_of_lt_of_le HDr.out hb.size)
            have HRv := Lib.hid (Nat.lt_of_lt_of_le HRr.out hb.size)
            clear hb
            go_wp2_with fail
            refine hK.out _ _ ⟨s0, s1, s2, s3, s4, s5⟩ (fun hHeld => ?_)
            clear hK K s0 s1 s2 s3 s4 s5
            (try simp only [Act.put, List.setIfInBounds_toArray, List.set_cons_zero, List.set_cons_succ])
            refine wpAnyH_ready (rs := [4]) (by kernel_rfl) (by simp) ?_
            refine AllReadyH.cons (o := ⟨none, _, _, _, _, _⟩) rfl (fun K hK => ?_) AllReadyH.nil
            obtain ⟨wz, hrun, hmz, hgz⟩ := HMv.out.store (by unfold maxLen; omega) ⟨3, dw, dn, da⟩ HOK.out HN.out
            simp only at hrun
            have HMz := Lib.hid hmz
            have HBz := Lib.hid (HBv.out.grown hgz HBv.out.size (fun j hj => by cases hj; exact Nat.le_refl _))
            obtain ⟨s0, s1, s2, s3, s4, s5⟩ := hHeld
            have h1 : some wr.heap.size ≠ some w.heap.size := fun e => by have := HWB.out; injection e; omega
            have h2 : some D ≠ some w.heap.size := fun e => by have := HWB.out; have := HDB.out; injection e; omega
            have F := Lib.hid (And.intro (cell_grown s0 hgz HRv.out h1) (And.intro (cell_grown s1 hgz HRv.out h1) (And.intro (cell_grown s2 hgz HRv.out h1) (And.intro (cell_grown s3 hgz HRv.out h1) (And.intro (cell_grown s4 hgz HDv.out h2) (cell_grown s5 hgz HDv.out h2))))))
            clear h1 h2 hmz hgz s0 s1 s2 s3 s4 s5
            go_simp
            refine hK.out _ _ F.out (fun hHeld => ?_)
            clear hK K hrun hHeld
            (try simp only [Act.put, List.setIfInBounds_toArray, List.set_cons_zero, List.set_cons_succ])
            refine wpAnyH_done (by kernel_rfl) ?_ _
            go_wp2
            go_roundg (h.length - (k + 1))
            case measure => omega
            case rel => exact ⟨k + 1, by omega, rfl, num_i (by omega), by rw [HTS.out]; exact HMz.out, HBz.out⟩
          · rw [if_neg (fun a => h2 a.1)] at HQ3
            have hq : ((p3 : Int) == 0) = false := by rw [beq_eq_false_iff_ne]; omega
            have hq' : decide (p3 = 0) = false := decide_eq_false h2
            have HN := Lib.hid (show ((((p1 : Nat) : Int) : Int), (((p3 : Nat) : Int) : Int)) = crs (h.take k ++ [⟨3, dw, dn, da⟩]) (dw, dn) from crs_of (by rw [HQ1.out]) (by rw [HQ3.out]))
            go_upto_region 10 with fail
            obtain ⟨W, hW⟩ : ∃ W, W = w3 := ⟨_, rfl⟩
            rw [← hW]
            rw [← hW] at y0 y1 y2 y3 x0 x1
            have HBW := Lib.hid (show Below w.heap.size w W by rw [hW]; exact HB3.out)
            have HMW := Lib.hid (show Mc W w.heap.size k (h.take k) by rw [hW]; exact HM3.out)
            have HDW := Lib.hid (show D < W.heap.size by rw [hW]; exact HD3.out)
            have HRW := Lib.hid (show wr.heap.size < W.heap.size by rw [hW]; have := HD3.out; have := HDB.out; omega)
            clear hW
            clear hDR z0 z1
            refine wp_region_held_drew (S := fun w' => w'.cell? ⟨wr.heap.size, 0, none⟩ = some (.int .i64 (3)) ∧ w'.cell? ⟨wr.heap.size, 1, none⟩ = some (.int .i64 dw) ∧ w'.cell? ⟨wr.heap.size, 2, none⟩ = some (.int .i64 dn) ∧ w'.cell? ⟨wr.heap.size, 3, none⟩ = some (.int .i64 da) ∧ w'.cell? ⟨D, 0, none⟩ = some (.int .i64 (((p1 : Nat) : Int))) ∧ w'.cell? ⟨D, 1, none⟩ = some (.int .i64 (((p3 : Nat) : Int)))) (by kernel_rfl) ?_ (fun hHeld => ?_)
            · exact ⟨y0, y1, y2, y3, x0, x1⟩
            have HBr := Lib.hid (show Below w.heap.size w W.drew from below_drewN HBW.out 1)
            have HMr := Lib.hid (show Mc W.drew w.heap.size k (h.take k) from HMW.out)
            have HDr := Lib.hid (show D < W.drew.heap.size from HDW.out)
            have HRr := Lib.hid (show wr.heap.size < W.drew.heap.size from HRW.out)
            clear y0 y1 y2 y3 x0 x1
            generalize W.drew = V at *
            refine wpAnyH_take (i := 0) (oi := ⟨some 43, _, _, _, _, _⟩) (v := ?_) rfl (by kernel_rfl) (by kernel_rfl) (by kernel_rfl) (fun _ _ _ h => h) (Or.inl ⟨by kernel_rfl, ?_⟩) (by assumption) ?_
            rotate_left 1
            · ((intro w hSw; (try dsimp only at hSw); go_simp) <;> (try with_reducible rfl))
            (try simp only [Act.put, List.setIfInBounds_toArray, List.set_cons_zero, List.set_cons_succ])
            refine wpAnyH_take (i := 1) (oi := ⟨some 44, _, _, _, _, _⟩) (v := ?_) rfl (by kernel_rfl) (by kernel_rfl) (by kernel_rfl) (fun _ _ _ h => h) (Or.inl ⟨by kernel_rfl, ?_⟩) (by assumption) ?_
            rotate_left 1
            · ((intro w hSw; (try dsimp only at hSw); go_simp) <;> (try with_reducible rfl))
            (try simp only [Act.put, List.setIfInBounds_toArray, List.set_cons_zero, List.set_cons_succ])
            refine wpAnyH_take (i := 3) (oi := ⟨some 46, _, _, _, _, _⟩) (v := ?_) rfl (by kernel_rfl) (by kernel_rfl) (by kernel_rfl) (fun _ _ _ h => h) (Or.inl ⟨by kernel_rfl, ?_⟩) (by assumption) ?_
            rotate_left 1
            · ((intro w hSw; (try dsimp only at hSw); go_simp) <;> (try with_reducible rfl))
            (try simp only [Act.put, List.setIfInBounds_toArray, List.set_cons_zero, List.set_cons_succ])
            refine wpAnyH_ready (rs := [2]) (by kernel_rfl) (by simp) ?_
            refine AllReadyH.cons (o := ⟨some 45, _, _, _, _, _⟩) rfl (fun K hK => ?_) AllReadyH.nil
            go_simp
            (with_reducible refine (HOF.out _).mono ?_)
            rintro e wv ⟨rfl, hb⟩
            obtain ⟨s0, s1, s2, s3, s4, s5⟩ := hHeld
            replace s0 := keep_cell hb s0
            replace s1 := keep_cell hb s1
            replace s2 := keep_cell hb s2
            replace s3 := keep_cell hb s3
            replace s4 := keep_cell hb s4
            replace s5 := keep_cell hb s5
            have HBv := Lib.hid (Below.call HBr.out hb)
            have HMv := Lib.hid (HMr.out.then hb)
            have HDv := Lib.hid (Nat.lt_of_lt_of_le HDr.out hb.size)
            have HRv := Lib.hid (Nat.lt_of_lt_of_le HRr.out hb.size)
            clear hb
            go_wp2_with fail
            refine hK.out _ _ ⟨s0, s1, s2, s3, s4, s5⟩ (fun hHeld => ?_)
            clear hK K s0 s1 s2 s3 s4 s5
            (try simp only [Act.put, List.setIfInBounds_toArray, List.set_cons_zero, List.set_cons_succ])
            refine wpAnyH_ready (rs := [4]) (by kernel_rfl) (by simp) ?_
            refine AllReadyH.cons (o := ⟨none, _, _, _, _, _⟩) rfl (fun K hK => ?_) AllReadyH.nil
            obtain ⟨wz, hrun, hmz, hgz⟩ := HMv.out.store (by unfold maxLen; omega) ⟨3, dw, dn, da⟩ HOK.out HN.out
            simp only at hrun
            have HMz := Lib.hid hmz
            have HBz := Lib.hid (HBv.out.grown hgz HBv.out.size (fun j hj => by cases hj; exact Nat.le_refl _))
            obtain ⟨s0, s1, s2, s3, s4, s5⟩ := hHeld
            have h1 : some wr.heap.size ≠ some w.heap.size := fun e => by have := HWB.out; injection e; omega
            have h2 : some D ≠ some w.heap.size := fun e => by have := HWB.out; have := HDB.out; injection e; omega
            have F := Lib.hid (And.intro (cell_grown s0 hgz HRv.out h1) (And.intro (cell_grown s1 hgz HRv.out h1) (And.intro (cell_grown s2 hgz HRv.out h1) (And.intro (cell_grown s3 hgz HRv.out h1) (And.intro (cell_grown s4 hgz HDv.out h2) (cell_grown s5 hgz HDv.out h2))))))
            clear h1 h2 hmz hgz s0 s1 s2 s3 s4 s5
            go_simp
            refine hK.out _ _ F.out (fun hHeld => ?_)
            clear hK K hrun hHeld
            (try simp only [Act.put, List.setIfInBounds_toArray, List.set_cons_zero, List.set_cons_succ])
            refine wpAnyH_done (by kernel_rfl) ?_ _
            go_wp2
            go_roundg (h.length - (k + 1))
            case measure => omega
            case rel => exact ⟨k + 1, by omega, rfl, num_i (by omega), by rw [HTS.out]; exact HMz.out, HBz.out⟩
        · rw [if_neg (fun a => h3 a.2.1)] at HQ3
          have hq3 : (dk == 3) = false := by rw [beq_eq_false_iff_ne]; exact h3
          have HN := Lib.hid (show ((((p1 : Nat) : Int) : Int), (((p3 : Nat) : Int) : Int)) = crs (h.take k ++ [⟨dk, dw, dn, da⟩]) (dw, dn) from crs_of (by rw [HQ1.out]) (by rw [HQ3.out]))
          go_upto_region 10 with fail
          obtain ⟨W, hW⟩ : ∃ W, W = w3 := ⟨_, rfl⟩
          rw [← hW]
          rw [← hW] at y0 y1 y2 y3 x0 x1
          have HBW := Lib.hid (show Below w.heap.size w W by rw [hW]; exact HB3.out)
          have HMW := Lib.hid (show Mc W w.heap.size k (h.take k) by rw [hW]; exact HM3.out)
          have HDW := Lib.hid (show D < W.heap.size by rw [hW]; exact HD3.out)
          have HRW := Lib.hid (show wr.heap.size < W.heap.size by rw [hW]; have := HD3.out; have := HDB.out; omega)
          clear hW
          clear hDR z0 z1
          refine wp_region_held_drew (S := fun w' => w'.cell? ⟨wr.heap.size, 0, none⟩ = some (.int .i64 (dk)) ∧ w'.cell? ⟨wr.heap.size, 1, none⟩ = some (.int .i64 dw) ∧ w'.cell? ⟨wr.heap.size, 2, none⟩ = some (.int .i64 dn) ∧ w'.cell? ⟨wr.heap.size, 3, none⟩ = some (.int .i64 da) ∧ w'.cell? ⟨D, 0, none⟩ = some (.int .i64 (((p1 : Nat) : Int))) ∧ w'.cell? ⟨D, 1, none⟩ = some (.int .i64 (((p3 : Nat) : Int)))) (by kernel_rfl) ?_ (fun hHeld => ?_)
          · exact ⟨y0, y1, y2, y3, x0, x1⟩
          have HBr := Lib.hid (show Below w.heap.size w W.drew from below_drewN HBW.out 1)
          have HMr := Lib.hid (show Mc W.drew w.heap.size k (h.take k) from HMW.out)
          have HDr := Lib.hid (show D < W.drew.heap.size from HDW.out)
          have HRr := Lib.hid (show wr.heap.size < W.drew.heap.size from HRW.out)
          clear y0 y1 y2 y3 x0 x1
          generalize W.drew = V at *
          refine wpAnyH_take (i := 0) (oi := ⟨some 43, _, _, _, _, _⟩) (v := ?_) rfl (by kernel_rfl) (by kernel_rfl) (by kernel_rfl) (fun _ _ _ h => h) (Or.inl ⟨by kernel_rfl, ?_⟩) (by assumption) ?_
          rotate_left 1
          · ((intro w hSw; (try dsimp only at hSw); go_simp) <;> (try with_reducible rfl))
          (try simp only [Act.put, List.setIfInBounds_toArray, List.set_cons_zero, List.set_cons_succ])
          refine wpAnyH_take (i := 1) (oi := ⟨some 44, _, _, _, _, _⟩) (v := ?_) rfl (by kernel_rfl) (by kernel_rfl) (by kernel_rfl) (fun _ _ _ h => h) (Or.inl ⟨by kernel_rfl, ?_⟩) (by assumption) ?_
          rotate_left 1
          · ((intro w hSw; (try dsimp only at hSw); go_simp) <;> (try with_reducible rfl))
          (try simp only [Act.put, List.setIfInBounds_toArray, List.set_cons_zero, List.set_cons_succ])
          refine wpAnyH_take (i := 3) (oi := ⟨some 46, _, _, _, _, _⟩) (v := ?_) rfl (by kernel_rfl) (by kernel_rfl) (by kernel_rfl) (fun _ _ _ h => h) (Or.inl ⟨by kernel_rfl, ?_⟩) (by assumption) ?_
          rotate_left 1
          · ((intro w hSw; (try dsimp only at hSw); go_simp) <;> (try with_reducible rfl))
          (try simp only [Act.put, List.setIfInBounds_toArray, List.set_cons_zero, List.set_cons_succ])
          refine wpAnyH_ready (rs := [2]) (by kernel_rfl) (by simp) ?_
          refine AllReadyH.cons (o := ⟨some 45, _, _, _, _, _⟩) rfl (fun K hK => ?_) AllReadyH.nil
          go_simp
          (with_reducible refine (HOF.out _).mono ?_)
          rintro e wv ⟨rfl, hb⟩
          obtain ⟨s0, s1, s2, s3, s4, s5⟩ := hHeld
          replace s0 := keep_cell hb s0
          replace s1 := keep_cell hb s1
          replace s2 := keep_cell hb s2
          replace s3 := keep_cell hb s3
          replace s4 := keep_cell hb s4
          replace s5 := keep_cell hb s5
          have HBv := Lib.hid (Below.call HBr.out hb)
          have HMv := Lib.hid (HMr.out.then hb)
          have HDv := Lib.hid (Nat.lt_of_lt_of_le HDr.out hb.size)
          have HRv := Lib.hid (Nat.lt_of_lt_of_le HRr.out hb.size)
          clear hb
          go_wp2_with fail
          refine hK.out _ _ ⟨s0, s1, s2, s3, s4, s5⟩ (fun hHeld => ?_)
          clear hK K s0 s1 s2 s3 s4 s5
          (try simp only [Act.put, List.setIfInBounds_toArray, List.set_cons_zero, List.set_cons_succ])
          refine wpAnyH_ready (rs := [4]) (by kernel_rfl) (by simp) ?_
          refine AllReadyH.cons (o := ⟨none, _, _, _, _, _⟩) rfl (fun K hK => ?_) AllReadyH.nil
          obtain ⟨wz, hrun, hmz, hgz⟩ := HMv.out.store (by unfold maxLen; omega) ⟨dk, dw, dn, da⟩ HOK.out HN.out
          simp only at hrun
          have HMz := Lib.hid hmz
          have HBz := Lib.hid (HBv.out.grown hgz HBv.out.size (fun j hj => by cases hj; exact Nat.le_refl _))
          obtain ⟨s0, s1, s2, s3, s4, s5⟩ := hHeld
          have h1 : some wr.heap.size ≠ some w.heap.size := fun e => by have := HWB.out; injection e; omega
          have h2 : some D ≠ some w.heap.size := fun e => by have := HWB.out; have := HDB.out; injection e; omega
          have F := Lib.hid (And.intro (cell_grown s0 hgz HRv.out h1) (And.intro (cell_grown s1 hgz HRv.out h1) (And.intro (cell_grown s2 hgz HRv.out h1) (And.intro (cell_grown s3 hgz HRv.out h1) (And.intro (cell_grown s4 hgz HDv.out h2) (cell_grown s5 hgz HDv.out h2))))))
          clear h1 h2 hmz hgz s0 s1 s2 s3 s4 s5
          go_simp
          refine hK.out _ _ F.out (fun hHeld => ?_)
          clear hK K hrun hHeld
          (try simp only [Act.put, List.setIfInBounds_toArray, List.set_cons_zero, List.set_cons_succ])
          refine wpAnyH_done (by kernel_rfl) ?_ _
          go_wp2
          go_roundg (h.length - (k + 1))
          case measure => omega
          case rel => exact ⟨k + 1, by omega, rfl, num_i (by omega), by rw [HTS.out]; exact HMz.out, HBz.out⟩
    · obtain rfl : k = h.length := by omega
      rw [List.take_length] at HM
      go_wp2
      go_ret
      exact ⟨rfl, HM.out, HB.out⟩
end Go.Proofs.Ytbfklpopodmalaa

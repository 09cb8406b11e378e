/- Stocks: are wells right, as the program tells it? -/
import Derived.Test.YtacjonncakhhmaaGreatPz00
import Derived.Test.YtacjonncakhhmaaGreatPz25
namespace Go.Proofs.YtacjonncakhhmaaGreat
open Go.RowKit
/-- Are a well's cell and log right, and those that the deck has? -/
def okW (a f : Ab) (i : Nat) : Bool := decide (a.c.getD i ce0).Right && decide ((a.c.getD i ce0).a = (f.c.getD i ce0).a) && (Lg.rgB (a.l.getD i (0, 0, [])).1 (a.l.getD i (0, 0, [])).2.1 (a.l.getD i (0, 0, [])).2.2 && decide ((a.l.getD i (0, 0, [])).1 = (f.l.getD i (0, 0, [])).1) && decide ((a.l.getD i (0, 0, [])).2.1 = (a.c.getD i ce0).c))
def rwB (a f : Ab) : Bool := decide (a.c.length = f.c.length) && decide (a.l.length = f.l.length) && (List.range a.c.length).all (okW a f)
theorem all_no'' (n : Nat) (p : Nat → Bool) (k : Nat) (hk : k < n) (h : p k = false) : (List.range n).all p = false := by
 rw [← Bool.not_eq_true, List.all_eq_true]
 intro hh
 rw [hh k (List.mem_range.2 hk)] at h
 cases h
theorem all_yes'' (n : Nat) (p : Nat → Bool) (h : ∀ k, k < n → p k = true) : (List.range n).all p = true := by
 rw [List.all_eq_true]
 exact fun k hk => h k (List.mem_range.1 hk)
theorem ab_l (s : Stk) (i : Nat) (h : i < s.ll.length) : s.ab.l.getD i (0, 0, []) = ((s.ll.getD i lo0).r, (s.ll.getD i lo0).l, (s.ll.getD i lo0).xs) := by
 show (s.ll.map Lo.ab).getD i (0, 0, []) = _
 rw [List.getD_eq_getElem?_getD, List.getElem?_map, List.getD_eq_getElem?_getD, List.getElem?_eq_getElem h]
 rfl
set_option maxRecDepth 100000 in
set_option maxHeartbeats 4000000 in
theorem rightWells_any (s f : Stk) (w : World) (hs : s.In w w.heap.size) (hf : f.In w w.heap.size) (hff : f.cl.length = f.ll.length) : Calls Tryz.prog 27 #[s.v, f.v] w fun e w' => e = .returned (.bool (rwB s.ab f.ab)) ∧ Below w.heap.size w w' := by
 obtain ⟨w0, hw0⟩ : ∃ w0, w0 = (w.alloc (.cells #[.slice s.cA s.cl.length s.cc, .slice s.lA s.ll.length s.lc, .slice s.tA s.tl.length s.tc, .int .i64 s.st, .int .i64 s.inn, .int .i64 s.out] 31)).alloc (.cells #[.slice f.cA f.cl.length f.cc, .slice f.lA f.ll.length f.lc, .slice f.tA f.tl.length f.tc, .int .i64 f.st, .int .i64 f.inn, .int .i64 f.out] 31) := ⟨_, rfl⟩
 have HB0 := Lib.hid (show Below w.heap.size w w0 by rw [hw0]; exact Below.al (Below.al (Below.refl _ _) _) _)
 have HS0 := Lib.hid (hs.then HB0.out)
 have HS1 := Lib.hid (show SkAt w0 w.heap.size s by rw [hw0]; exact (Cells6.new w _ _ _ _ _ _ _).below (Below.al (Below.refl _ _) _))
 have HF1 := Lib.hid (show SkAt w0 (w.heap.size + 1) f by
  have h := Cells6.new (w.alloc (.cells #[.slice s.cA s.cl.length s.cc, .slice s.lA s.ll.length s.lc, .slice s.tA s.tl.length s.tc, .int .i64 s.st, .int .i64 s.inn, .int .i64 s.out] 31)) 31 (.slice f.cA f.cl.length f.cc) (.slice f.lA f.ll.length f.lc) (.slice f.tA f.tl.length f.tc) (.int .i64 f.st) (.int .i64 f.inn) (.int .i64 f.out)
  rw [← hw0, show (w.alloc (.cells #[.slice s.cA s.cl.length s.cc, .slice s.lA s.ll.length s.lc, .slice s.tA s.tl.length s.tc, .int .i64 s.st, .int .i64 s.inn, .int .i64 s.out] 31)).heap.size = w.heap.size + 1 by simp] at h
  exact h)
 have HT0 := Lib.hid (hf.then HB0.out)
 have hE : rwB s.ab f.ab = (decide (s.cl.length = f.cl.length) && decide (s.ll.length = f.ll.length) && (List.range s.cl.length).all (okW s.ab f.ab)) := by
  unfold rwB
  show (decide (s.cl.length = f.cl.length) && decide ((s.ll.map Lo.ab).length = (f.ll.map Lo.ab).length) && _) = _
  rw [List.length_map, List.length_map]
  rfl
 have HE := Lib.hid hE
 have HSZ := Lib.hid (show w0.heap.size = w.heap.size + 2 by rw [hw0]; simp)
 obtain ⟨g0, g1, g2, g3, g4, g5, _⟩ := HS1.out
 obtain ⟨f0, f1, f2, f3, f4, f5, _⟩ := HF1.out
 rw [hw0] at g0 g1 g2 g3 g4 g5 f0 f1 f2 f3 f4 f5
 generalize hr : rwB s.ab f.ab = r at *
 clear hr hE hs hf
 have HABL := Lib.hid (ab_l s)
 have HABF := Lib.hid (ab_l f)
 have HAC := Lib.hid (show s.ab.c = s.cl from rfl)
 have HFC := Lib.hid (show f.ab.c = f.cl from rfl)
 have HOW := Lib.hid (fun i => show okW s.ab f.ab i = (decide (s.ab.c.getD i ce0).Right && decide ((s.ab.c.getD i ce0).a = (f.ab.c.getD i ce0).a) && (Lg.rgB (s.ab.l.getD i (0, 0, [])).1 (s.ab.l.getD i (0, 0, [])).2.1 (s.ab.l.getD i (0, 0, [])).2.2 && decide ((s.ab.l.getD i (0, 0, [])).1 = (f.ab.l.getD i (0, 0, [])).1) && decide ((s.ab.l.getD i (0, 0, [])).2.1 = (s.ab.c.getD i ce0).c))) from rfl)
 rw [HAC.out, HFC.out] at HOW
 generalize okW s.ab f.ab = ok at *
 generalize s.ab.l = abl at *
 generalize f.ab.l = abf at *
 clear HAC HFC
 obtain ⟨cA, cc, cl, lA, lc, ll, tA, tc, tl, st, inn, out⟩ := s
 obtain ⟨cA2, cc2, cl2, lA2, lc2, ll2, tA2, tc2, tl2, st2, inn2, out2⟩ := f
 dsimp only at *
 by_cases h1 : cl.length = cl2.length
 case neg =>
  have hr : r = false := by rw [HE.out, decide_eq_false h1]; rfl
  subst hr
  have h1' : ((cl.length : Int) != (cl2.length : Int)) = true := by simp; omega
  clear h1 hff
  go_enter Tryz.func27, Tryz.ntmps27
  go_wp2
  go_ret
  exact ⟨rfl, by rw [← hw0]; exact HB0.out⟩
 by_cases h2 : ll.length = ll2.length
 case neg =>
  have hr : r = false := by rw [HE.out, decide_eq_false h2, Bool.and_false]; rfl
  subst hr
  have h1' : ((cl.length : Int) != (cl2.length : Int)) = false := by simp; omega
  have h2' : ((ll.length : Int) != (ll2.length : Int)) = true := by simp; omega
  clear h1 h2 hff
  go_enter Tryz.func27, Tryz.ntmps27
  go_wp2
  go_ret
  exact ⟨rfl, by rw [← hw0]; exact HB0.out⟩
 rw [decide_eq_true h1, decide_eq_true h2, Bool.true_and, Bool.true_and] at HE
 have HL1 := Lib.hid h1
 have HL2 := Lib.hid h2
 have HL3 := Lib.hid hff
 have hfl1 : ((cl.length : Int) != (cl2.length : Int)) = false := by simp; omega
 have hfl2 : ((ll.length : Int) != (ll2.length : Int)) = false := by simp; omega
 have hcl9 := HS0.out.c.2.2
 have HNO := Lib.hid (fun k h => all_no'' cl.length ok k h)
 have HYES := Lib.hid (fun h => all_yes'' cl.length ok h)
 clear h1 h2 hff
 go_enter Tryz.func27, Tryz.ntmps27
 go_wp2
 rw [← hw0]
 clear hw0 hfl1 hfl2 g0 g1 g2 g3 g4 g5 f0 f1 f2 f3 f4 f5
 go_loopw [27] (fun i wr => ∃ k : Nat, i = .int .i64 k ∧ k ≤ cl.length ∧ Hid (∀ j, j < k → ok j = true) ∧ Hid (Below w0.heap.size w0 wr)) (fun i _ => cl.length - (intOf i).toNat)
 case atStart => exact ⟨0, rfl, Nat.zero_le _, Lib.hid (fun j hj => absurd hj (Nat.not_lt_zero _)), Lib.hid (Below.refl _ _)⟩
 case round =>
  obtain ⟨k, rfl, hk, hok, hb⟩ := hrel
  have HOK := Lib.hid hok.out
  have HBR := Lib.hid hb.out
  clear hok hb
  by_cases hlt : k < cl.length
  ·obtain ⟨b, off, rfl, hb, hbc, hcell⟩ := ce_cells (HS0.out.then HBR.out).c (by dsimp only; omega)
   obtain ⟨c0, c1, c2⟩ := hcell k hlt
   obtain ⟨bf, of, rfl, hbf, hbcf, hcellf⟩ := ce_cells (HT0.out.then HBR.out).c (by have := HL1.out; dsimp only; omega)
   obtain ⟨cf, _, _⟩ := hcellf k (by have := HL1.out; dsimp only; omega)
   obtain ⟨bl, ol, rfl, hbl, hbcl, hcelll⟩ := lo_cells (HS0.out.then HBR.out).l (by have := HL1.out; have := HL2.out; have := HL3.out; dsimp only; omega)
   obtain ⟨l0, l1, l2⟩ := hcelll k (by have := HL1.out; have := HL2.out; have := HL3.out; dsimp only; omega)
   obtain ⟨bg, og, rfl, hbg, hbcg, hcellg⟩ := lo_cells (HT0.out.then HBR.out).l (by have := HL1.out; have := HL3.out; dsimp only; omega)
   obtain ⟨m0, _, _⟩ := hcellg k (by have := HL1.out; have := HL3.out; dsimp only; omega)
   have HLX := Lib.hid ((HS0.out.then HBR.out).x _ (getD_mem' ll k lo0 (by have := HL1.out; have := HL2.out; have := HL3.out; omega)))
   have hab1 := HABL.out k (by have := HL1.out; have := HL2.out; have := HL3.out; omega)
   have hab2 := HABF.out k (by have := HL1.out; have := HL3.out; omega)
   have hok := HOW.out k
   rw [hab1, hab2] at hok
   dsimp only at c0 c1 c2 cf l0 l1 l2 m0 hok HLX
   have hkl : k < ll.length := by have := HL1.out; have := HL2.out; have := HL3.out; omega
   have hkg : k < ll2.length := by have := HL1.out; have := HL3.out; omega
   have hkf : k < cl2.length := by have := HL1.out; omega
   have hll9 := HS0.out.l.2.2
   dsimp only at hll9
   clear hcell hcellf hcelll hcellg hab1 hab2
   generalize cl.getD k ce0 = qc at *
   generalize (cl2.getD k ce0).a = capf at *
   generalize ll.getD k lo0 = ql at *
   generalize (ll2.getD k lo0).r = rf at *
   obtain ⟨qa, qb, qv⟩ := qc
   obtain ⟨qr, qll, qA, qlc, qx⟩ := ql
   dsimp only at *
   have hw0s : w.heap.size + 1 < w0.heap.size := by have := HSZ.out; omega
   have G1 := Lib.hid ((HS1.out.below HBR.out).2.1)
   have G2 := Lib.hid ((HF1.out.below HBR.out).1)
   have G3 := Lib.hid ((HF1.out.below HBR.out).2.1)
   have HNOk := Lib.hid (HNO.out k hlt)
   have HOKk := Lib.hid hok
   clear hok
   have hCl := Lib.hid (show wr.heap.size < (wr.alloc (.cells #[.int .i64 qa, .int .i64 qb, .int .i64 qv] 58)).heap.size by simp)
   have hba := Below.al (Below.refl wr.heap.size wr) (.cells #[.int .i64 qa, .int .i64 qb, .int .i64 qv] 58)
   have HX1 := Lib.hid (show ∀ w1, Below (wr.alloc (.cells #[.int .i64 qa, .int .i64 qb, .int .i64 qv] 58)).heap.size (wr.alloc (.cells #[.int .i64 qa, .int .i64 qb, .int .i64 qv] 58)) w1 → (w1.cell? ⟨wr.heap.size, 0, none⟩ = some (.int .i64 qa) ∧ w1.cell? ⟨wr.heap.size, 1, none⟩ = some (.int .i64 qb) ∧ w1.cell? ⟨wr.heap.size, 2, none⟩ = some (.int .i64 qv) ∧ w1.cell? ⟨w.heap.size + 1, 0, none⟩ = some (.slice (some ⟨bf, of, none⟩) cl2.length cc2) ∧ w1.cell? ⟨bf, of + k * 3, none⟩ = some (.int .i64 capf)) from by
    intro w1 hb
    refine ⟨keep_cell hb ?_, keep_cell hb ?_, keep_cell hb ?_, keep_cell hb (keep_cell hba G2.out), keep_cell hb (keep_cell hba cf)⟩
    all_goals simp [go_sem])
   have HM1 := Lib.hid (show ∀ w1, Below (wr.alloc (.cells #[.int .i64 qa, .int .i64 qb, .int .i64 qv] 58)).heap.size (wr.alloc (.cells #[.int .i64 qa, .int .i64 qb, .int .i64 qv] 58)) w1 → (w1.cell? ⟨w.heap.size, 1, none⟩ = some (.slice (some ⟨bl, ol, none⟩) ll.length lc) ∧ w1.cell? ⟨bl, ol + k * 3, none⟩ = some (.int .i64 qr) ∧ w1.cell? ⟨bl, ol + k * 3 + 1, none⟩ = some (.int .i64 qll) ∧ w1.cell? ⟨bl, ol + k * 3 + 2, none⟩ = some (.slice qA qx.length qlc) ∧ w1.cell? ⟨w.heap.size + 1, 1, none⟩ = some (.slice (some ⟨bg, og, none⟩) ll2.length lc2) ∧ w1.cell? ⟨bg, og + k * 3, none⟩ = some (.int .i64 rf)) from fun w1 hb => ⟨keep_cell hb (keep_cell hba G1.out), keep_cell hb (keep_cell hba l0), keep_cell hb (keep_cell hba l1), keep_cell hb (keep_cell hba l2), keep_cell hb (keep_cell hba G3.out), keep_cell hb (keep_cell hba m0)⟩)
   have g0 := (HS1.out.below HBR.out).1
   have HLA := Lib.hid (HLX.out.then hba)
   have HBA := Lib.hid (Below.call HBR.out hba)
   obtain ⟨Cb, hCb⟩ : ∃ Cb, wr.heap.size = Cb := ⟨_, rfl⟩
   clear l0 l1 l2 m0 cf G1 G2 G3 hw0s
   go_upto_region 6 with fail
   generalize wr.alloc (.cells #[.int .i64 qa, .int .i64 qb, .int .i64 qv] 58) = V at *
   rw [hCb] at HX1 hCl
   try simp only [hCb]
   clear hCb c0 c1 c2 hba g0
   obtain ⟨x0, x1, x2, x3, x4⟩ := HX1.out V.drew (Below.refl _ _).drew
   have hcfc : ((k : Int)) < (cl2.length : Int) := by omega
   by_cases hright : (Cel.Ce.mk qa qb qv).Right
   ·have HRT := Lib.hid (fun w => Cel.right_t hright w)
    rw [decide_eq_true hright, Bool.true_and] at HOKk
    clear hright
    refine wp_region_held_drew (S := fun w' => w'.cell? ⟨Cb, 0, none⟩ = some (.int .i64 qa) ∧ w'.cell? ⟨Cb, 1, none⟩ = some (.int .i64 qb) ∧ w'.cell? ⟨Cb, 2, none⟩ = some (.int .i64 qv) ∧ w'.cell? ⟨w.heap.size + 1, 0, none⟩ = some (.slice (some ⟨bf, of, none⟩) cl2.length cc2) ∧ w'.cell? ⟨bf, of + k * 3, none⟩ = some (.int .i64 capf)) (by kernel_rfl) ?_ (fun hHeld => ?_)
    ·exact ⟨x0, x1, x2, x3, x4⟩
    have bw := (Below.refl V.heap.size V).drew
    have HBA := Lib.hid (Below.call HBA.out bw)
    have HLA := Lib.hid (HLA.out.then bw)
    have BV := Lib.hid bw
    clear bw x0 x1 x2 x3 x4
    generalize V.drew = v0 at *
    refine tk 0 32 rfl ?_
    try simp only [sp]
    refine wpAnyH_ready (rs := [1]) (by kernel_rfl) (by simp) ?_
    refine AllReadyH.cons (o := ⟨some 33, _, _, _, _, _⟩) rfl (fun K hK => ?_) AllReadyH.nil
    go_simp
    refine (HRT.out _).mono ?_
    rintro e v1 ⟨rfl, hb⟩
    have HBA := Lib.hid (Below.call HBA.out hb)
    have HLA := Lib.hid (HLA.out.then hb)
    have BV := Lib.hid (Below.call BV.out hb)
    clear hb
    go_wp2_with fail
    refine hK.out _ _ (HX1.out v1 BV.out) (fun hHeld => ?_)
    clear hK K
    try simp only [sp]
    refine tk 2 34 rfl ?_
    try simp only [sp]
    refine tk 3 35 rfl ?_
    try simp only [sp]
    refine tk 4 36 rfl ?_
    try simp only [sp]
    refine tk 5 37 rfl ?_
    try simp only [sp]
    refine tk 6 38 rfl ?_
    try simp only [sp]
    refine tk 7 39 rfl ?_
    try simp only [sp]
    refine tk 8 40 rfl ?_
    try simp only [sp]
    refine tk 9 41 rfl ?_
    try simp only [sp]
    refine tk 10 42 rfl ?_
    try simp only [sp]
    refine tk 11 43 rfl ?_
    try simp only [sp]
    refine tk 12 44 rfl ?_
    try simp only [sp]
    refine tk 13 45 rfl ?_
    try simp only [sp]
    refine wpAnyH_done (by kernel_rfl) ?_ _
    clear hHeld
    by_cases hcap : qa = capf
    ·rw [decide_eq_true hcap, Bool.true_and] at HOKk
     obtain ⟨y1, y2, y3, y4, y5, y6⟩ := HM1.out v1 BV.out
     obtain ⟨z0, z1, z2, z3, z4⟩ := HX1.out v1 BV.out
     have hba := Below.al (Below.refl v1.heap.size v1) (.cells #[.int .i64 qr, .int .i64 qll, .slice qA qx.length qlc] 50)
     have HX2 := Lib.hid (show ∀ w1, Below (v1.alloc (.cells #[.int .i64 qr, .int .i64 qll, .slice qA qx.length qlc] 50)).heap.size (v1.alloc (.cells #[.int .i64 qr, .int .i64 qll, .slice qA qx.length qlc] 50)) w1 → (w1.cell? ⟨v1.heap.size, 0, none⟩ = some (.int .i64 qr) ∧ w1.cell? ⟨v1.heap.size, 1, none⟩ = some (.int .i64 qll) ∧ w1.cell? ⟨v1.heap.size, 2, none⟩ = some (.slice qA qx.length qlc) ∧ w1.cell? ⟨w.heap.size + 1, 1, none⟩ = some (.slice (some ⟨bg, og, none⟩) ll2.length lc2) ∧ w1.cell? ⟨bg, og + k * 3, none⟩ = some (.int .i64 rf) ∧ w1.cell? ⟨Cb, 2, none⟩ = some (.int .i64 qv)) from by
      intro w1 hb
      refine ⟨keep_cell hb ?_, keep_cell hb ?_, keep_cell hb ?_, keep_cell hb (keep_cell hba y5), keep_cell hb (keep_cell hba y6), keep_cell hb (keep_cell hba z2)⟩
      all_goals simp [go_sem])
     have HLA := Lib.hid (HLA.out.then hba)
     have HBA := Lib.hid (Below.call HBA.out hba)
     have hlv : bl < v1.heap.size := World.block_lt_of_cell? _ _ y2
     go_upto_region 9 with fail
     generalize hV3 : v1.alloc (.cells #[.int .i64 qr, .int .i64 qll, .slice qA qx.length qlc] 50) = V3 at *
     clear hV3
     obtain ⟨Lb, hLb⟩ : ∃ Lb, v1.heap.size = Lb := ⟨_, rfl⟩
     rw [hLb] at HX2
     try simp only [hLb]
     clear hLb y1 y2 y3 y4 y5 y6 z0 z1 z2 z3 z4 hba hlv BV
     have HRL := Lib.hid (fun w h => Lg.right_any' qr qll qA qlc qx w h)
     obtain ⟨rg, hrg⟩ : ∃ x, Lg.rgB qr qll qx = x := ⟨_, rfl⟩
     rw [hrg] at HOKk HRL
     clear hrg hcap
     cases rg
     case false =>
      have hr : r = false := by rw [HE.out, HNOk.out (by rw [HOKk.out]; rfl)]
      subst hr
      obtain ⟨x0, x1, x2, x3, x4, x5⟩ := HX2.out V3.drew (Below.refl _ _).drew
      refine wp_region_held_drew (S := fun w' => w'.cell? ⟨Lb, 0, none⟩ = some (.int .i64 qr) ∧ w'.cell? ⟨Lb, 1, none⟩ = some (.int .i64 qll) ∧ w'.cell? ⟨Lb, 2, none⟩ = some (.slice qA qx.length qlc) ∧ w'.cell? ⟨w.heap.size + 1, 1, none⟩ = some (.slice (some ⟨bg, og, none⟩) ll2.length lc2) ∧ w'.cell? ⟨bg, og + k * 3, none⟩ = some (.int .i64 rf) ∧ w'.cell? ⟨Cb, 2, none⟩ = some (.int .i64 qv)) (by kernel_rfl) ?_ (fun hHeld => ?_)
      ·exact ⟨x0, x1, x2, x3, x4, x5⟩
      have bw := (Below.refl V3.heap.size V3).drew
      have HBA := Lib.hid (Below.call HBA.out bw)
      have HLA := Lib.hid (HLA.out.then bw)
      have BV := Lib.hid bw
      clear bw x0 x1 x2 x3 x4 x5
      generalize V3.drew = v4 at *
      refine tk 0 51 rfl ?_
      try simp only [sp]
      refine wpAnyH_ready (rs := [1]) (by kernel_rfl) (by simp) ?_
      refine AllReadyH.cons (o := ⟨some 52, _, _, _, _, _⟩) rfl (fun K hK => ?_) AllReadyH.nil
      go_simp
      refine (HRL.out _ HLA.out).mono ?_
      rintro e v5 ⟨rfl, hb⟩
      have HBA := Lib.hid (Below.call HBA.out hb)
      have BV := Lib.hid (Below.call BV.out hb)
      clear hb HLA
      go_wp2_with fail
      refine hK.out _ _ (HX2.out v5 BV.out) (fun hHeld => ?_)
      clear hK K
      try simp only [sp]
      refine tk 2 53 rfl ?_
      try simp only [sp]
      refine tk 3 54 rfl ?_
      try simp only [sp]
      refine tu 4 55 rfl ?_
      try simp only [sp]
      refine tu 5 56 rfl ?_
      try simp only [sp]
      refine tu 6 57 rfl ?_
      try simp only [sp]
      refine tu 7 58 rfl ?_
      try simp only [sp]
      refine tu 8 59 rfl ?_
      try simp only [sp]
      refine tu 9 60 rfl ?_
      try simp only [sp]
      refine tu 10 61 rfl ?_
      try simp only [sp]
      refine tu 11 62 rfl ?_
      try simp only [sp]
      refine tu 12 63 rfl ?_
      try simp only [sp]
      refine tk 13 64 rfl ?_
      try simp only [sp]
      refine tk 14 65 rfl ?_
      try simp only [sp]
      refine tu 15 66 rfl ?_
      try simp only [sp]
      refine tu 16 67 rfl ?_
      try simp only [sp]
      refine tu 17 68 rfl ?_
      try simp only [sp]
      refine tu 18 69 rfl ?_
      try simp only [sp]
      refine tu 19 70 rfl ?_
      try simp only [sp]
      refine tk 20 71 rfl ?_
      try simp only [sp]
      refine wpAnyH_done (by kernel_rfl) ?_ _
      clear hHeld
      go_wp2
      go_ret
      exact ⟨rfl, Below.call HB0.out HBA.out⟩
     case true =>
      by_cases hroom : qr = rf
      ·rw [decide_eq_true hroom, Bool.true_and, Bool.true_and] at HOKk
       have hroom' : (qr != rf) = false := by simpa using hroom
       clear hroom
       obtain ⟨x0, x1, x2, x3, x4, x5⟩ := HX2.out V3.drew (Below.refl _ _).drew
       refine wp_region_held_drew (S := fun w' => w'.cell? ⟨Lb, 0, none⟩ = some (.int .i64 qr) ∧ w'.cell? ⟨Lb, 1, none⟩ = some (.int .i64 qll) ∧ w'.cell? ⟨Lb, 2, none⟩ = some (.slice qA qx.length qlc) ∧ w'.cell? ⟨w.heap.size + 1, 1, none⟩ = some (.slice (some ⟨bg, og, none⟩) ll2.length lc2) ∧ w'.cell? ⟨bg, og + k * 3, none⟩ = some (.int .i64 rf) ∧ w'.cell? ⟨Cb, 2, none⟩ = some (.int .i64 qv)) (by kernel_rfl) ?_ (fun hHeld => ?_)
       ·exact ⟨x0, x1, x2, x3, x4, x5⟩
       have bw := (Below.refl V3.heap.size V3).drew
       have HBA := Lib.hid (Below.call HBA.out bw)
       have HLA := Lib.hid (HLA.out.then bw)
       have BV := Lib.hid bw
       clear bw x0 x1 x2 x3 x4 x5
       generalize V3.drew = v4 at *
       refine tk 0 51 rfl ?_
       try simp only [sp]
       refine wpAnyH_ready (rs := [1]) (by kernel_rfl) (by simp) ?_
       refine AllReadyH.cons (o := ⟨some 52, _, _, _, _, _⟩) rfl (fun K hK => ?_) AllReadyH.nil
       go_simp
       refine (HRL.out _ HLA.out).mono ?_
       rintro e v5 ⟨rfl, hb⟩
       have HBA := Lib.hid (Below.call HBA.out hb)
       have BV := Lib.hid (Below.call BV.out hb)
       clear hb HLA
       go_wp2_with fail
       refine hK.out _ _ (HX2.out v5 BV.out) (fun hHeld => ?_)
       clear hK K
       try simp only [sp]
       refine tk 2 53 rfl ?_
       try simp only [sp]
       refine tk 3 54 rfl ?_
       try simp only [sp]
       refine tk 4 55 rfl ?_
       try simp only [sp]
       refine tk 5 56 rfl ?_
       try simp only [sp]
       refine tk 6 57 rfl ?_
       try simp only [sp]
       refine tk 7 58 rfl ?_
       try simp only [sp]
       refine tk 8 59 rfl ?_
       try simp only [sp]
       refine tk 9 60 rfl ?_
       try simp only [sp]
       refine tk 10 61 rfl ?_
       try simp only [sp]
       refine tk 11 62 rfl ?_
       try simp only [sp]
       refine tk 12 63 rfl ?_
       try simp only [sp]
       refine tk 13 64 rfl ?_
       try simp only [sp]
       refine tk 14 65 rfl ?_
       try simp only [sp]
       refine tk 15 66 rfl ?_
       try simp only [sp]
       refine tk 16 67 rfl ?_
       try simp only [sp]
       refine tk 17 68 rfl ?_
       try simp only [sp]
       refine tk 18 69 rfl ?_
       try simp only [sp]
       refine tk 19 70 rfl ?_
       try simp only [sp]
       refine tk 20 71 rfl ?_
       try simp only [sp]
       refine wpAnyH_done (by kernel_rfl) ?_ _
       clear hHeld
       by_cases hver : qll = qv
       ·have hv' : (qll != qv) = false := by simpa using hver
        have hyes := Lib.hid (show ok k = true by rw [HOKk.out]; exact decide_eq_true hver)
        clear hver
        go_wp2
        go_roundw
        case rel => exact ⟨k + 1, num_i (by omega), by omega, Lib.hid (fun j hj => by
         by_cases h : j = k
         ·subst h; exact hyes.out
         ·exact HOK.out j (by omega)), HBA⟩
        case measure => simp [intOf]; omega
       ·have hv' : (qll != qv) = true := by simpa using hver
        have hr : r = false := by rw [HE.out, HNOk.out (by rw [HOKk.out]; exact decide_eq_false hver)]
        subst hr
        clear hver
        go_wp2
        go_ret
        exact ⟨rfl, Below.call HB0.out HBA.out⟩
      ·have hr : r = false := by rw [HE.out, HNOk.out (by rw [HOKk.out, decide_eq_false hroom]; rfl)]
       have hroom' : (qr != rf) = true := by simpa using hroom
       subst hr
       clear hroom
       obtain ⟨x0, x1, x2, x3, x4, x5⟩ := HX2.out V3.drew (Below.refl _ _).drew
       refine wp_region_held_drew (S := fun w' => w'.cell? ⟨Lb, 0, none⟩ = some (.int .i64 qr) ∧ w'.cell? ⟨Lb, 1, none⟩ = some (.int .i64 qll) ∧ w'.cell? ⟨Lb, 2, none⟩ = some (.slice qA qx.length qlc) ∧ w'.cell? ⟨w.heap.size + 1, 1, none⟩ = some (.slice (some ⟨bg, og, none⟩) ll2.length lc2) ∧ w'.cell? ⟨bg, og + k * 3, none⟩ = some (.int .i64 rf) ∧ w'.cell? ⟨Cb, 2, none⟩ = some (.int .i64 qv)) (by kernel_rfl) ?_ (fun hHeld => ?_)
       ·exact ⟨x0, x1, x2, x3, x4, x5⟩
       have bw := (Below.refl V3.heap.size V3).drew
       have HBA := Lib.hid (Below.call HBA.out bw)
       have HLA := Lib.hid (HLA.out.then bw)
       have BV := Lib.hid bw
       clear bw x0 x1 x2 x3 x4 x5
       generalize V3.drew = v4 at *
       refine tk 0 51 rfl ?_
       try simp only [sp]
       refine wpAnyH_ready (rs := [1]) (by kernel_rfl) (by simp) ?_
       refine AllReadyH.cons (o := ⟨some 52, _, _, _, _, _⟩) rfl (fun K hK => ?_) AllReadyH.nil
       go_simp
       refine (HRL.out _ HLA.out).mono ?_
       rintro e v5 ⟨rfl, hb⟩
       have HBA := Lib.hid (Below.call HBA.out hb)
       have BV := Lib.hid (Below.call BV.out hb)
       clear hb HLA
       go_wp2_with fail
       refine hK.out _ _ (HX2.out v5 BV.out) (fun hHeld => ?_)
       clear hK K
       try simp only [sp]
       refine tk 2 53 rfl ?_
       try simp only [sp]
       refine tk 3 54 rfl ?_
       try simp only [sp]
       refine tk 4 55 rfl ?_
       try simp only [sp]
       refine tk 5 56 rfl ?_
       try simp only [sp]
       refine tk 6 57 rfl ?_
       try simp only [sp]
       refine tk 7 58 rfl ?_
       try simp only [sp]
       refine tk 8 59 rfl ?_
       try simp only [sp]
       refine tk 9 60 rfl ?_
       try simp only [sp]
       refine tk 10 61 rfl ?_
       try simp only [sp]
       refine tk 11 62 rfl ?_
       try simp only [sp]
       refine tk 12 63 rfl ?_
       try simp only [sp]
       refine tk 13 64 rfl ?_
       try simp only [sp]
       refine tk 14 65 rfl ?_
       try simp only [sp]
       refine tu 15 66 rfl ?_
       try simp only [sp]
       refine tu 16 67 rfl ?_
       try simp only [sp]
       refine tu 17 68 rfl ?_
       try simp only [sp]
       refine tu 18 69 rfl ?_
       try simp only [sp]
       refine tu 19 70 rfl ?_
       try simp only [sp]
       refine tk 20 71 rfl ?_
       try simp only [sp]
       refine wpAnyH_done (by kernel_rfl) ?_ _
       clear hHeld
       go_wp2
       go_ret
       exact ⟨rfl, Below.call HB0.out HBA.out⟩
    ·have hcap' : (qa != capf) = true := by simpa using hcap
     rw [decide_eq_false hcap, Bool.false_and] at HOKk
     have hr : r = false := by rw [HE.out, HNOk.out HOKk.out]
     subst hr
     clear hcap
     go_wp2
     go_ret
     exact ⟨rfl, Below.call HB0.out HBA.out⟩
   ·have HRT := Lib.hid (fun w => Cel.right_f hright w)
    rw [decide_eq_false hright, Bool.false_and, Bool.false_and] at HOKk
    have hr : r = false := by rw [HE.out, HNOk.out HOKk.out]
    subst hr
    clear hright
    refine wp_region_held_drew (S := fun w' => w'.cell? ⟨Cb, 0, none⟩ = some (.int .i64 qa) ∧ w'.cell? ⟨Cb, 1, none⟩ = some (.int .i64 qb) ∧ w'.cell? ⟨Cb, 2, none⟩ = some (.int .i64 qv) ∧ w'.cell? ⟨w.heap.size + 1, 0, none⟩ = some (.slice (some ⟨bf, of, none⟩) cl2.length cc2) ∧ w'.cell? ⟨bf, of + k * 3, none⟩ = some (.int .i64 capf)) (by kernel_rfl) ?_ (fun hHeld => ?_)
    ·exact ⟨x0, x1, x2, x3, x4⟩
    have bw := (Below.refl V.heap.size V).drew
    have HBA := Lib.hid (Below.call HBA.out bw)
    have HLA := Lib.hid (HLA.out.then bw)
    have BV := Lib.hid bw
    clear bw x0 x1 x2 x3 x4
    generalize V.drew = v0 at *
    refine tk 0 32 rfl ?_
    try simp only [sp]
    refine wpAnyH_ready (rs := [1]) (by kernel_rfl) (by simp) ?_
    refine AllReadyH.cons (o := ⟨some 33, _, _, _, _, _⟩) rfl (fun K hK => ?_) AllReadyH.nil
    go_simp
    refine (HRT.out _).mono ?_
    rintro e v1 ⟨rfl, hb⟩
    have HBA := Lib.hid (Below.call HBA.out hb)
    have HLA := Lib.hid (HLA.out.then hb)
    have BV := Lib.hid (Below.call BV.out hb)
    clear hb
    go_wp2_with fail
    refine hK.out _ _ (HX1.out v1 BV.out) (fun hHeld => ?_)
    clear hK K
    try simp only [sp]
    refine tk 2 34 rfl ?_
    try simp only [sp]
    refine tk 3 35 rfl ?_
    try simp only [sp]
    refine tu 4 36 rfl ?_
    try simp only [sp]
    refine tu 5 37 rfl ?_
    try simp only [sp]
    refine tu 6 38 rfl ?_
    try simp only [sp]
    refine tu 7 39 rfl ?_
    try simp only [sp]
    refine tu 8 40 rfl ?_
    try simp only [sp]
    refine tu 9 41 rfl ?_
    try simp only [sp]
    refine tu 10 42 rfl ?_
    try simp only [sp]
    refine tu 11 43 rfl ?_
    try simp only [sp]
    refine tu 12 44 rfl ?_
    try simp only [sp]
    refine tk 13 45 rfl ?_
    try simp only [sp]
    refine wpAnyH_done (by kernel_rfl) ?_ _
    clear hHeld
    go_wp2
    go_ret
    exact ⟨rfl, Below.call HB0.out HBA.out⟩
  ·obtain rfl : k = cl.length := by omega
   have hr : r = true := by rw [HE.out, HYES.out HOK.out]
   subst hr
   go_wp2
   go_ret
   exact ⟨rfl, Below.call HB0.out HBR.out⟩
end Go.Proofs.YtacjonncakhhmaaGreat

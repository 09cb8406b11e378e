/- The law of what is locked at most. -/
import Derived.Test.YtmecohdedghiaaaDoorPc09
import Derived.Test.YtmecohdedghiaaaDoorPc07
import Derived.Test.YtmecohdedghiaaaDoorPc04
import Derived.Test.YtmecohdedghiaaaDoorPc08
namespace Go.Proofs.YtmecohdedghiaaaDoor
open Go.ChangeShapes Go.WideShapes Go.ChangeAt Go.RowKit Go.Joins
namespace WantChecks
set_option maxRecDepth 100000 in
theorem contract (H : Type) (enc : TypeId × Value → H) (W : World) (base : Nat) (args : Array Value) (ds gs : List (DataW H)) (before : List MemPlace)
    (hval : ∀ (j : Nat) t v, Tryd.f3.params[j]? = some t → args[j]? = some v → Value.okWide Tryd.prog W .any base t v)
    (hW : DataW.Whole enc Tryd.prog Tryd.f3.params.toList Rows.wantChecksSpec.vars false W args.toList ds gs before) (hL : laidMetH Tryd.prog Rows.wantChecksRow.laid W) :
    Calls Tryd.prog 3 args W fun e W' => ∃ v, e = .returned v ∧ Rows.wantChecksSpec.post enc Tryd.prog Tryd.f3 false true false false W args v W' := by
  have hW' := hW
  obtain ⟨p, q, hA0, hV, rfl, hfz, hnd⟩ := hW
  have hA : DataW.TrodAll enc Tryd.prog W 0 (fun _ => true) true Tryd.f3.params.toList args.toList ds p := hA0
  rw [Tryd.params3] at hA hval
  obtain ⟨v0, vs0, d0, ds0, p0, q0, hargs, rfl, rfl, h0, r0⟩ := trodAll_cons hA
  obtain ⟨v1, vs1, d1, ds1, p1, q1, rfl, rfl, rfl, h1, r1⟩ := trodAll_cons r0
  obtain ⟨rfl, rfl, rfl⟩ := trodAll_nil r1
  obtain rfl : args = #[v0, v1] := by cases args; simp_all
  obtain ⟨rfl, rfl⟩ := trodVars_none hV
  obtain ⟨x0, rfl, w0⟩ := open_deck (hval 0 26 v0 rfl rfl) h0
  obtain ⟨x1, rfl, w1⟩ := open_req (hval 1 30 v1 rfl rfl) h1
  clear hA0
  simp only [List.append_nil] at hW'
  have hlt0 : ∀ x ∈ p0, x.block < W.heap.size := fun x hx => by simpa using hW'.lt x (by simp [hx])
  have hlt1 : ∀ x ∈ p1, x.block < W.heap.size := fun x hx => by simpa using hW'.lt x (by simp [hx])
  refine (wantChecks_walk x0 x1 W w0 w1 (tab hL)).mono fun e W' ⟨he, hB⟩ => ?_
  exact ⟨_, he, _, _, _, [], _, [], hW', trodAll_mk1 (shut_bool Tryd.underlying4 true), trodAll_cons_mk (Below.trod laidOut deck_reads deck_row h0 hB hlt0) (trodAll_cons_mk (Below.trod laidOut req_reads req_row h1 hB hlt1) trodAll_mk0), rfl, hB.frame _, fun h => by cases h⟩
set_option maxRecDepth 100000 in
theorem laid_met (os : Os) : laidMet Tryd.prog Rows.wantChecksRow.laid ((laidWorld os).forCall (fun _ _ => 0) ⟨#[], #[.agg #[.slice none 0 0, .slice none 0 0, .slice none 0 0, .int .i64 0], .agg #[.int .i64 0, .slice none 0 0, .int .i64 0, .int .i64 0, .int .i64 0, .int .u64 0]], []⟩).memory :=
  laidMet_of_run' 8 (by kernel_rfl) (by kernel_rfl)
set_option maxRecDepth 100000 in
theorem reads (os : Os) {H : Type} (enc : TypeId × Value → H) : ∃ places, DataW.whole enc Tryd.prog ((laidWorld os).forCall (fun _ _ => 0) ⟨#[], #[.agg #[.slice none 0 0, .slice none 0 0, .slice none 0 0, .int .i64 0], .agg #[.int .i64 0, .slice none 0 0, .int .i64 0, .int .i64 0, .int .i64 0, .int .u64 0]], []⟩).memory Tryd.f3.params.toList Rows.wantChecksSpec.vars false #[Value.agg #[.slice none 0 0, .slice none 0 0, .slice none 0 0, .int .i64 0], .agg #[.int .i64 0, .slice none 0 0, .int .i64 0, .int .i64 0, .int .i64 0, .int .u64 0]].toList 8 = some ([.agg [.nil, .nil, .nil, .lit (.int .i64 0)], .agg [.lit (.int .i64 0), .nil, .lit (.int .i64 0), .lit (.int .i64 0), .lit (.int .i64 0), .lit (.int .u64 0)]], [], places) :=
  ⟨[], by kernel_rfl⟩
set_option maxRecDepth 100000 in
theorem lifted (os : Os) (started : os.Started) (H : Type) (enc : TypeId × Value → H) (F : Stop.Interp) :
    ReturnsInHanded {} Tryd.checked os 3 .any ((OpenSpec.ofChange Rows.wantChecksSpec).preRow enc Tryd.prog Tryd.f3 Rows.wantChecksRow.domain false Rows.wantChecksRow.laid) (((OpenSpec.ofChange Rows.wantChecksSpec).at F).post enc Tryd.prog Tryd.f3 false true false false) := by
  obtain ⟨places, hx⟩ := reads os enc
  refine returnsInHanded_of_row (C := Tryd.checked) (s := OpenSpec.ofChange Rows.wantChecksSpec) own started (by kernel_rfl) Tryd.func3
    (witness_row_at (enc := enc) (C := Tryd.checked) false (laidWorld os) #[.agg #[.slice none 0 0, .slice none 0 0, .slice none 0 0, .int .i64 0], .agg #[.int .i64 0, .slice none 0 0, .int .i64 0, .int .i64 0, .int .i64 0, .int .u64 0]] rfl (by kernel_rfl) (by kernel_rfl) (by kernel_rfl)
      (OpenSpec.preRow_of_cond 8 hx (by kernel_rfl) (fun k hk => by cases hk) (by kernel_rfl) (laid_met os))) ?_
  intro W base args ds gs before hval hW _ _ _ hL _ _
  exact contract H enc W base args ds gs before hval hW hL
set_option maxRecDepth 100000 in
theorem said : Rows.WantChecksSaid :=
  OpenClaim.holds_of_cond 3 Tryd.f3 rfl rfl rfl rfl rfl rfl rfl ⟨rfl, rfl, rfl, rfl, rfl⟩ rfl rfl rfl rfl rfl (by kernel_rfl) Tryd.func3 (by kernel_rfl)
    (of_decide_eq_true (by kernel_rfl)) (by unfold Func.isWrapper; first | (rw [if_pos (by decide +kernel)]; kernel_rfl) | (rw [if_neg (by decide +kernel)]; exact ⟨rfl, rfl⟩))
    (fun os started H enc _ F => by rw [OpenClaim.pre_eq_preRow]; exact lifted os started H enc F)
set_option maxRecDepth 100000 in
theorem plain (f : FuncId) (fn : Func) (hf : Tryd.pinned.checked.prog.funcNamed "deckhand/deckhandlaw15.WantChecks" = some f) (hfn : Tryd.pinned.checked.prog.funcs[f]? = some fn) :
    false = Tryd.pinned.checked.prog.looks [] ∧ ∀ (j : Nat) t, fn.params[j]? = some t → Tryd.pinned.checked.prog.wantsStandIn t = false := by
  obtain rfl : f = 3 := Option.some.inj ((show Tryd.prog.funcNamed "deckhand/deckhandlaw15.WantChecks" = some 3 by kernel_rfl).symm.trans hf) |>.symm
  obtain rfl : fn = Tryd.f3 := (Option.some.inj (Tryd.func3.symm.trans hfn)).symm
  refine ⟨by kernel_rfl, fun j t ht => ?_⟩
  rw [Tryd.params3] at ht
  have hm := Array.mem_of_getElem? ht
  simp only [List.mem_toArray, List.mem_cons, List.not_mem_nil, or_false] at hm
  rcases hm with rfl | rfl
  · exact (show Tryd.prog.wantsStandIn 26 = false by kernel_rfl)
  · exact (show Tryd.prog.wantsStandIn 30 = false by kernel_rfl)
set_option maxRecDepth 100000 in
theorem card : Rows.WantChecksCardSaid :=
  Claim7.holds_tied_plain_at .later [] _ _ _ _ said (fun _ h => by cases h) (by kernel_rfl) (fun _ h => by cases h) wantChecks_row_tie rfl ⟨rfl, rfl⟩ (by kernel_rfl) rfl plain (by kernel_rfl)
end WantChecks
end Go.Proofs.YtmecohdedghiaaaDoor
namespace Go.Proofs.YtmecohdedghiaaaDoor
open Go.RowKit
theorem lane_low (d : Dk) (p : Q4) (hp : p ∈ partsK d) (h3 : p.a = 3) : 0 ≤ p.b ∧ p.b + 2 ≤ d.bl.length := by
  unfold partsK at hp
  by_cases hz : dchk d = 0
  · rw [if_pos hz] at hp
    unfold partsL partsU unitsL at hp
    obtain ⟨u, hu, hp⟩ := List.mem_flatMap.1 hp
    have hpar : p.a = u.a ∧ p.b = u.b := by
      unfold unitParts at hp
      obtain ⟨i, _, rfl⟩ := List.mem_map.1 hp
      exact ⟨rfl, rfl⟩
    rcases List.mem_append.1 hu with hu | hu
    · rcases List.mem_append.1 hu with hu | hu
      · obtain ⟨i, hi, rfl⟩ := List.mem_map.1 hu
        have e1 : p.a = 1 := hpar.1
        omega
      · obtain ⟨i, hi, rfl⟩ := List.mem_map.1 hu
        have e1 : p.a = 2 := hpar.1
        omega
    · obtain ⟨i, hi, rfl⟩ := List.mem_map.1 hu
      have hi := List.mem_range.1 hi
      have e2 : p.b = (i : Int) := hpar.2
      omega
  · rw [if_neg hz] at hp
    cases hp
theorem spn_low (d : Dk) {w : World} (hd : d.In w w.heap.size) (p : Q4) (hp : p ∈ partsK d) (h : (spnP d p).2.2 = 0) : (spnP d p).1 ≤ (spnP d p).2.1 ∧ (spnP d p).2.1 + 2 ≤ d.bl.length := by
  rcases part_lies d p hp with ⟨h3, h0⟩ | hl
  · have hb := lane_low d p hp h3
    unfold spnP
    rw [if_pos h3]
    dsimp only
    omega
  · have h3 : p.a ≠ 3 := by rcases hl with h | h <;> omega
    have e : spnP d p = covV d.bl (rkOf d p).x (rkOf d p).p (rkOf d p).r (cf p.d) := by unfold spnP; rw [if_neg h3]
    rw [e] at h ⊢
    obtain ⟨g1, g2, g3⟩ := cov_good d.bl _ _ _ _ (rkOf_ok hd p hl) h
    exact ⟨g1, g2⟩
theorem spA_low (d : Dk) {w : World} (hd : d.In w w.heap.size) (h : zchk d = 0) (id : Int) (hr : inR d id = true) : 0 ≤ (spA d id).1 ∧ (spA d id).1 ≤ (spA d id).2 ∧ (spA d id).2 + 2 ≤ d.bl.length := by
  have hz := zchk_d d h
  rw [spA_tab d h id hr]
  have hr := of_decide_eq_true hr
  rw [tabV_len d h] at hr
  have hk : id.toNat < (partsK d).length := by omega
  have hm := getD_mem' (partsK d) id.toNat ⟨0, 0, 0, 0⟩ hk
  have e := tab_at d hz id.toNat hk
  have hm2 : (tabP d).getD id.toNat (0, 0, 0) ∈ tabP d := getD_mem' _ _ _ (by rw [tab_len0]; unfold partsK at hk; rw [if_pos hz] at hk; exact hk)
  have h0 := tab_0 d h _ hm2
  rw [e] at h0 ⊢
  have := spn_low d hd _ hm h0
  dsimp only
  omega
theorem sps_low (d : Dk) {w : World} (hd : d.In w w.heap.size) (ids : List Int) : ∀ p ∈ spsL d ids, 0 ≤ p.1 ∧ p.1 ≤ p.2 ∧ p.2 + 2 ≤ d.bl.length := by
  intro p hp
  unfold spsL at hp
  by_cases he : spsE d ids = 0
  · rw [if_pos he] at hp
    obtain ⟨x, hx, rfl⟩ := List.mem_map.1 hp
    unfold spsE at he
    by_cases hz : zchk d = 0
    · rw [if_pos hz] at he
      by_cases ha : ids.all (inR d) = true
      · exact spA_low d hd hz x (List.all_eq_true.1 ha x hx)
      · rw [if_neg ha] at he; exact absurd he (by decide)
    · rw [if_neg hz] at he; exact absurd he hz
  · rw [if_neg he] at hp; cases hp
theorem fold_low (d : Dk) (l : List (Int × Int)) (N : Int) (h : ∀ p ∈ l, 0 ≤ p.1 ∧ p.1 ≤ p.2 ∧ p.2 < N) : Two.Inc (foldS d l) ∧ ∀ x ∈ foldS d l, frst d ≤ x ∧ x < frst d + N := by
  unfold foldS
  suffices ∀ s : List Int, (Two.Inc s ∧ ∀ x ∈ s, frst d ≤ x ∧ x < frst d + N) → Two.Inc (l.foldl (fun s p => Two.mk (s ++ lanP d p)) s) ∧ ∀ x ∈ l.foldl (fun s p => Two.mk (s ++ lanP d p)) s, frst d ≤ x ∧ x < frst d + N from this [] ⟨Two.inc_nil, fun x hx => by cases hx⟩
  induction l with
  | nil => intro s hs; exact hs
  | cons p l ih =>
    intro s hs
    rw [List.foldl_cons]
    refine ih (fun q hq => h q (by simp [hq])) _ ⟨Two.inc_mk _, fun x hx => ?_⟩
    rw [Two.mem_mk] at hx
    rcases List.mem_append.1 hx with hx | hx
    · exact hs.2 x hx
    · have h0 := h p (by simp)
      have := lanes_mem _ _ _ x hx
      omega
theorem set_low (d : Dk) {w : World} (hd : d.In w w.heap.size) (ids : List Int) : (setV d ids).length ≤ d.bl.length - 1 := by
  have hs := sps_low d hd ids
  obtain ⟨h1, h2⟩ := fold_low d (spsL d ids) ((d.bl.length - 1 : Nat) : Int) (fun p hp => by have := hs p hp; omega)
  exact inc_len _ (frst d) _ h1 h2
theorem path_low (d : Dk) {w : World} (hd : d.In w w.heap.size) (a b : Int) : (pathV d a b).length ≤ d.bl.length - 1 := by
  unfold pathV
  split
  · rename_i h
    have hg := sps_low d hd [a, b]
    rw [sps2 d a b h] at hg
    have h1 := hg (spA d a) (by simp)
    have h2 := hg (spA d b) (by simp)
    rw [lanes_len]
    omega
  · simp
theorem mu_inc (d : Dk) (r : Rq) : Two.Inc (muL d r) := by
  unfold muL
  repeat' split
  all_goals first | exact Two.inc_mk _ | exact Two.inc_nil
theorem muV_inc (d : Dk) (r : Rq) : Two.Inc (muV d r) := by
  unfold muV
  split
  · exact mu_inc d r
  · exact Two.inc_nil
theorem inc_one (x : Int) : Two.Inc [x] := by unfold Two.Inc; exact List.pairwise_singleton _ _
theorem lk_inc (d : Dk) (r : Rq) (own : List Int) (hand : Int) : Two.Inc (lkW d r own hand) := by
  unfold lkW
  repeat' split
  all_goals first | exact Two.inc_mk _ | exact Two.inc_nil | exact inc_one _ | exact mu_inc d r
theorem mu_sub (d : Dk) (r : Rq) (own : List Int) (hand : Int) : ∀ x ∈ muV d r, x ∈ lkW d r own hand := by
  intro x hx
  unfold muV at hx
  by_cases h : refV d r = (0, 0)
  · rw [if_pos h] at hx
    unfold lkW
    rw [if_pos h]
    by_cases hk : r.k = 4 ∨ (r.k = 5 ∨ r.k = 6 ∨ r.k = 7) ∨ r.k = 2
    · rw [if_neg (by omega), if_neg (by omega), if_neg (by omega), if_neg (by omega)]
      exact hx
    · unfold muL at hx
      rw [if_neg (by omega), if_neg (by omega), if_neg (by omega)] at hx
      cases hx
  · rw [if_neg h] at hx; cases hx
theorem mu_less (d : Dk) (r : Rq) (own : List Int) (hand : Int) : (muV d r).filter (fun y => !decide (y ∈ lkW d r own hand)) = [] := by
  rw [List.filter_eq_nil_iff]
  intro x hx
  simp [mu_sub d r own hand x hx]
/-- How much is locked at most. -/
def mostN (d : Dk) (own : List Int) : Nat := if (if 16 < d.bl.length + 1 then d.bl.length + 1 else 16) < own.length then own.length else (if 16 < d.bl.length + 1 then d.bl.length + 1 else 16)
theorem lk_low (d : Dk) {w : World} (hd : d.In w w.heap.size) (r : Rq) (own : List Int) (hand : Int) : (lkW d r own hand).length ≤ mostN d own := by
  have hm : 16 ≤ mostN d own ∧ d.bl.length + 1 ≤ mostN d own ∧ own.length ≤ mostN d own := by
    unfold mostN
    split <;> split <;> omega
  obtain ⟨m1, m2, m3⟩ := hm
  generalize mostN d own = M at *
  unfold lkW
  by_cases h : refV d r = (0, 0)
  · rw [if_pos h]
    have hil := mf_len (mf_0 h)
    have h1 := Two.mk_len_le r.il
    have h2 := Two.mk_len_le own
    by_cases k1 : r.k = 1
    · rw [if_pos k1]; omega
    rw [if_neg k1]
    by_cases k3 : r.k = 3
    · rw [if_pos k3]; omega
    rw [if_neg k3]
    by_cases k8 : r.k = 8
    · rw [if_pos k8]; split <;> simp <;> omega
    rw [if_neg k8]
    by_cases k9 : r.k = 9 ∨ r.k = 10
    · rw [if_pos k9]; simp; omega
    rw [if_neg k9]
    unfold muL
    have h3 := Two.mk_len_le ([r.a, r.b] ++ pathV d r.a r.b)
    have h4 := Two.mk_len_le ([r.a] ++ setV d [r.a])
    have h5 := path_low d hd r.a r.b
    have h6 := set_low d hd [r.a]
    simp only [List.length_append, List.length_cons, List.length_nil] at h3 h4
    repeat' split
    all_goals first | omega | simp
  · rw [if_neg h]; simp
end Go.Proofs.YtmecohdedghiaaaDoor
namespace Go.Proofs.YtmecohdedghiaaaDoor
open Go.RowKit
theorem rightB (v : Value) (xs : List Int) (w : World) (h : Two.IsL w w.heap.size v xs) : Calls Tryd.prog 14 #[v] w fun e w' => e = .returned (.bool (decide (Two.Inc xs))) ∧ Below w.heap.size w w' :=
  (Two.rright_any v xs w h).mono fun _ _ ⟨h1, d, h2⟩ => ⟨h1, by rw [h2]; exact below_drewN (Below.refl _ _) d⟩
theorem lessB (v u : Value) (xs ys : List Int) (w : World) (h : KI.IsL w w.heap.size v xs) (hy : KI.IsL w w.heap.size u ys) (hl : xs.length ≤ 1000) (he : xs.filter (fun y => !decide (y ∈ ys)) = []) : Calls Tryd.prog 15 #[v, u] w fun e w' => ∃ A c, e = .returned (.slice A 0 c) ∧ Below w.heap.size w w' :=
  (Two.rless_any v u xs ys w (two_of h) (two_of hy) hl).mono fun _ _ ⟨z, h1, h2, h3⟩ => by
    rw [he] at h2
    obtain ⟨A, c, rfl, _⟩ := (of_two h2).shape
    exact ⟨A, c, h1, h3⟩
theorem mu_len (d : Dk) {w : World} (hd : d.In w w.heap.size) (hb : d.bl.length ≤ 60) (r : Rq) : (muV d r).length ≤ 1000 := by
  unfold muV
  by_cases h : refV d r = (0, 0)
  · rw [if_pos h]
    have hil := mf_len (mf_0 h)
    have h1 := Two.mk_len_le r.il
    unfold muL
    have h3 := Two.mk_len_le ([r.a, r.b] ++ pathV d r.a r.b)
    have h4 := Two.mk_len_le ([r.a] ++ setV d [r.a])
    have h5 := path_low d hd r.a r.b
    have h6 := set_low d hd [r.a]
    simp only [List.length_append, List.length_cons, List.length_nil] at h3 h4
    repeat' split
    all_goals first | omega | simp
  · rw [if_neg h]; simp
theorem large_bl {d : Dk} {r : Rq} (h : large15 d r = false) : d.bl.length ≤ 60 := by
  unfold large15 at h
  rw [Bool.or_eq_false_iff] at h
  have h := h.1
  unfold largeB at h
  rw [Bool.or_eq_false_iff] at h
  have := of_decide_eq_false h.1
  omega
theorem bn_len {d : Dk} {w : World} {B : Nat} (hd : d.In w B) : d.bn = d.bl.length := by
  obtain ⟨A, cap, h, _⟩ := hd.b.1
  injection h
set_option maxRecDepth 100000 in
set_option maxHeartbeats 4000000 in
theorem wantBounds_walk (d : Dk) (r : Rq) (ov : Value) (own : List Int) (hand : Int) (w : World) (hd : d.In w w.heap.size) (hr : r.In w w.heap.size) (hT : Nn.Tab w) (ho : KI.IsL w w.heap.size ov own) (hh : fits hand) : Calls Tryd.prog 4 #[d.v, r.val, ov, .int .i64 hand] w fun e w' => e = .returned (.bool true) ∧ Below w.heap.size w w' := by
  obtain ⟨w0, hw0⟩ : ∃ w0, w0 = (w.alloc (.cells #[.slice d.bA d.bn d.bc, .slice d.pA d.pn d.pc, .slice d.rA d.rn d.rc, .int .i64 d.arms] 26)).alloc (.cells r.ob 30) := ⟨_, rfl⟩
  have HB0 := Lib.hid (show Below w.heap.size w w0 by rw [hw0]; exact Below.al (Below.al (Below.refl _ _) _) _)
  have HD0 := Lib.hid (hd.then HB0.out)
  have HR0 := Lib.hid (hr.then HB0.out)
  have HS0 := Lib.hid (show w0.heap.size = w.heap.size + 2 by rw [hw0]; simp)
  have HK0 := Lib.hid (show DkAt w0 w.heap.size d by rw [hw0]; exact (Cells4.new w _ _ _ _ _).below (Below.al (Below.refl _ _) _))
  have HQ0 := Lib.hid (show RqAt w0 (w.heap.size + 1) r by
    have h := Cells6.new (w.alloc (.cells #[.slice d.bA d.bn d.bc, .slice d.pA d.pn d.pc, .slice d.rA d.rn d.rc, .int .i64 d.arms] 26)) 30 (.int .i64 r.k) (.slice r.iA r.il.length r.ic) (.int .i64 r.a) (.int .i64 r.b) (.int .i64 r.u) (.int .u64 r.v)
    rw [World.size_alloc] at h
    rw [hw0]; exact h)
  obtain ⟨oA, oc, rfl, hoc⟩ := ho.shape
  have HT0 := Lib.hid (hT.below HB0.out)
  have HLA := Lib.hid (large15_any d r w0 HD0.out HR0.out)
  have HLV := Lib.hid (fun w h => lives15 w h)
  have HO0 := Lib.hid (ho.then HB0.out)
  have HMS := Lib.hid (fun V (h : Below w0.heap.size w0 V) => Must_any d r V (HD0.out.then h) (HR0.out.then h) (HT0.out.below h))
  have HLK := Lib.hid (fun (hl : own.length ≤ 1000) V (h : Below w0.heap.size w0 V) => locks_any d r (.slice oA own.length oc) own hand V (HD0.out.then h) (HR0.out.then h) (HT0.out.below h) (HO0.out.then h) hl hh)
  have HLG := Lib.hid (fun h : large15 d r = false => (⟨large_bl h, mu_len d hd (large_bl h) r⟩ : d.bl.length ≤ 60 ∧ (muV d r).length ≤ 1000))
  have HMI := Lib.hid (muV_inc d r)
  have HLI := Lib.hid (lk_inc d r own hand)
  have HML := Lib.hid (mu_less d r own hand)
  have HLL := Lib.hid (lk_low d hd r own hand)
  have HBN := Lib.hid (bn_len hd)
  unfold mostN at HLL
  rw [← HBN.out] at HLL HLG
  generalize muV d r = M at *
  generalize lkW d r own hand = L at *
  generalize large15 d r = lg at *
  clear hd hr hT ho hh HBN
  cases lg
  case true =>
    go_enter Tryd.func4, Tryd.ntmps4
    go_wp2_with fail
    rw [← hw0]
    clear hw0
    refine HLA.out.mono ?_
    rintro e w1 ⟨rfl, hb1⟩
    have HB1 := Lib.hid hb1
    clear hb1
    go_wp2_with fail
    refine (HLV.out _ (HT0.out.below HB1.out)).mono ?_
    rintro e w2 ⟨rfl, hb2⟩
    go_wp2
    go_ret
    exact ⟨rfl, Below.call HB0.out (Below.call HB1.out hb2)⟩
  by_cases h1 : own.length > 1000
  · skip
    go_enter Tryd.func4, Tryd.ntmps4
    go_wp2_with fail
    rw [← hw0]
    clear hw0
    refine HLA.out.mono ?_
    rintro e w1 ⟨rfl, hb1⟩
    have HB1 := Lib.hid hb1
    clear hb1
    go_wp2_with fail
    refine (HLV.out _ (HT0.out.below HB1.out)).mono ?_
    rintro e w2 ⟨rfl, hb2⟩
    go_wp2
    go_ret
    exact ⟨rfl, Below.call HB0.out (Below.call HB1.out hb2)⟩
  have HLK := Lib.hid (HLK.out (by omega))
  have HLG := Lib.hid (HLG.out rfl)
  have HOS := Lib.hid h1
  clear h1
  go_enter Tryd.func4, Tryd.ntmps4
  go_wp2_with fail
  rw [← hw0]
  clear hw0
  refine HLA.out.mono ?_
  rintro e w1 ⟨rfl, hb1⟩
  have HB1 := Lib.hid hb1
  obtain ⟨q0, q1, q2, q3, q4, q5, -⟩ := HQ0.out.below hb1
  obtain ⟨d0, d1, d2, d3, -⟩ := HK0.out.below hb1
  clear hb1
  have h1 := HOS.out
  go_wp2_with fail
  refine wp_region_held_drew (S := fun w' => w'.cell? ⟨w.heap.size, 0, none⟩ = some (.slice d.bA d.bn d.bc) ∧ w'.cell? ⟨w.heap.size, 1, none⟩ = some (.slice d.pA d.pn d.pc) ∧ w'.cell? ⟨w.heap.size, 2, none⟩ = some (.slice d.rA d.rn d.rc) ∧ w'.cell? ⟨w.heap.size, 3, none⟩ = some (.int .i64 d.arms) ∧ w'.cell? ⟨w.heap.size + 1, 0, none⟩ = some (.int .i64 r.k) ∧ w'.cell? ⟨w.heap.size + 1, 1, none⟩ = some (.slice r.iA r.il.length r.ic) ∧ w'.cell? ⟨w.heap.size + 1, 2, none⟩ = some (.int .i64 r.a) ∧ w'.cell? ⟨w.heap.size + 1, 3, none⟩ = some (.int .i64 r.b) ∧ w'.cell? ⟨w.heap.size + 1, 4, none⟩ = some (.int .i64 r.u) ∧ w'.cell? ⟨w.heap.size + 1, 5, none⟩ = some (.int .u64 r.v)) (by kernel_rfl) ?_ (fun hHeld => ?_)
  · exact ⟨d0, d1, d2, d3, q0, q1, q2, q3, q4, q5⟩
  have HBr := Lib.hid (show Below w0.heap.size w0 w1.drew from below_drewN HB1.out 1)
  clear d0 d1 d2 d3 q0 q1 q2 q3 q4 q5
  generalize w1.drew = wv at *
  refine wpAnyH_take (i := 0) (oi := ⟨some 21, _, _, _, _, _⟩) (v := ?_) rfl (by kernel_rfl) (by kernel_rfl) (by kernel_rfl) (fun _ _ _ h => h) (Or.inl ⟨by kernel_rfl, ?_⟩) (by assumption) ?_
  rotate_left 1
  · ((intro w hSw; (try dsimp only at hSw); go_simp) <;> (try with_reducible rfl))
  (try simp only [Act.put, List.setIfInBounds_toArray, List.set_cons_zero, List.set_cons_succ])
  refine wpAnyH_take (i := 1) (oi := ⟨some 22, _, _, _, _, _⟩) (v := ?_) rfl (by kernel_rfl) (by kernel_rfl) (by kernel_rfl) (fun _ _ _ h => h) (Or.inl ⟨by kernel_rfl, ?_⟩) (by assumption) ?_
  rotate_left 1
  · ((intro w hSw; (try dsimp only at hSw); go_simp) <;> (try with_reducible rfl))
  (try simp only [Act.put, List.setIfInBounds_toArray, List.set_cons_zero, List.set_cons_succ])
  refine wpAnyH_take (i := 3) (oi := ⟨some 24, _, _, _, _, _⟩) (v := ?_) rfl (by kernel_rfl) (by kernel_rfl) (by kernel_rfl) (fun _ _ _ h => h) (Or.inl ⟨by kernel_rfl, ?_⟩) (by assumption) ?_
  rotate_left 1
  · ((intro w hSw; (try dsimp only at hSw); go_simp) <;> (try with_reducible rfl))
  (try simp only [Act.put, List.setIfInBounds_toArray, List.set_cons_zero, List.set_cons_succ])
  refine wpAnyH_take (i := 4) (oi := ⟨some 25, _, _, _, _, _⟩) (v := ?_) rfl (by kernel_rfl) (by kernel_rfl) (by kernel_rfl) (fun _ _ _ h => h) (Or.inl ⟨by kernel_rfl, ?_⟩) (by assumption) ?_
  rotate_left 1
  · ((intro w hSw; (try dsimp only at hSw); go_simp) <;> (try with_reducible rfl))
  (try simp only [Act.put, List.setIfInBounds_toArray, List.set_cons_zero, List.set_cons_succ])
  refine wpAnyH_take (i := 5) (oi := ⟨some 26, _, _, _, _, _⟩) (v := ?_) rfl (by kernel_rfl) (by kernel_rfl) (by kernel_rfl) (fun _ _ _ h => h) (Or.inl ⟨by kernel_rfl, ?_⟩) (by assumption) ?_
  rotate_left 1
  · ((intro w hSw; (try dsimp only at hSw); go_simp) <;> (try with_reducible rfl))
  (try simp only [Act.put, List.setIfInBounds_toArray, List.set_cons_zero, List.set_cons_succ])
  refine wpAnyH_take (i := 6) (oi := ⟨some 27, _, _, _, _, _⟩) (v := ?_) rfl (by kernel_rfl) (by kernel_rfl) (by kernel_rfl) (fun _ _ _ h => h) (Or.inl ⟨by kernel_rfl, ?_⟩) (by assumption) ?_
  rotate_left 1
  · ((intro w hSw; (try dsimp only at hSw); go_simp) <;> (try with_reducible rfl))
  (try simp only [Act.put, List.setIfInBounds_toArray, List.set_cons_zero, List.set_cons_succ])
  refine wpAnyH_ready (rs := [2]) (by kernel_rfl) (by simp) ?_
  refine AllReadyH.cons (o := ⟨some 23, _, _, _, _, _⟩) rfl (fun K hK => ?_) AllReadyH.nil
  go_simp
  (with_reducible refine (HMS.out _ HBr.out).mono ?_)
  rintro e wv ⟨mv, rfl, hm, hb⟩
  obtain ⟨s0, s1, s2, s3, s4, s5, s6, s7, s8, s9⟩ := hHeld
  have HBr := Lib.hid (Below.call HBr.out hb)
  have HMV := Lib.hid hm
  replace s0 := keep_cell hb s0
  replace s1 := keep_cell hb s1
  replace s2 := keep_cell hb s2
  replace s3 := keep_cell hb s3
  replace s4 := keep_cell hb s4
  replace s5 := keep_cell hb s5
  replace s6 := keep_cell hb s6
  replace s7 := keep_cell hb s7
  replace s8 := keep_cell hb s8
  replace s9 := keep_cell hb s9
  clear hb hm
  go_wp2_with fail
  refine hK.out _ _ ⟨s0, s1, s2, s3, s4, s5, s6, s7, s8, s9⟩ (fun hHeld => ?_)
  clear hK K s0 s1 s2 s3 s4 s5 s6 s7 s8 s9
  (try simp only [Act.put, List.setIfInBounds_toArray, List.set_cons_zero, List.set_cons_succ])
  refine wpAnyH_ready (rs := [7]) (by kernel_rfl) (by simp) ?_
  refine AllReadyH.cons (o := ⟨some 28, _, _, _, _, _⟩) rfl (fun K hK => ?_) AllReadyH.nil
  go_simp
  (with_reducible refine (HLK.out _ HBr.out).mono ?_)
  rintro e wv ⟨lv, rfl, hl, hb⟩
  obtain ⟨s0, s1, s2, s3, s4, s5, s6, s7, s8, s9⟩ := hHeld
  have HBr := Lib.hid (Below.call HBr.out hb)
  have HMV := Lib.hid (HMV.out.then hb)
  have HLW := Lib.hid hl
  replace s0 := keep_cell hb s0
  replace s1 := keep_cell hb s1
  replace s2 := keep_cell hb s2
  replace s3 := keep_cell hb s3
  replace s4 := keep_cell hb s4
  replace s5 := keep_cell hb s5
  replace s6 := keep_cell hb s6
  replace s7 := keep_cell hb s7
  replace s8 := keep_cell hb s8
  replace s9 := keep_cell hb s9
  clear hb hl
  go_wp2_with fail
  refine hK.out _ _ ⟨s0, s1, s2, s3, s4, s5, s6, s7, s8, s9⟩ (fun hHeld => ?_)
  clear hK K s0 s1 s2 s3 s4 s5 s6 s7 s8 s9
  (try simp only [Act.put, List.setIfInBounds_toArray, List.set_cons_zero, List.set_cons_succ])
  refine wpAnyH_take (i := 8) (oi := ⟨some 9, _, _, _, _, _⟩) (v := ?_) rfl (by kernel_rfl) (by kernel_rfl) (by kernel_rfl) (fun _ _ _ h => h) (Or.inl ⟨by kernel_rfl, ?_⟩) (by assumption) ?_
  rotate_left 1
  · ((intro w hSw; (try dsimp only at hSw); go_simp) <;> (try with_reducible rfl))
  (try simp only [Act.put, List.setIfInBounds_toArray, List.set_cons_zero, List.set_cons_succ])
  refine wpAnyH_take (i := 9) (oi := ⟨some 10, _, _, _, _, _⟩) (v := ?_) rfl (by kernel_rfl) (by kernel_rfl) (by kernel_rfl) (fun _ _ _ h => h) (Or.inl ⟨by kernel_rfl, ?_⟩) (by assumption) ?_
  rotate_left 1
  · ((intro w hSw; (try dsimp only at hSw); go_simp) <;> (try with_reducible rfl))
  (try simp only [Act.put, List.setIfInBounds_toArray, List.set_cons_zero, List.set_cons_succ])
  refine wpAnyH_done (by kernel_rfl) ?_ _
  obtain ⟨d0, d1, -⟩ := hHeld
  obtain ⟨mA, mc, rfl, -⟩ := HMV.out.shape
  obtain ⟨lA, lc, rfl, -⟩ := HLW.out.shape
  have HB2 := HBr
  clear HBr
  rename World => w2
  have HG := Lib.hid (HLG.out trivial)
  have hg := HG.out.1
  clear HLG HLK HMS HLA
  have hc : (16 < d.bn + 1 ∧ d.bn + 1 < own.length) ∨ (16 < d.bn + 1 ∧ ¬ d.bn + 1 < own.length) ∨ (¬ 16 < d.bn + 1 ∧ 16 < own.length) ∨ (¬ 16 < d.bn + 1 ∧ ¬ 16 < own.length) := by omega
  have HLE := HLL.out
  clear HLL
  rcases hc with ⟨c1, c2⟩ | ⟨c1, c2⟩ | ⟨c1, c2⟩ | ⟨c1, c2⟩
  all_goals
    simp only [c1, c2, if_true, if_false] at HLE
    have HLF := Lib.hid HLE
    clear HLE
    go_wp2_with fail
    refine (HLV.out _ (HT0.out.below HB2.out)).mono ?_
    rintro e w3 ⟨rfl, hb⟩
    have HB3 := Lib.hid (Below.call HB2.out hb)
    have HMV := Lib.hid (HMV.out.then hb)
    have HLW := Lib.hid (HLW.out.then hb)
    clear hb
    go_wp2_with fail
    refine (rightB _ M _ (two_of HMV.out)).mono ?_
    rintro e w4 ⟨rfl, hb⟩
    have HB4 := Lib.hid (Below.call HB3.out hb)
    have HMV := Lib.hid (HMV.out.then hb)
    have HLW := Lib.hid (HLW.out.then hb)
    clear hb
    simp only [decide_eq_true HMI.out]
    go_wp2_with fail
    refine (rightB _ L _ (two_of HLW.out)).mono ?_
    rintro e w5 ⟨rfl, hb⟩
    have HB5 := Lib.hid (Below.call HB4.out hb)
    have HMV := Lib.hid (HMV.out.then hb)
    have HLW := Lib.hid (HLW.out.then hb)
    clear hb
    simp only [decide_eq_true HLI.out]
    go_wp2_with fail
    refine (lessB _ _ M L _ HMV.out HLW.out HG.out.2 HML.out).mono ?_
    rintro e w6 ⟨zA, zc, rfl, hb⟩
    have HB6 := Lib.hid (Below.call HB5.out hb)
    clear hb
    have HLE := HLF.out
    go_wp2
    go_ret
    exact ⟨ret_b (by first | (simp; done) | (simp; omega)), Below.call HB0.out HB6.out⟩
end Go.Proofs.YtmecohdedghiaaaDoor

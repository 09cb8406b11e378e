/- Plans: all is given back, and told. -/
import Derived.Test.YtbflkdkbfidleaaVN
namespace Go.Proofs.Ytbflkdkbfidleaa
open Go.RowKit Go.Shelf
attribute [local go_sem] Oper.semAt_some
def frP (x : Int × Int) : Int × Int := (4, cl x.2)
theorem fr_all {w : World} {B : Nat} {v : Value} {ids : List Int} (h : KI.IsL w B v ids) : (bwL ids 0).map frP = ids.reverse.map frD := by
  have e : (bwL ids 0).map frP = ((bwL ids 0).map Prod.snd).map fun y => (4, cl y) := by rw [List.map_map]; rfl
  rw [e, bwL_snd ids 0 (Nat.zero_le _), List.drop_zero]
  refine List.map_congr_left fun y hy => ?_
  rw [cl_of (h.2.1 y (List.mem_reverse.1 hy))]
  rfl
theorem ls_own {β : Type} (L base : Nat) (f : β → List (Int × Int)) : Go.Own (fun s W => Ls W L base (f s)) := by
  intro s X Y row h hg hrow
  obtain ⟨v, c, q⟩ := h.c
  refine ⟨⟨v, cell_kept c hg hrow, q.kept hg ?_⟩, (frozen_kept c hg hrow).trans h.z, Nat.lt_of_lt_of_le h.lt hg.size, h.le⟩
  rcases q.1.2 with ⟨rfl, _⟩ | ⟨g, cap, cur, rfl, _, hgb, _⟩
  · exact .inl rfl
  · refine .inr fun e => ?_
    obtain ⟨o, ho, hc⟩ := hrow g (by rw [← e]; rfl)
    rw [hgb] at ho
    cases ho
    cases hc
set_option maxRecDepth 100000 in
set_option maxHeartbeats 4000000 in
theorem finish_any (w : World) (L base base0 : Nat) (xs : List (Int × Int)) (ids : List Int) (u : Value) (h : Ls w L base xs) (hu : KI.IsL w base0 u ids) (hl : xs.length + ids.length + 1 ≤ 100000) (hb : base ≤ w.heap.size) (h0 : base0 ≤ L) :
    Calls Try.prog 53 #[.pointer (some ⟨L, 0, none⟩), u] w fun e w' => e = .returned (.tuple #[]) ∧ Ls w' L base (xs ++ ids.reverse.map frD ++ [(5, 0)]) ∧ Below base0 w w' := by
  have HH := Lib.hid h
  have HU := Lib.hid hu
  have HFA := Lib.hid (fr_all hu)
  obtain ⟨A, c, rfl, hc⟩ := hu.shape
  have hlen := hu.2.2
  have hLlt := h.lt
  have hLle := h.le
  clear h hu
  refine (callsIn_wide (n := 6)).1 ?_
  refine callsIn_of_wp_marks Try.func53 rfl trivial ?_ rfl
  simp only [Try.ntmps53, List.size_toArray, List.length_cons, List.length_nil, Nat.reduceAdd, Nat.reduceSub, Array.replicate_succ, Array.replicate_zero, List.push_toArray, List.append_toArray, List.nil_append, List.cons_append]
  gi_wp2_with (refine ⟨trivial, ?_⟩; gi_at_call 64; refine (callsIn_wide.2 (backward_any _ A ids.length c rfl _)).mono ?_; rintro e w' ⟨rfl, rfl⟩)
  obtain ⟨W0, hW0⟩ : ∃ W0, W0 = (w.alloc (.cells #[.pointer (some ⟨L, 0, none⟩)] 70)).alloc (.cells #[.slice A ids.length c] 22) := ⟨_, rfl⟩
  rw [← hW0]
  have hsz : W0.heap.size = w.heap.size + 2 := by rw [hW0]; simp
  have hB0 : Below w.heap.size w W0 := by rw [hW0]; exact Below.al (Below.al (Below.refl _ _) _) _
  have bX : Boxed W0 w.heap.size 70 (.pointer (some ⟨L, 0, none⟩)) := by
    rw [hW0]
    exact (Boxed.new w 70 (.pointer (some ⟨L, 0, none⟩))).alloc _
  have bR : Boxed W0 (w.heap.size + 1) 22 (.slice A ids.length c) := by
    have h := Boxed.new (w.alloc (.cells #[.pointer (some ⟨L, 0, none⟩)] 70)) 22 (.slice A ids.length c)
    rw [World.size_alloc] at h
    rw [hW0]
    exact h
  have hLs : Ls W0 L base (xs ++ List.map frP []) := by
    rw [hW0, List.map_nil, List.append_nil]
    exact (HH.out.al _).al _
  clear hW0
  refine wpIn_rangeFunc_ownG rfl (by omega) (gf := 68) (lb := #[.pointer (some ⟨w.heap.size + 1, 0, none⟩)]) rfl trivial (enters_of Try.func68 (by kernel_rfl) rfl)
    (bw_stops 5 (by omega) (w.heap.size + 1) base0 ids A c W0 bR (by omega) (HU.out.below (hB0.mono (by omega)))) Kb.trans (Kb.put (by omega)) (Below.refl _ _) (fun _ => rfl)
    (fun (pre : List (Int × Int)) W => (Ls W L base (xs ++ pre.map frP) ∧ Boxed W w.heap.size 70 (.pointer (some ⟨L, 0, none⟩))) ∧ Below base0 w W)
    (fun _ _ _ => False)
    (OwnFrom.and (OwnFrom.and (Own.from (ls_own L base (fun pre : List (Int × Int) => xs ++ pre.map frP)) _) (Own.from (boxed_own _ _ _) _)) (ownFrom_below (by omega) (by omega)))
    (fun _ _ _ _ _ hs _ _ => hs)
    ⟨⟨hLs, bX⟩, hB0.mono (by omega)⟩
    (fun x => { tmps := #[.pointer (some ⟨L, 0, none⟩), .slice A ids.length c, .pointer (some ⟨w.heap.size, 0, none⟩), undef, undef, .int .i64 (cl x.2), .slice A ids.length c, .func (.func 68) #[] #[.pointer (some ⟨w.heap.size + 1, 0, none⟩)], .int .i64 x.1, .int .i64 (cl x.2), undef, undef, undef, undef, undef, undef, undef, undef, undef], defers := [] }) ?assign ?body ?done ?stop
  case assign =>
    intro l x W K hK
    gi_wp2
    exact hK
  case body =>
    rintro l pre x W ⟨⟨hls, hbx⟩, hB⟩ hlt
    have hc := hbx.cell
    have hsz2 := hB.size
    have hlt2 := hls.lt
    have HOK := Lib.hid (show KD.ok (frP x) from ⟨show fits 4 by decide, cl_fits x.2⟩)
    gi_wp2_with (refine ⟨trivial, ?_⟩; gi_at_call 52; refine (CallsIn.inRound l (callsIn_wide.2 (write_any _ L base base0 (xs ++ pre.map frP) [frP x] _ (hls.al _) (Lk.IsL.lit (K := KD) W (frP x) _ HOK.out rfl W.heap.size rfl |>.more (by simp)) (by simp; omega) (by rw [World.size_alloc]; omega) h0))).mono ?_; rintro e w2 ⟨rfl, hls2, hb2, hk2, hx2⟩)
    exact ⟨((KeepsOthers.alloc _ _).trans hk2).from _, ⟨((Below.refl base0 W).alloc (by omega) _).trans hb2, fun h => hx2 _ _ _ (by decide) (by omega) (h.alloc _)⟩, ⟨by rw [List.map_append, ← List.append_assoc]; exact hls2, hx2 _ _ _ (by decide) (by omega) (hbx.alloc _)⟩, (hB.alloc (by omega) _).trans hb2⟩
  case done =>
    rintro D ys W hD rfl ⟨⟨hls, hbx⟩, hB⟩ hK
    rw [HFA.out] at hls
    have hc := hbx.cell
    have hsz2 := hB.size
    have hlt2 := hls.lt
    have HOK := Lib.hid (show KD.ok (5, 0) from ⟨show fits 5 by decide, show fits 0 by decide⟩)
    gi_wp2_with (refine ⟨trivial, ?_⟩; gi_at_call 52; refine (callsIn_wide.2 (write_any _ L base base0 (xs ++ ids.reverse.map frD) [(5, 0)] _ (hls.al _) (Lk.IsL.lit (K := KD) W (5, 0) _ HOK.out rfl W.heap.size rfl |>.more (by simp)) (by simp; omega) (by rw [World.size_alloc]; omega) h0)).mono ?_; rintro e w2 ⟨rfl, hls2, hb2, hk2, hx2⟩)
    have hK2 : w2.heap[D]? = some (.deferred (some [])) := hk2.same D _ ((Below.heap_alloc W _ D (Array.getElem?_eq_some_iff.1 hK).1).trans hK) rfl
    refine ⟨by simp, .inl ⟨_, _, rfl, run_takeDeferred hK2, ?_⟩⟩
    exact ⟨_, results_none rfl _ _ _, rfl, (ls_own L base (fun _ : Unit => xs ++ ids.reverse.map frD ++ [(5, 0)])).putObj (s := ()) _ hls2 hK2 rfl,
      (((hB.alloc (by omega) _).trans hb2)).trans (belowK_b (w := w) (by omega) w2 D _ _ (by omega) hK2 rfl rfl)⟩
  case stop =>
    rintro D c pre W _ _ h _
    exact h.elim
end Go.Proofs.Ytbflkdkbfidleaa

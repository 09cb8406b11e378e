/- Histories: two courses sorted, whole. -/
import Derived.Test.YtbfklpopodmalaaHQ
namespace Go.Proofs.Ytbfklpopodmalaa
open Go.RowKit Go.Maps
theorem isort_two (w : World) (B g cap : Nat) (hB : B ≤ g) (t : Tw w g 1 6 2 4 ∨ Tw w g 2 4 1 6) :
    Calls Try.prog 40 #[.slice (some ⟨g, 0, none⟩) 2 cap, .int .i64 0, .int .i64 2, .func (.func 35) #[] #[]] w fun e w' => e = .returned (.tuple #[]) ∧ Tw w' g 1 6 2 4 ∧ Below B w w' :=
  t.elim (fun t => isort_ok w B g cap hB t) (fun t => isort_sw w B g cap hB t)
set_option maxRecDepth 100000 in
set_option maxHeartbeats 4000000 in

theorem pdq_two (w : World) (B g cap : Nat) (l : Int) (hB : B ≤ g) (t : Tw w g 1 6 2 4 ∨ Tw w g 2 4 1 6) :
    Calls Try.prog 37 #[.slice (some ⟨g, 0, none⟩) 2 cap, .int .i64 0, .int .i64 2, .int .i64 l, .func (.func 35) #[] #[]] w fun e w' => e = .returned (.tuple #[]) ∧ Tw w' g 1 6 2 4 ∧ Below B w w' := by
  have HI := Lib.hid (isort_two w B g cap hB t)
  clear t hB
  go_enter Try.func37, Try.ntmps37
  go_wp2
  go_loopg [1, 2] 0 (fun gh a b wr => gh = 0 ∧ a = .int .i64 0 ∧ b = .int .i64 2 ∧ w = wr)
  case atStart => exact ⟨rfl, rfl, rfl, rfl⟩
  case round =>
    obtain ⟨rfl, rfl, rfl, rfl⟩ := hrel
    go_wp2_with fail
    refine HI.out.mono ?_
    rintro e w1 ⟨rfl, ht, hb⟩
    go_wp2
    (try simp only [Exit.inBlock, Exit.then])
    refine bodyPost_ret (results_none rfl _ _ _) rfl ?_
    exact ⟨rfl, ht, hb⟩
theorem sort_two (w : World) (B g cap : Nat) (hB : B ≤ g) (t : Tw w g 1 6 2 4 ∨ Tw w g 2 4 1 6) :
    Calls Try.prog 34 #[.slice (some ⟨g, 0, none⟩) 2 cap, .func (.func 35) #[] #[]] w fun e w' => e = .returned (.tuple #[]) ∧ Tw w' g 1 6 2 4 ∧ Below B w w' := by
  have HI := Lib.hid (fun l => pdq_two w B g cap l hB t)
  have HL := Lib.hid (fun w => len_2 w)
  clear t hB
  go_enter Try.func34, Try.ntmps34
  go_wp2_with fail
  refine (HL.out _).mono ?_
  rintro e w1 ⟨⟨l, rfl⟩, rfl⟩
  go_wp2_with fail
  refine (HI.out _).mono ?_
  rintro e w1 ⟨rfl, ht, hb⟩
  go_wp2
  go_end0
  exact ⟨rfl, ht, hb⟩
/-- What an own slice is, as it stands. -/
theorem Lk.Own.shape {P : Program} {α : Type} {K : Lk P α} {w : World} {base : Nat} {v : Value} {xs : List α} (h : K.Own w base v xs) (h0 : 0 < xs.length) : ∃ g cap, v = .slice (some ⟨g, 0, none⟩) xs.length cap ∧ base ≤ g ∧ g < w.heap.size ∧ xs.length ≤ cap := by
  obtain ⟨⟨h1, h2⟩, hf⟩ := h
  rcases h2 with ⟨_, hn⟩ | ⟨g, cap, cur, rfl, hb2, hg, hn, _⟩
  · omega
  · exact ⟨g, cap, rfl, hb2, (Array.getElem?_eq_some_iff.1 hg).1, hn⟩
theorem KX.two {w : World} {base : Nat} {v : Value} {p q : Int × Int} (h : KX.Own w base v [p, q]) : ∃ g cap, v = .slice (some ⟨g, 0, none⟩) 2 cap ∧ base ≤ g ∧ 2 ≤ cap ∧ Tw w g p.1 p.2 q.1 q.2 := by
  obtain ⟨g, cap, rfl, hb, hg, hc⟩ := h.shape (by simp)
  refine ⟨g, cap, rfl, hb, hc, ?_⟩
  obtain ⟨h1, h2⟩ := h
  have e := fun i (hi : i < 4) => h1.cellAt i hi
  exact ⟨e 0 (by decide), e 1 (by decide), e 2 (by decide), e 3 (by decide), fun i => h1.frozenAt i⟩
theorem KX.of_tw {w : World} {g cap : Nat} {a b c d : Int} (t : Tw w g a b c d) (hc : 2 ≤ cap) (h1 : fits a ∧ fits b) (h2 : fits c ∧ fits d) : KX.IsL w w.heap.size (.slice (some ⟨g, 0, none⟩) 2 cap) [(a, b), (c, d)] := by
  refine ⟨⟨_, cap, rfl, hc, fun _ => ⟨g, 0, rfl, t.lt, fun i hi j u hu => ?_⟩⟩, fun x hx => ?_, by simp⟩
  · obtain ⟨c0, c1, c2, c3, _⟩ := t
    have hi' : i < 2 := hi
    obtain rfl | rfl : i = 0 ∨ i = 1 := by omega
    · match j, hu with
      | 0, hu => cases hu; exact c0
      | 1, hu => cases hu; exact c1
    · match j, hu with
      | 0, hu => cases hu; exact c2
      | 1, hu => cases hu; exact c3
  · simp only [List.mem_cons, List.not_mem_nil, or_false] at hx
    rcases hx with rfl | rfl
    · exact h1
    · exact h2
def hx : List Ev := [⟨1, 1, 1, 1⟩, ⟨1, 2, 1, 2⟩, ⟨2, 2, 1, 3⟩, ⟨3, 2, 1, 4⟩, ⟨2, 1, 1, 5⟩, ⟨3, 1, 1, 6⟩]
theorem hx_mem (c : Int × Int) : c ∈ hx.map Ev.c ↔ c = (1, 1) ∨ c = (2, 1) := by
  rw [show hx.map Ev.c = [(1, 1), (2, 1), (2, 1), (2, 1), (1, 1), (1, 1)] from rfl]
  simp only [List.mem_cons, List.not_mem_nil, or_false]
  constructor
  · rintro (h | h | h | h | h | h) <;> first | exact .inl h | exact .inr h
  · rintro (h | h)
    · exact .inl h
    · exact .inr (.inl h)
theorem hx_a : crs hx (1, 1) = (1, 6) := by decide +kernel
theorem hx_b : crs hx (2, 1) = (2, 4) := by decide +kernel
theorem two_perm {ids : List (Int × Int)} (hn : ids.Nodup) (hm : ∀ x, x ∈ ids ↔ (x = (1, 1) ∨ x = (2, 1))) : ids = [(1, 1), (2, 1)] ∨ ids = [(2, 1), (1, 1)] := by
  match ids, hn, hm with
  | [], _, hm => exact absurd ((hm (1, 1)).2 (.inl rfl)) (by simp)
  | [a], _, hm =>
    have h1 := (hm (1, 1)).2 (.inl rfl)
    have h2 := (hm (2, 1)).2 (.inr rfl)
    rw [List.mem_singleton] at h1 h2
    rw [← h1] at h2
    exact absurd h2 (by decide)
  | [a, b], hn, hm =>
    have ha := (hm a).1 (by simp)
    have hb := (hm b).1 (by simp)
    have hab : a ≠ b := by simp at hn; exact hn
    rcases ha with rfl | rfl <;> rcases hb with rfl | rfl
    · exact absurd rfl hab
    · exact .inl rfl
    · exact .inr rfl
    · exact absurd rfl hab
  | a :: b :: c :: r, hn, hm =>
    have ha := (hm a).1 (by simp)
    have hb := (hm b).1 (by simp)
    have hc := (hm c).1 (by simp)
    simp at hn
    exfalso
    rcases ha with rfl | rfl <;> rcases hb with rfl | rfl <;> rcases hc with rfl | rfl <;> simp at hn
end Go.Proofs.Ytbfklpopodmalaa

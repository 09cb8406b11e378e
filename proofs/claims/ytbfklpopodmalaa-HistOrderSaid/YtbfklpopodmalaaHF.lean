/- Histories: whether one is right, as a test; nine numbers in a block. -/
import Derived.Test.YtbfklpopodmalaaHE
namespace Go.Proofs.Ytbfklpopodmalaa
open Go.RowKit
/-- May this event stand here? -/
def okB (h : List Ev) (i : Nat) : Bool :=
  decide (1 ≤ (h.getD i ev0).a) && (decide (i = 0) || decide ((h.getD (i - 1) ev0).a < (h.getD i ev0).a)) && decide (1 ≤ (h.getD i ev0).w) && decide ((h.getD i ev0).w ≤ 8) &&
  decide ((h.getD i ev0).k = ((cntE (h.take i) (h.getD i ev0).w % 3 : Nat) : Int) + 1) && decide ((h.getD i ev0).n = ((cntE (h.take i) (h.getD i ev0).w / 3 : Nat) : Int) + 1)
def rgB (h : List Ev) : Bool := decide (∀ i, i < h.length → okB h i = true)
theorem rgB_false {h : List Ev} {k : Nat} (hk : k < h.length) (e : okB h k = false) : rgB h = false := decide_eq_false fun H => by rw [H k hk] at e; cases e
theorem rgB_true {h : List Ev} (e : ∀ i, i < h.length → okB h i = true) : rgB h = true := decide_eq_true e
theorem okB_iff {h : List Ev} {i : Nat} (hi : i < h.length) : okB h i = true ↔ okE h i := by
  have hd := getD_some hi
  have hp : ∀ d, 0 < i → h[i - 1]? = some d → d = h.getD (i - 1) ev0 := fun d h0 he => by
    rw [getD_some (show i - 1 < h.length by omega)] at he
    exact (Option.some.inj he).symm
  unfold okB okE
  simp only [Bool.and_eq_true, Bool.or_eq_true, decide_eq_true_eq]
  constructor
  · rintro ⟨⟨⟨⟨⟨h1, h2⟩, h3⟩, h4⟩, h5⟩, h6⟩
    refine ⟨_, hd, h1, fun d h0 he => ?_, h3, h4, h5, h6⟩
    rw [hp d h0 he]
    exact h2.resolve_left (by omega)
  · rintro ⟨e, he, h1, h2, h3, h4, h5, h6⟩
    rw [hd] at he
    cases he
    refine ⟨⟨⟨⟨⟨h1, ?_⟩, h3⟩, h4⟩, h5⟩, h6⟩
    by_cases h0 : i = 0
    · exact .inl h0
    · exact .inr (h2 _ (by omega) (getD_some (by omega)))
theorem rgB_iff (h : List Ev) : rgB h = true ↔ RgE h := by
  unfold rgB RgE
  rw [decide_eq_true_eq]
  exact ⟨fun H i hi => (okB_iff hi).1 (H i hi), fun H i hi => (okB_iff hi).2 (H i hi)⟩
/-- Nine numbers in a block. -/
structure Ni (w : World) (B : Nat) (s : Nat → Int) : Prop where
  c : ∀ i, i < 9 → w.cell? ⟨B, i, none⟩ = some (.int .i64 (s i))
  z : ∀ i, w.frozen? ⟨B, i, none⟩ = false
  b : B < w.heap.size
theorem Ni.set {w : World} {B : Nat} {s r : Nat → Int} (h : Ni w B s) (k : Nat) (q : Int) (e : ∀ i, i < 9 → r i = if i = k then q else s i) : Ni (w.setCell ⟨B, k, none⟩ (.int .i64 q)) B r := by
  refine ⟨fun i hi => ?_, fun i => st_fz (h.z i), by simpa using h.b⟩
  rw [e i hi]
  by_cases e : i = k
  · subst e
    rw [if_pos rfl]
    exact st_same (h.c i hi)
  · rw [if_neg e]
    exact st_other (h.c i hi) (by simp)
theorem Ni.alloc {w : World} {B : Nat} {s : Nat → Int} (h : Ni w B s) (o : Obj) : Ni (w.alloc o) B s := by
  have hb := h.b
  refine ⟨fun i hi => keep_cell (Below.al (Below.refl w.heap.size w) o) (h.c i hi), fun i => ?_, by simp; omega⟩
  have := h.z i
  first
    | (rw [World.frozen?_alloc_old (by simpa using hb)]; exact this)
    | simpa [go_sem, hb] using this
    | (have hne : B ≠ w.heap.size := by omega
       simpa [go_sem, hne] using this)
theorem Ni.drewN {w : World} {B : Nat} {s : Nat → Int} (h : Ni w B s) (d : Nat) : Ni (w.drewN d) B s := ⟨h.c, h.z, h.b⟩
end Go.Proofs.Ytbfklpopodmalaa

/- Plans: where one is who goes through deeds: a map that reads as a set; on to the next phase. -/
import Derived.Test.YtbflkdkbfidleaaVE
import Derived.Test.YtbflkdkbfidleaaTH
import Derived.Maps.OwnSet
namespace Go.Proofs.Ytbflkdkbfidleaa
open Go.RowKit Go.Maps
theorem keyI {x : Int} (hx : fits x) : keyOf Try.prog 3 (.int .i64 x) = some (.int .i64 x) := keyOf_int_mk Try.underlying3 (Two.fits_wf hx)
/-- A map reads as a set. -/
structure Rp (D : DataW Unit) (h : List Int) : Prop where
  inc : Two.Inc h
  has : ∀ x, Maps.has D (.int .i64 x) = decide (x ∈ h)
  size : Maps.size D = h.length
theorem Rp.nil : Rp (.map []) [] := ⟨Two.inc_nil, fun _ => rfl, rfl⟩
theorem lit_ne {x y : Int} (h : x ≠ y) : (Lit.int .i64 x) ≠ (Lit.int .i64 y) := fun e => h (by injection e)
theorem Rp.put {D : DataW Unit} {h : List Int} (r : Rp D h) (hT : Maps.Tidy D) (x : Int) (d : DataW Unit) : Rp (D.put (.int .i64 x) d) (Two.put h x) := by
  refine ⟨Two.inc_put x r.inc, fun y => ?_, ?_⟩
  · by_cases e : y = x
    · subst e
      rw [Maps.has_put_same (k := .int .i64 y) hT.isMap trivial]
      exact (decide_eq_true ((Two.mem_put _ _ _).2 (.inr rfl))).symm
    · rw [Maps.has_put_other (lit_ne e), r.has, decide_eq_decide, Two.mem_put]
      exact ⟨Or.inl, fun k => k.elim id fun k => absurd k e⟩
  · rw [Maps.size_put hT, r.has, r.size]
    by_cases e : x ∈ h
    · rw [decide_eq_true e, if_pos rfl, Two.put_old r.inc x e]
    · rw [decide_eq_false e, if_neg Bool.false_ne_true, Two.put_len_new _ _ e]
theorem filter_ne_len (h : List Int) (x : Int) (hi : Two.Inc h) : (h.filter fun y => !decide (y ∈ [x])).length + (if x ∈ h then 1 else 0) = h.length := by
  induction h with
  | nil => rfl
  | cons y r ih =>
    obtain ⟨h1, h2⟩ := Two.inc_cons.1 hi
    have := ih h2
    by_cases e : y = x
    · subst e
      have hn : y ∉ r := fun k => by have := h1 y k; omega
      rw [if_neg hn] at this
      rw [List.filter_cons_of_neg (by simp), if_pos (by simp), List.length_cons]
      omega
    · rw [List.filter_cons_of_pos (by simp [e]), List.length_cons, List.length_cons]
      have hm : (x ∈ y :: r) ↔ x ∈ r := by rw [List.mem_cons]; exact ⟨fun k => k.elim (fun k => absurd k.symm e) id, Or.inr⟩
      by_cases k : x ∈ r
      · rw [if_pos (hm.2 k)]; rw [if_pos k] at this; omega
      · rw [if_neg (fun q => k (hm.1 q))]; rw [if_neg k] at this; omega
theorem Rp.del {D : DataW Unit} {h : List Int} (r : Rp D h) (hT : Maps.Tidy D) (x : Int) : Rp (D.del (.int .i64 x)) (h.filter fun y => !decide (y ∈ [x])) := by
  refine ⟨Two.inc_filter _ r.inc, fun y => ?_, ?_⟩
  · by_cases e : y = x
    · subst e
      rw [Maps.has_del_same]
      exact (decide_eq_false (by simp)).symm
    · rw [Maps.has_del_other (lit_ne e), r.has, decide_eq_decide, List.mem_filter]
      simp [e]
  · have := Maps.size_del (k := .int .i64 x) hT
    rw [r.has, r.size] at this
    have k := filter_ne_len h x r.inc
    by_cases e : x ∈ h
    · rw [decide_eq_true e, if_pos rfl] at this; rw [if_pos e] at k; omega
    · rw [decide_eq_false e, if_neg Bool.false_ne_true] at this; rw [if_neg e] at k; omega
/-- A map in memory that reads as a set. -/
def Hm (w : World) (b n : Nat) (h : List Int) : Prop := ∃ D, w.ownsMap Try.prog 3 (unitElem (H := Unit)) b n D ∧ Rp D h
theorem Hm.inc {w : World} {b n : Nat} {h : List Int} (m : Hm w b n h) : Two.Inc h := let ⟨_, _, r⟩ := m; r.inc
theorem Hm.kept {w w' : World} {b n : Nat} {h : List Int} {row : Option Nat} (m : Hm w b n h) (hg : w.grownBy w' row) (hne : some b ≠ row) : Hm w' b n h := let ⟨D, o, r⟩ := m; ⟨D, o.kept hg hne, r⟩
theorem Hm.drewN {w : World} {b n : Nat} {h : List Int} (m : Hm w b n h) (d : Nat) : Hm (w.drewN d) b n h := m
theorem Hm.lt {w : World} {b n : Nat} {h : List Int} (m : Hm w b n h) : b < w.heap.size := let ⟨_, o, _⟩ := m; o.lt
theorem Hm.len {w : World} {b n : Nat} {h : List Int} (m : Hm w b n h) (ty : TypeId) : (Builtin.len_ #[62] ty #[.map (some b)]).run Try.prog w = .ok (.int .i64 h.length) w := by
  obtain ⟨D, o, r⟩ := m
  rw [o.len Try.underlying62 ty, r.size]
theorem Hm.look {w : World} {b n : Nat} {h : List Int} (m : Hm w b n h) {x : Int} (hx : fits x) : (Instr.lookup 62 (.map (some b)) (.int .i64 x) true).run Try.prog w = .ok (.tuple #[.agg #[], .bool (decide (x ∈ h))]) w := by
  obtain ⟨D, o, r⟩ := m
  obtain ⟨v, ps, hr, hv⟩ := o.look_ok Two.law3 Try.underlying62 (Two.zero53 w) unitElem_mk (keyI hx)
  obtain ⟨rfl, _⟩ := unitElem_inv hv
  rw [hr, r.has]
theorem cell_grown {w w' : World} {b o : Nat} {row : Option Nat} {v : Value} (h : w.cell? ⟨b, o, none⟩ = some v) (hg : w.grownBy w' row) (hb : b < w.heap.size) (hne : some b ≠ row) : w'.cell? ⟨b, o, none⟩ = some v := by
  have e := hg.block b hb hne
  have : w'.cell? ⟨b, o, none⟩ = w.cell? ⟨b, o, none⟩ := by simp only [World.cell?, e]
  rw [this, h]
theorem fz_grown {w w' : World} {b o : Nat} {row : Option Nat} (h : w.frozen? ⟨b, o, none⟩ = false) (hg : w.grownBy w' row) (hb : b < w.heap.size) (hne : some b ≠ row) : w'.frozen? ⟨b, o, none⟩ = false := by
  have e := hg.block b hb hne
  have : w'.frozen? ⟨b, o, none⟩ = w.frozen? ⟨b, o, none⟩ := by simp only [World.frozen?, e]
  rw [this, h]
/-- Where one is who goes through deeds. -/
structure Wk (w : World) (B bm n : Nat) (p : Int) (h : List Int) (l : Int) : Prop where
  c0 : w.cell? ⟨B, 0, none⟩ = some (.int .i64 p)
  c1 : w.cell? ⟨B, 1, none⟩ = some (.map (some bm))
  c2 : w.cell? ⟨B, 2, none⟩ = some (.int .i64 l)
  z0 : w.frozen? ⟨B, 0, none⟩ = false
  z2 : w.frozen? ⟨B, 2, none⟩ = false
  lt : B < w.heap.size
  ne : B ≠ bm
  m : Hm w bm n h
theorem Wk.kept {w w' : World} {B bm n : Nat} {p : Int} {h : List Int} {l : Int} (k : Wk w B bm n p h l) (hg : w.grownBy w' none) : Wk w' B bm n p h l :=
  ⟨cell_grown k.c0 hg k.lt (by simp), cell_grown k.c1 hg k.lt (by simp), cell_grown k.c2 hg k.lt (by simp), fz_grown k.z0 hg k.lt (by simp), fz_grown k.z2 hg k.lt (by simp), Nat.lt_of_lt_of_le k.lt hg.size, k.ne, k.m.kept hg (by simp)⟩
theorem Wk.drewN {w : World} {B bm n : Nat} {p : Int} {h : List Int} {l : Int} (k : Wk w B bm n p h l) (d : Nat) : Wk (w.drewN d) B bm n p h l := ⟨k.c0, k.c1, k.c2, k.z0, k.z2, k.lt, k.ne, k.m.drewN d⟩
theorem Wk.map {w w' : World} {B bm n n' : Nat} {p : Int} {h h' : List Int} {l : Int} (k : Wk w B bm n p h l) (hg : w.grownBy w' (some bm)) (m : Hm w' bm n' h') : Wk w' B bm n' p h' l :=
  have e : some B ≠ some bm := fun e => k.ne (by injection e)
  ⟨cell_grown k.c0 hg k.lt e, cell_grown k.c1 hg k.lt e, cell_grown k.c2 hg k.lt e, fz_grown k.z0 hg k.lt e, fz_grown k.z2 hg k.lt e, Nat.lt_of_lt_of_le k.lt hg.size, k.ne, m⟩
theorem Hm.setCell {w : World} {b n B o : Nat} {h : List Int} (m : Hm w b n h) (hne : B ≠ b) (v : Value) : Hm (w.setCell ⟨B, o, none⟩ v) b n h := let ⟨D, q, r⟩ := m; ⟨D, q.setCell (fun e => hne e.symm) v, r⟩
theorem Wk.set0 {w : World} {B bm n : Nat} {p : Int} {h : List Int} {l : Int} (k : Wk w B bm n p h l) (q : Int) : Wk (w.setCell ⟨B, 0, none⟩ (.int .i64 q)) B bm n q h l :=
  ⟨st_same k.c0, st_other k.c1 (by simp), st_other k.c2 (by simp), st_fz k.z0, st_fz k.z2, by simpa using k.lt, k.ne, k.m.setCell k.ne _⟩
theorem Wk.set2 {w : World} {B bm n : Nat} {p : Int} {h : List Int} {l : Int} (k : Wk w B bm n p h l) (q : Int) : Wk (w.setCell ⟨B, 2, none⟩ (.int .i64 q)) B bm n p h q :=
  ⟨st_other k.c0 (by simp), st_other k.c1 (by simp), st_same k.c2, st_fz k.z0, st_fz k.z2, by simpa using k.lt, k.ne, k.m.setCell k.ne _⟩
set_option maxRecDepth 100000 in
set_option maxHeartbeats 4000000 in
theorem pass_any (w : World) (B bm n base : Nat) (p : Int) (h : List Int) (l fr : Int) (k : Wk w B bm n p h l) (hp : 0 ≤ p ∧ p ≤ 2) (hB : base ≤ B) :
    Calls Try.prog 66 #[.pointer (some ⟨B, 0, none⟩), .int .i64 fr] w fun e w' => e = .returned (.bool (decide (p = fr))) ∧ (p = fr → Wk w' B bm n (p + 1) h l) ∧ Below base w w' := by
  have HK := Lib.hid k
  obtain ⟨hp0, hp1⟩ := hp
  have c0 := k.c0
  have z0 := k.z0
  clear k
  by_cases e : p = fr
  · subst e
    rw [decide_eq_true rfl]
    go_enter Try.func66, Try.ntmps66
    go_wp2
    go_ret
    exact ⟨rfl, fun _ => HK.out.set0 _, (Below.refl base w).setCell hB _⟩
  · rw [decide_eq_false e]
    have hq : (p == fr) = false := by rw [beq_eq_false_iff_ne]; exact e
    have HE := Lib.hid e
    clear e
    go_enter Try.func66, Try.ntmps66
    go_wp2
    go_ret
    exact ⟨rfl, fun a => absurd a HE.out, Below.refl _ _⟩
end Go.Proofs.Ytbflkdkbfidleaa

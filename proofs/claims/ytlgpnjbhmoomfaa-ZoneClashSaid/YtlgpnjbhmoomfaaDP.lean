/- Is a deck too large to be looked at; what a well holds at most, and at first: what the program and the reference answer. -/
import Derived.Test.YtlgpnjbhmoomfaaDO
namespace Go.Proofs.Ytlgpnjbhmoomfaa
open Go.RowKit

def bigB (q : Pl) : Bool := decide (500 < q.st.length)
def largeB (d : Dk) : Bool := decide (60 < d.bl.length ∨ 8 < d.pl.length ∨ 8 < d.rl.length) || d.pl.any bigB
theorem any_yes {α : Type} (l : List α) (z : α) (f : α → Bool) (k : Nat) (h : k < l.length) (hf : f (l.getD k z) = true) : l.any f = true := List.any_eq_true.2 ⟨_, getD_mem' l k z h, hf⟩
theorem any_no {α : Type} (l : List α) (z : α) (f : α → Bool) (h : ∀ i, i < l.length → f (l.getD i z) = false) : l.any f = false := by
  rw [← Bool.not_eq_true, List.any_eq_true]
  rintro ⟨x, hx, hf⟩
  obtain ⟨i, hi, rfl⟩ := List.mem_iff_getElem.1 hx
  have := h i hi
  rw [List.getD_eq_getElem?_getD, List.getElem?_eq_getElem hi, Option.getD_some, hf] at this
  cases this
set_option maxRecDepth 100000 in
set_option maxHeartbeats 4000000 in
theorem large_any (d : Dk) (w : World) (hd : d.In w w.heap.size) : Calls Try.prog 11 #[d.v] w fun e w' => e = .returned (.bool (largeB d)) ∧ Below w.heap.size w w' := by
  have HD := Lib.hid hd
  have e0 := hd.b.len
  have e1 := hd.p.len
  have e2 := hd.r.len
  have L1 := Lib.hid (fun h : 60 < d.bl.length ∨ 8 < d.pl.length ∨ 8 < d.rl.length => show largeB d = true by unfold largeB; rw [decide_eq_true h]; rfl)
  have L2 := Lib.hid (fun h : ¬ (60 < d.bl.length ∨ 8 < d.pl.length ∨ 8 < d.rl.length) => show largeB d = d.pl.any bigB by unfold largeB; rw [decide_eq_false h]; rfl)
  have HY := Lib.hid (any_yes d.pl KP.dflt bigB)
  have HN := Lib.hid (any_no d.pl KP.dflt bigB)
  obtain ⟨C, hC⟩ : ∃ C, C = largeB d := ⟨_, rfl⟩
  rw [← hC] at L1 L2 ⊢
  clear hC
  obtain ⟨bA, bn, bc, bl, pA, pn, pc, pl, rA, rn, rc, rl, arms⟩ := d
  dsimp only at *
  subst e0 e1 e2
  have lb := hd.b.2.2
  clear hd
  obtain ⟨w0, hw0⟩ : ∃ w0, w0 = w.alloc (.cells #[.slice bA bl.length bc, .slice pA pl.length pc, .slice rA rl.length rc, .int .i64 arms] 26) := ⟨_, rfl⟩
  have f1 : w0.cell? ⟨w.heap.size, 1, none⟩ = some (.slice pA pl.length pc) := by rw [hw0]; exact alloc_cell _ _ _ _ _ rfl
  have HB0 := Lib.hid (show Below w.heap.size w w0 by rw [hw0]; exact Below.al (Below.refl _ _) _)
  have HD0 := Lib.hid (HD.out.then HB0.out)
  by_cases h1 : 60 < bl.length
  · obtain rfl := L1.out (.inl h1)
    go_enter Try.func11, Try.ntmps11
    go_wp2
    go_ret
    exact ⟨rfl, by rw [← hw0]; exact HB0.out⟩
  · by_cases h2 : 8 < pl.length
    · obtain rfl := L1.out (.inr (.inl h2))
      go_enter Try.func11, Try.ntmps11
      go_wp2
      go_ret
      exact ⟨rfl, by rw [← hw0]; exact HB0.out⟩
    · by_cases h3 : 8 < rl.length
      · obtain rfl := L1.out (.inr (.inr h3))
        go_enter Try.func11, Try.ntmps11
        go_wp2
        go_ret
        exact ⟨rfl, by rw [← hw0]; exact HB0.out⟩
      · have HL := Lib.hid (L2.out (by omega))
        clear L1 L2
        go_enter Try.func11, Try.ntmps11
        go_wp2
        rw [← hw0]
        clear hw0
        go_loop [3] (fun i => ∃ k : Nat, k ≤ pl.length ∧ i = .int .i64 k ∧ ∀ i, i < k → bigB (pl.getD i KP.dflt) = false) (fun i => pl.length - (intOf i).toNat)
        case atStart => exact ⟨0, Nat.zero_le _, rfl, fun i hi => by omega⟩
        case round =>
          obtain ⟨k, hk, rfl, hall⟩ := hrel
          have HA := Lib.hid hall
          clear hall
          by_cases hlt : k < pl.length
          · obtain ⟨b, off, rfl, hb, hc, hcell⟩ := plate_cells HD0.out.p (by dsimp only; omega)
            obtain ⟨c0, c1, c2, c3, c4, c5, c6⟩ := hcell k hlt
            have hsn := (HD0.out.s _ (getD_mem' pl k KP.dflt hlt)).len
            have hsl := (HD0.out.s _ (getD_mem' pl k KP.dflt hlt)).2.2
            have HYk := Lib.hid (HY.out k hlt)
            have HLS := Lib.hid (show ∀ (h : bigB (pl.getD k KP.dflt) = false) (i : Nat), i < k + 1 → bigB (pl.getD i KP.dflt) = false from fun h i hi => by
              by_cases e : i = k
              · rw [e]; exact h
              · exact HA.out i (by omega))
            clear hcell
            dsimp only at *
            rw [hsn] at c6
            clear hsn
            generalize pl.getD k KP.dflt = q at *
            by_cases g : 500 < q.st.length
            · have HR := Lib.hid (HYk.out (decide_eq_true g))
              go_wp2
              go_ret
              exact ⟨ret_b (by rw [HL.out, HR.out]), HB0.out⟩
            · have HR := Lib.hid (HLS.out (decide_eq_false g))
              go_wp2
              go_round
              case rel => exact ⟨k + 1, by omega, num_i (by omega), HR.out⟩
              case measure => simp [intOf]; omega
          · obtain rfl : k = pl.length := by omega
            have HR := Lib.hid (HN.out HA.out)
            go_wp2
            go_ret
            exact ⟨ret_b (by rw [HL.out, HR.out]), HB0.out⟩

noncomputable def capV (d : Dk) (id : Int) : Int := if (partV d id).2 = 0 ∧ (partV d id).1.a = 1 then (d.pl.getD (partV d id).1.b.toNat KP.dflt).cap else 0
noncomputable def startV (d : Dk) (id : Int) : Int :=
  if (partV d id).2 = 0 ∧ (partV d id).1.a = 1 then
    (d.pl.getD (partV d id).1.b.toNat KP.dflt).st.getD ((partV d id).1.c * (d.pl.getD (partV d id).1.b.toNat KP.dflt).cols + (partV d id).1.d).toNat 0
  else 0
theorem partV_ok (d : Dk) (id : Int) (h : (partV d id).2 = 0) : OkD d ∧ (partV d id).1 ∈ partsK d ∧ dchk d = 0 ∧ 0 ≤ id ∧ id < (partsK d).length := by
  by_cases hz : dchk d = 0
  · have e := partV_K d id hz
    refine ⟨dchk_ok d hz, ?_⟩
    rw [e] at h ⊢
    unfold partR at h ⊢
    by_cases hr : id < 0 ∨ ((partsK d).length : Int) ≤ id
    · rw [if_pos hr] at h; cases h
    · rw [if_neg hr]
      exact ⟨getD_mem' _ _ _ (by omega), hz, by omega, by omega⟩
  · unfold partV at h
    rw [if_neg hz] at h
    exact absurd h hz
theorem well_part (d : Dk) (p : Q4) (hp : p ∈ partsK d) (h1 : p.a = 1) : 0 ≤ p.b ∧ p.b.toNat < d.pl.length ∧ 0 ≤ p.c ∧ p.c < (d.pl.getD p.b.toNat KP.dflt).rows ∧ 0 ≤ p.d ∧ p.d < (d.pl.getD p.b.toNat KP.dflt).cols := by
  unfold partsK at hp
  by_cases hz : dchk d = 0
  · rw [if_pos hz] at hp
    unfold partsL partsU unitsL at hp
    obtain ⟨u, hu, hp⟩ := List.mem_flatMap.1 hp
    have hpar : p.a = u.a ∧ p.b = u.b := by
      unfold unitParts at hp
      obtain ⟨i, _, rfl⟩ := List.mem_map.1 hp
      exact ⟨rfl, rfl⟩
    rcases List.mem_append.1 hu with hu | hu
    · rcases List.mem_append.1 hu with hu | hu
      · obtain ⟨i, hi, rfl⟩ := List.mem_map.1 hu
        have hi := List.mem_range.1 hi
        have hok := okU_pos (plateU_ok d (dchk_ok d hz) i hi)
        obtain ⟨o1, o2, o3, o4, _⟩ := hok
        unfold unitParts at hp
        obtain ⟨j, hj, rfl⟩ := List.mem_map.1 hp
        have hj := List.mem_range.1 hj
        have a1 : j / (plateU d.pl i).d.toNat < (plateU d.pl i).c.toNat := (Nat.div_lt_iff_lt_mul (by omega)).2 hj
        have a2 : j % (plateU d.pl i).d.toNat < (plateU d.pl i).d.toNat := Nat.mod_lt _ (by omega)
        unfold unitF
        dsimp only
        have eb : (plateU d.pl i).b = (i : Int) := rfl
        rw [eb, Int.toNat_natCast]
        have ec : (d.pl.getD i KP.dflt).rows = (plateU d.pl i).c := rfl
        have ed : (d.pl.getD i KP.dflt).cols = (plateU d.pl i).d := rfl
        rw [ec, ed]
        generalize j / (plateU d.pl i).d.toNat = r at *
        generalize j % (plateU d.pl i).d.toNat = c at *
        omega
      · obtain ⟨i, hi, rfl⟩ := List.mem_map.1 hu
        rw [hpar.1] at h1
        exact absurd h1 (show ¬ (2 : Int) = 1 by decide)
    · obtain ⟨i, hi, rfl⟩ := List.mem_map.1 hu
      rw [hpar.1] at h1
      exact absurd h1 (show ¬ (3 : Int) = 1 by decide)
  · rw [if_neg hz] at hp
    simp at hp
end Go.Proofs.Ytlgpnjbhmoomfaa

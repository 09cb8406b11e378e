/- The law on names. -/
import Derived.Test.YtchnljdijmgnfaaWN
import Derived.Test.YtchnljdijmgnfaaWK
namespace Go.Proofs.Ytchnljdijmgnfaa
open Go.RowKit
set_option maxRecDepth 100000 in
set_option maxHeartbeats 4000000 in
theorem wellNames_walk (p : Int × Int) (s : ByteArray) (l : List UInt8) (hs : IsT s l) (hsz : l.length ≤ 9223372036854775807) (w : World) : Calls Try.prog 6 #[.agg #[.int .i64 p.1, .int .i64 p.2], .string s] w fun e w' => e = .returned (.bool true) ∧ Below w.heap.size w w' := by
  have HN := Lib.hid (name_any p)
  have HRN := Lib.hid (rname_any p)
  have HR := Lib.hid (right_any p)
  have HRR := Lib.hid (rright_any p)
  have HP := Lib.hid (wparse_any s l hs (by omega))
  have HQ := Lib.hid (rparse_any s l hs hsz)
  have HV := Lib.hid (name_any (parseV l))
  have HB0 := Lib.hid ((Below.refl w.heap.size w).alloc (Nat.le_refl _) (.cells #[.int .i64 p.1, .int .i64 p.2] 38))
  obtain ⟨p1, p2⟩ := p
  obtain ⟨a1, a2, hv⟩ : ∃ a1 a2, parseV l = (a1, a2) := ⟨_, _, rfl⟩
  obtain ⟨E, hE⟩ : ∃ E, E = parseE l := ⟨_, rfl⟩
  rw [hv, ← hE] at HP HQ
  rw [hv] at HV
  simp only at HN HRN HR HRR HP HQ HV HB0 ⊢
  have HVV := Lib.hid hv
  have HEE := Lib.hid hE
  have HS := Lib.hid hs
  clear hv hE hs hsz
  obtain ⟨t, ht⟩ : ∃ t, t = nameL (p1, p2) := ⟨_, rfl⟩
  rw [← ht] at HN HRN
  have HT := Lib.hid ht
  clear ht
  obtain ⟨r, hr⟩ : ∃ r, r = rightB (p1, p2) := ⟨_, rfl⟩
  rw [← hr] at HR HRR
  have HRB := Lib.hid hr
  clear hr
  obtain ⟨c1, c2, hcv⟩ : ∃ c1 c2, parseV t = (c1, c2) := ⟨_, _, rfl⟩
  obtain ⟨G, hG⟩ : ∃ G, G = parseE t := ⟨_, rfl⟩
  have HPT := Lib.hid (wparse_any ⟨t.toArray⟩ t ⟨rfl⟩ (by
    rw [HT.out]
    have := nameL_len (p1, p2)
    omega))
  rw [hcv, ← hG] at HPT
  simp only at HPT
  have HCV := Lib.hid hcv
  have HGG := Lib.hid hG
  clear hcv hG
  obtain rfl := HS.out.eq
  go_enter Try.func6, Try.ntmps6
  go_wp2_with fail
  refine (HN.out _).mono ?_
  rintro e w1 ⟨rfl, hb1⟩
  have p0_1 := keep_cell (a := ⟨w.heap.size, 0, none⟩) (v := .int .i64 p1) hb1 (by go_simp)
  have p1_1 := keep_cell (a := ⟨w.heap.size, 1, none⟩) (v := .int .i64 p2) hb1 (by go_simp)
  have HB1 := Lib.hid (Below.call HB0.out hb1)
  have hz1 : w.heap.size < w1.heap.size := by have := hb1.size; simp at this; omega
  clear hb1
  go_wp2_with fail
  refine (HP.out _).mono ?_
  rintro e w2 ⟨rfl, hb2⟩
  have p0_2 := keep_cell hb2 p0_1
  have p1_2 := keep_cell hb2 p1_1
  have HB2 := Lib.hid (Below.call HB1.out hb2)
  have hz2 : w.heap.size < w2.heap.size := by have := hb2.size; omega
  clear hb2 p0_1 p1_1
  go_wp2_with fail
  refine (HQ.out _).mono ?_
  rintro e w3 ⟨rfl, hb3⟩
  have p0_3 := keep_cell hb3 ((World.cell?_alloc_lt _ _ _ hz2).trans p0_2)
  have p1_3 := keep_cell hb3 ((World.cell?_alloc_lt _ _ _ hz2).trans p1_2)
  have a0_3 := keep_cell (a := ⟨w2.heap.size, 0, none⟩) (v := .int .i64 a1) hb3 (by go_simp)
  have a1_3 := keep_cell (a := ⟨w2.heap.size, 1, none⟩) (v := .int .i64 a2) hb3 (by go_simp)
  have HB3 := Lib.hid (Below.call (HB2.out.alloc (by have := HB2.out.size; omega) (.cells #[.int .i64 a1, .int .i64 a2] 38)) hb3)
  have hz3 : w.heap.size < w3.heap.size := by have := hb3.size; simp at this; omega
  have hz3' : w2.heap.size < w3.heap.size := by have := hb3.size; simp at this; omega
  clear hb3 p0_2 p1_2
  go_wp2
  have HB4 := Lib.hid (HB3.out.alloc (by have := HB3.out.size; omega) (.cells #[.int .i64 a1, .int .i64 a2] 38))
  have p0_4 := (World.cell?_alloc_lt _ (.cells #[.int .i64 a1, .int .i64 a2] 38) _ hz3).trans p0_3
  have p1_4 := (World.cell?_alloc_lt _ (.cells #[.int .i64 a1, .int .i64 a2] 38) _ hz3).trans p1_3
  have a0_4 := (World.cell?_alloc_lt _ (.cells #[.int .i64 a1, .int .i64 a2] 38) _ hz3').trans a0_3
  have a1_4 := (World.cell?_alloc_lt _ (.cells #[.int .i64 a1, .int .i64 a2] 38) _ hz3').trans a1_3
  have b0_4 : (w3.alloc (.cells #[.int .i64 a1, .int .i64 a2] 38)).cell? ⟨w3.heap.size, 0, none⟩ = some (.int .i64 a1) := by go_simp
  have b1_4 : (w3.alloc (.cells #[.int .i64 a1, .int .i64 a2] 38)).cell? ⟨w3.heap.size, 1, none⟩ = some (.int .i64 a2) := by go_simp
  clear p0_3 p1_3 a0_3 a1_3 hz3 hz3' hz1 hz2 HB1 HB2 HB3
  generalize w3.alloc (.cells #[.int .i64 a1, .int .i64 a2] 38) = w4 at *
  generalize w2.heap.size = A at *
  generalize w3.heap.size = B at *
  go_region_held3 (fun w' => w'.cell? ⟨w.heap.size, 0, none⟩ = some (.int .i64 p1) ∧ w'.cell? ⟨w.heap.size, 1, none⟩ = some (.int .i64 p2) ∧ w'.cell? ⟨A, 0, none⟩ = some (.int .i64 a1) ∧ w'.cell? ⟨A, 1, none⟩ = some (.int .i64 a2) ∧ w'.cell? ⟨B, 0, none⟩ = some (.int .i64 a1) ∧ w'.cell? ⟨B, 1, none⟩ = some (.int .i64 a2) ∧ Below w4.heap.size w4 w')
    (first | exact ⟨p0_4, p1_4, a0_4, a1_4, b0_4, b1_4, (Below.refl _ _).drew⟩ | go_keep | (go_split_ands; exact ⟨keep_cell hb (by assumption), keep_cell hb (by assumption), keep_cell hb (by assumption), keep_cell hb (by assumption), keep_cell hb (by assumption), keep_cell hb (by assumption), Below.call (by assumption) hb⟩))
    (first
      | (go_at_call 29; ((with_reducible refine (lives6_any _).mono ?_); rintro e w1 ⟨rfl, hb⟩))
      | (go_at_call 30; ((with_reducible refine (HRN.out _).mono ?_); rintro e w1 ⟨rfl, hb⟩))
      | (go_at_call 31; ((with_reducible refine (HR.out _).mono ?_); rintro e w1 ⟨rfl, hb⟩))
      | (go_at_call 32; ((with_reducible refine (HRR.out _).mono ?_); rintro e w1 ⟨rfl, hb⟩)))
  rename_i hH
  obtain ⟨m0, m1, n0, n1, _, _, hb5⟩ := hH
  have HB5 := Lib.hid (HB4.out.trans (hb5.mono HB4.out.size))
  clear hb hb5 HB4 p0_4 p1_4 a0_4 a1_4 b0_4 b1_4
  have tail : ∀ wq : World, Below w.heap.size w wq → True := fun _ _ => trivial
  cases hp : parseL l with
  | none =>
    have e1 : E = 60 := by rw [HEE.out, parseE, hp]; rfl
    subst e1
    clear tail
    go_wp2_with fail
    refine (HPT.out _).mono ?_
    rintro e w6 ⟨rfl, hb6⟩
    have p0_6 := keep_cell hb6 m0
    have p1_6 := keep_cell hb6 m1
    have HB6 := Lib.hid (Below.call HB5.out hb6)
    have hz6 : w.heap.size < w6.heap.size := by
      rcases Nat.lt_or_ge w.heap.size w6.heap.size with q | q
      · exact q
      · exact absurd p0_6 (by simp [World.cell?, Array.getElem?_eq_none q])
    clear hb6 m0 m1
    go_wp2_with fail
    refine (HRR.out _).mono ?_
    rintro e w7 ⟨rfl, hb7⟩
    have p0_7 := keep_cell hb7 ((World.cell?_alloc_lt _ _ _ hz6).trans p0_6)
    have p1_7 := keep_cell hb7 ((World.cell?_alloc_lt _ _ _ hz6).trans p1_6)
    have c0_7 := keep_cell (a := ⟨w6.heap.size, 0, none⟩) (v := .int .i64 c1) hb7 (by go_simp)
    have c1_7 := keep_cell (a := ⟨w6.heap.size, 1, none⟩) (v := .int .i64 c2) hb7 (by go_simp)
    have HB7 := Lib.hid (Below.call (HB6.out.alloc (by omega) (.cells #[.int .i64 c1, .int .i64 c2] 38)) hb7)
    clear hb7 p0_6 p1_6
    cases r
    · go_wp2
      go_ret
      exact ⟨ret_b rfl, HB7.out⟩
    · have hpn : parseL t = some (p1, p2) := by rw [HT.out]; exact parse_name (p1, p2) HRB.out.symm
      have f1 : (c1, c2) = (p1, p2) := by rw [← HCV.out, parseV, hpn]; rfl
      have f2 : G = 0 := by rw [HGG.out, parseE, hpn]; rfl
      obtain ⟨rfl, rfl⟩ : c1 = p1 ∧ c2 = p2 := by injection f1 with x y; exact ⟨x, y⟩
      subst f2
      clear f1 hpn
      go_wp2
      go_ret
      exact ⟨ret_b rfl, HB7.out⟩
  | some q =>
    have e1 : E = 0 := by rw [HEE.out, parseE, hp]; rfl
    subst e1
    have e2 : nameL (a1, a2) = l := by
      have e3 : parseV l = q := by rw [parseV, hp]; rfl
      rw [← HVV.out, e3]
      exact (name_parse l q hp).2
    rw [e2] at HV
    clear tail e2 hp
    go_wp2_with fail
    refine (HV.out _).mono ?_
    rintro e wv ⟨rfl, hbv⟩
    have m0 := keep_cell hbv m0
    have m1 := keep_cell hbv m1
    have HB5 := Lib.hid (Below.call HB5.out hbv)
    clear hbv
    go_wp2_with fail
    refine (HPT.out _).mono ?_
    rintro e w6 ⟨rfl, hb6⟩
    have p0_6 := keep_cell hb6 m0
    have p1_6 := keep_cell hb6 m1
    have HB6 := Lib.hid (Below.call HB5.out hb6)
    have hz6 : w.heap.size < w6.heap.size := by
      rcases Nat.lt_or_ge w.heap.size w6.heap.size with q | q
      · exact q
      · exact absurd p0_6 (by simp [World.cell?, Array.getElem?_eq_none q])
    clear hb6 m0 m1
    go_wp2_with fail
    refine (HRR.out _).mono ?_
    rintro e w7 ⟨rfl, hb7⟩
    have p0_7 := keep_cell hb7 ((World.cell?_alloc_lt _ _ _ hz6).trans p0_6)
    have p1_7 := keep_cell hb7 ((World.cell?_alloc_lt _ _ _ hz6).trans p1_6)
    have c0_7 := keep_cell (a := ⟨w6.heap.size, 0, none⟩) (v := .int .i64 c1) hb7 (by go_simp)
    have c1_7 := keep_cell (a := ⟨w6.heap.size, 1, none⟩) (v := .int .i64 c2) hb7 (by go_simp)
    have HB7 := Lib.hid (Below.call (HB6.out.alloc (by omega) (.cells #[.int .i64 c1, .int .i64 c2] 38)) hb7)
    clear hb7 p0_6 p1_6
    cases r
    · go_wp2
      go_ret
      exact ⟨ret_b rfl, HB7.out⟩
    · have hpn : parseL t = some (p1, p2) := by rw [HT.out]; exact parse_name (p1, p2) HRB.out.symm
      have f1 : (c1, c2) = (p1, p2) := by rw [← HCV.out, parseV, hpn]; rfl
      have f2 : G = 0 := by rw [HGG.out, parseE, hpn]; rfl
      obtain ⟨rfl, rfl⟩ : c1 = p1 ∧ c2 = p2 := by injection f1 with x y; exact ⟨x, y⟩
      subst f2
      clear f1 hpn
      go_wp2
      go_ret
      exact ⟨ret_b rfl, HB7.out⟩
end Go.Proofs.Ytchnljdijmgnfaa

/- Part 5 of the texts that the proof of FnExactRegister is built on. -/
import Derived.Test.YtlpchicpbnmdgacVl4
namespace Go.Vl
set_option linter.unusedVariables false
set_option linter.unusedSimpArgs false
open Go.Proofs
theorem scal_pairs (l : List (Int × Int)) : ∀ x ∈ l.map pairP, ∀ c ∈ x.cells, c.scal = true := by
  intro x hx c hc
  obtain ⟨n, _, rfl⟩ := List.mem_map.1 hx
  simp [PV.cells] at hc
  rcases hc with rfl | rfl <;> rfl

def regR (b : List (List Int)) (r : List (Int × Int)) (s o : Int) : List (Int × Int) × Bool :=
  if hasRC b r [s, o] then (if isSubM b r s o then (r, true) else if isSubM b r o s ∨ r.length = 8 then ([], false) else (r ++ [(s, o)], true)) else ([], false)
theorem regR_len {b : List (List Int)} {r : List (Int × Int)} {s o : Int} : (regR b r s o).1.length ≤ 9 := by
  unfold regR
  split
  · rename_i h
    have := h.1.2.1
    split
    · show r.length ≤ 9; omega
    · split
      · simp
      · simp only [List.length_append, List.length_singleton]; omega
  · simp
theorem regR_no {b : List (List Int)} {r : List (Int × Int)} {s o : Int} (h : ¬ hasRC b r [s, o]) : regR b r s o = ([], false) := if_neg h
theorem regR_is {b : List (List Int)} {r : List (Int × Int)} {s o : Int} (h : hasRC b r [s, o]) (h2 : isSubM b r s o) : regR b r s o = (r, true) := by unfold regR; rw [if_pos h, if_pos h2]
theorem regR_bad {b : List (List Int)} {r : List (Int × Int)} {s o : Int} (h : hasRC b r [s, o]) (h2 : ¬ isSubM b r s o) (h3 : isSubM b r o s ∨ r.length = 8) : regR b r s o = ([], false) := by unfold regR; rw [if_pos h, if_neg h2, if_pos h3]
theorem regR_new {b : List (List Int)} {r : List (Int × Int)} {s o : Int} (h : hasRC b r [s, o]) (h2 : ¬ isSubM b r s o) (h3 : ¬ isSubM b r o s) (h4 : ¬ r.length = 8) : regR b r s o = (r ++ [(s, o)], true) := by unfold regR; rw [if_pos h, if_neg h2, if_neg (fun h => h.elim h3 h4)]
theorem hasRC2 {b : List (List Int)} {r : List (Int × Int)} {s o : Int} : hasRC b r [s, o] ↔ VRegs b r ∧ (0 ≤ s ∧ s ≤ (b.length : Int) - 1) ∧ 0 ≤ o ∧ o ≤ (b.length : Int) - 1 := by
  unfold hasRC; simp

theorem cloneR_sat {nl0 : Option Bool} {s : List (Int × Int)} (hs : s.length < 1000000000)  : SatAt Try.prog 85 [.pv false (.sl nl0 2 (s.map pairP))] [] (fun res rows => ∃ nl, res = [.ref 0] ∧ rows = [Row.own 85 2 nl true ((s).map pairP)]) := by
 refine sat_entry_G (rs := [(2, none)]) Try.func85 rfl rfl (Nat.le_of_ble_eq_true rfl) (Nat.le_of_ble_eq_true rfl) (resTs1 trivial) fun C hC => ?_
 rw [Try.ntmps85]
 replace hC : C.nb = 0 := hC
 refine vc_seq fun K1 hK1 => ?_
 refine vc_region ?_
 refine vo_assign_pv rfl rfl ?_
 refine vo_own_nil 2 E43 rfl ?_
 refine vo_nil ?_
 refine hK1 _ ?_
 refine vc_seq fun K2 hK2 => ?_
 refine vc_seq fun K3 hK3 => ?_
 refine vc_region ?_
 refine vo_move_pv rfl rfl ?_
 refine vo_eqnil rfl rfl Try.underlying43 fun bn1 hn1 hnt1 hnf1 => ?_
 refine vo_nil ?_
 refine hK3 _ ?_
 refine vc_cond rfl (fun hc1 => ?_) (fun hc1 => ?_)
 ·try simp only [zq0, zq1, zq2, zq3, zq4, zq5, zq6, zq7, zq8, zq9, zqa, zqb, zqc, zqd, zqe, zqf] at hc1
  have hnil : s = [] := by have := hn1 hc1; simpa using this
  subst hnil
  refine vc_seq fun K4 hK4 => ?_
  refine vc_region ?_
  refine vo_assign_pv rfl rfl ?_
  refine vo_own_nil 2 E43 rfl ?_
  refine vo_nil ?_
  refine hK4 _ ?_
  refine vc_ret ?_
  change retQ _ _ _ _ _
  refine retQ_sel [1] (srows := [_]) (.inr rfl) hC rfl rfl rfl rfl rfl rfl rfl ?_
  exact ⟨_, rfl, rfl⟩
 ·try simp only [zq0, zq1, zq2, zq3, zq4, zq5, zq6, zq7, zq8, zq9, zqa, zqb, zqc, zqd, zqe, zqf] at hc1
  refine vc_skip ?_
  refine hK2 _ ?_
  refine vc_seq fun K5 hK5 => ?_
  refine vc_region ?_
  refine vo_buildSlice E43 rfl rfl rfl rfl rfl ?_
  refine vo_stM ?_
  refine vo_move_pv rfl rfl ?_
  refine vo_append E43 rfl (by omega) rfl rfl rfl sd sd ?_
  refine vo_stM ?_
  try simp only [app_ints, app_intss, app_bools, List.nil_append]
  refine vo_clean 1 rfl (scal_pairs _) ?_
  refine vo_stM ?_
  refine vo_assign_ref rfl rfl ?_
  refine vo_nil ?_
  refine hK5 _ ?_
  refine vc_ret ?_
  change retQ _ _ _ _ _
  refine retQ_sel [1] (srows := [_]) (.inr rfl) hC rfl rfl rfl rfl rfl rfl rfl ?_
  exact ⟨_, rfl, rfl⟩


theorem registerOwn_sat {nl0 : Option Bool} {bases : List (List Int)} {nl1 : Option Bool} {regs : List (Int × Int)} {a : Int} {b : Int} (hbases : bases.length < 1000000000) (hlbases : ∀ l ∈ bases, l.length < 1000000000) (hregs : regs.length < 1000000000)  : SatAt Try.prog 47 [.pv false (.sl nl0 1 (bases.map ints)), .pv false (.sl nl1 2 (regs.map pairP)), i64 a, i64 b] [] (fun res rows => ∃ nl, res = [.ref 0, bo (regR bases regs a b).2] ∧ rows = [Row.own 85 2 nl true (((regR bases regs a b).1).map pairP)]) := by
 refine sat_entry_G (rs := [(8, none), (9, none)]) Try.func47 rfl rfl (Nat.le_of_ble_eq_true rfl) (Nat.le_of_ble_eq_true rfl) (resTs2 trivial trivial) fun C hC => ?_
 rw [Try.ntmps47]
 replace hC : C.nb = 0 := hC
 refine vc_seq fun K1 hK1 => ?_
 refine vc_region ?_
 refine vo_assign_pv rfl rfl ?_
 refine vo_own_nil 8 E43 rfl ?_
 refine vo_assign_pv rfl rfl ?_
 refine vo_nil ?_
 refine hK1 _ ?_
 refine vc_seq fun K2 hK2 => ?_
 refine vc_seq fun K3 hK3 => ?_
 refine vc_region ?_
 refine vo_move_pv rfl rfl ?_
 refine vo_move_pv rfl rfl ?_
 refine vo_move_pv rfl rfl ?_
 refine vo_move_pv rfl rfl ?_
 refine vo_buildSlice E24 rfl rfl rfl rfl rfl ?_
 refine vo_stM ?_
 refine vo_expose 1 (by omega) rfl ?_
 refine vo_stM ?_
 refine vo_weaken 14 rfl ?_
 refine vo_stM ?_
 refine vo_call0 Try.func70 rfl rfl rfl rfl (hasRegs_sat (classes := [a, b]) hbases hlbases hregs (by simp)) ?_
 rintro _ _ ⟨rfl, rfl⟩
 refine ⟨rfl, rfl, .inl rfl, ?_⟩
 refine vo_stM ?_
 refine vo_not rfl rfl ?_
 refine vo_nil ?_
 refine hK3 _ ?_
 refine vc_cond rfl (fun hc1 => ?_) (fun hc1 => ?_)
 ·try simp only [zq0, zq1, zq2, zq3, zq4, zq5, zq6, zq7, zq8, zq9, zqa, zqb, zqc, zqd, zqe, zqf] at hc1
  refine vc_seq fun K4 hK4 => ?_
  refine vc_region ?_
  refine vo_assign_pv rfl rfl ?_
  refine vo_own_nil 8 E43 rfl ?_
  refine vo_assign_pv rfl rfl ?_
  refine vo_nil ?_
  refine hK4 _ ?_
  refine vc_ret ?_
  change retQ _ _ _ _ _
  refine retQ_sel [2] (srows := [_]) (.inr rfl) hC rfl rfl rfl rfl rfl rfl rfl ?_
  first
   | (rw [regR_no (by assumption)]; exact ⟨_, rfl, rfl⟩)
   | (rw [regR_is (by assumption) (by assumption)]; exact ⟨_, rfl, rfl⟩)
   | (rw [regR_bad (by assumption) (by assumption) (by first | exact .inl (by assumption) | exact .inr (by omega))]; exact ⟨_, rfl, rfl⟩)
   | (rw [regR_new (by assumption) (by assumption) (by assumption) (by omega)]; exact ⟨_, rfl, rfl⟩)
 ·try simp only [zq0, zq1, zq2, zq3, zq4, zq5, zq6, zq7, zq8, zq9, zqa, zqb, zqc, zqd, zqe, zqf] at hc1
  refine vc_skip ?_
  refine hK2 _ ?_
  refine vc_seq fun K5 hK5 => ?_
  refine vc_seq fun K6 hK6 => ?_
  refine vc_region ?_
  refine vo_move_pv rfl rfl ?_
  refine vo_move_pv rfl rfl ?_
  refine vo_move_pv rfl rfl ?_
  refine vo_move_pv rfl rfl ?_
  refine vo_call0 Try.func43 rfl rfl rfl rfl (implIsSub_sat (a := a) (b := b) hbases hlbases hregs) ?_
  rintro _ _ ⟨rfl, rfl⟩
  refine ⟨rfl, rfl, .inl rfl, ?_⟩
  refine vo_stM ?_
  refine vo_nil ?_
  refine hK6 _ ?_
  refine vc_cond rfl (fun hc2 => ?_) (fun hc2 => ?_)
  ·try simp only [zq0, zq1, zq2, zq3, zq4, zq5, zq6, zq7, zq8, zq9, zqa, zqb, zqc, zqd, zqe, zqf] at hc2
   refine vc_seq fun K7 hK7 => ?_
   refine vc_region ?_
   refine vo_move_pv rfl rfl ?_
   refine vo_call [] Try.func85 rfl rfl rfl rfl rfl rfl rfl (cloneR_sat hregs) ?_
   rintro _ _ ⟨nlc, rfl, rfl⟩
   refine ⟨Nat.le_of_ble_eq_true rfl, ⟨rfl, rfl, rfl, rfl⟩, .inl rfl, ?_⟩
   refine vo_stM ?_
   refine vo_assign_ref rfl rfl ?_
   refine vo_assign_pv rfl rfl ?_
   refine vo_nil ?_
   refine hK7 _ ?_
   refine vc_ret ?_
   change retQ _ _ _ _ _
   refine retQ_sel [2] (srows := [_]) (.inr rfl) hC rfl rfl rfl rfl rfl rfl rfl ?_
   first
    | (rw [regR_no (by assumption)]; exact ⟨_, rfl, rfl⟩)
    | (rw [regR_is (by assumption) (by assumption)]; exact ⟨_, rfl, rfl⟩)
    | (rw [regR_bad (by assumption) (by assumption) (by first | exact .inl (by assumption) | exact .inr (by omega))]; exact ⟨_, rfl, rfl⟩)
    | (rw [regR_new (by assumption) (by assumption) (by assumption) (by omega)]; exact ⟨_, rfl, rfl⟩)
  ·try simp only [zq0, zq1, zq2, zq3, zq4, zq5, zq6, zq7, zq8, zq9, zqa, zqb, zqc, zqd, zqe, zqf] at hc2
   refine vc_skip ?_
   refine hK5 _ ?_
   refine vc_seq fun K8 hK8 => ?_
   refine vc_seq fun K9 hK9 => ?_
   refine vc_region ?_
   refine vo_move_pv rfl rfl ?_
   refine vo_move_pv rfl rfl ?_
   refine vo_move_pv rfl rfl ?_
   refine vo_move_pv rfl rfl ?_
   refine vo_call0 Try.func43 rfl rfl rfl rfl (implIsSub_sat (a := b) (b := a) hbases hlbases hregs) ?_
   rintro _ _ ⟨rfl, rfl⟩
   refine ⟨rfl, rfl, .inl rfl, ?_⟩
   refine vo_stM ?_
   refine vo_move_pv rfl rfl ?_
   refine vo_split 29 rfl (fun hg3 => ?_) (fun hg3 => ?_)
   ·try simp only [zq0, zq1, zq2, zq3, zq4, zq5, zq6, zq7, zq8, zq9, zqa, zqb, zqc, zqd, zqe, zqf] at hg3
    refine vo_guard_off rfl rfl rfl rfl rfl ?_
    refine vo_guard_off rfl rfl rfl rfl rfl ?_
    refine vo_guard_off rfl rfl rfl rfl rfl ?_
    refine vo_pick_t rfl rfl ?_
    refine vo_nil ?_
    refine hK9 _ ?_
    refine vc_cond_t rfl ?_
    refine vc_seq fun K10 hK10 => ?_
    refine vc_region ?_
    refine vo_assign_pv rfl rfl ?_
    refine vo_own_nil 8 E43 rfl ?_
    refine vo_assign_pv rfl rfl ?_
    refine vo_nil ?_
    refine hK10 _ ?_
    refine vc_ret ?_
    change retQ _ _ _ _ _
    refine retQ_sel [2] (srows := [_]) (.inr rfl) hC rfl rfl rfl rfl rfl rfl rfl ?_
    first
     | (rw [regR_no (by assumption)]; exact ⟨_, rfl, rfl⟩)
     | (rw [regR_is (by assumption) (by assumption)]; exact ⟨_, rfl, rfl⟩)
     | (rw [regR_bad (by assumption) (by assumption) (by first | exact .inl (by assumption) | exact .inr (by omega))]; exact ⟨_, rfl, rfl⟩)
     | (rw [regR_new (by assumption) (by assumption) (by assumption) (by omega)]; exact ⟨_, rfl, rfl⟩)
   ·try simp only [zq0, zq1, zq2, zq3, zq4, zq5, zq6, zq7, zq8, zq9, zqa, zqb, zqc, zqd, zqe, zqf] at hg3
    refine vo_guard_on rfl rfl rfl ?_
    refine vo_move_pv rfl rfl ?_
    refine vo_guard_on rfl rfl rfl ?_
    refine vo_len_pv rfl rfl Try.underlying43 ?_
    refine vo_guard_on rfl rfl rfl ?_
    refine vo_binI rfl rfl rfl rfl trivial ?_
    refine vo_pick_f rfl rfl ?_
    refine vo_nil ?_
    refine hK9 _ ?_
    refine vc_cond rfl (fun hc4 => ?_) (fun hc4 => ?_)
    ·try simp only [zq0, zq1, zq2, zq3, zq4, zq5, zq6, zq7, zq8, zq9, zqa, zqb, zqc, zqd, zqe, zqf] at hc4
     refine vc_seq fun K11 hK11 => ?_
     refine vc_region ?_
     refine vo_assign_pv rfl rfl ?_
     refine vo_own_nil 8 E43 rfl ?_
     refine vo_assign_pv rfl rfl ?_
     refine vo_nil ?_
     refine hK11 _ ?_
     refine vc_ret ?_
     change retQ _ _ _ _ _
     refine retQ_sel [2] (srows := [_]) (.inr rfl) hC rfl rfl rfl rfl rfl rfl rfl ?_
     first
      | (rw [regR_no (by assumption)]; exact ⟨_, rfl, rfl⟩)
      | (rw [regR_is (by assumption) (by assumption)]; exact ⟨_, rfl, rfl⟩)
      | (rw [regR_bad (by assumption) (by assumption) (by first | exact .inl (by assumption) | exact .inr (by omega))]; exact ⟨_, rfl, rfl⟩)
      | (rw [regR_new (by assumption) (by assumption) (by assumption) (by omega)]; exact ⟨_, rfl, rfl⟩)
    ·try simp only [zq0, zq1, zq2, zq3, zq4, zq5, zq6, zq7, zq8, zq9, zqa, zqb, zqc, zqd, zqe, zqf] at hc4
     refine vc_skip ?_
     refine hK8 _ ?_
     refine vc_seq fun K12 hK12 => ?_
     refine vc_region ?_
     refine vo_move_pv rfl rfl ?_
     refine vo_call [] Try.func85 rfl rfl rfl rfl rfl rfl rfl (cloneR_sat hregs) ?_
     rintro _ _ ⟨nlc, rfl, rfl⟩
     refine ⟨Nat.le_of_ble_eq_true rfl, ⟨rfl, rfl, rfl, rfl⟩, .inl rfl, ?_⟩
     refine vo_stM ?_
     refine vo_move_pv rfl rfl ?_
     refine vo_move_pv rfl rfl ?_
     refine vo_build S85 rfl rfl rfl ?_
     refine vo_stM ?_
     refine vo_buildSlice E43 rfl rfl rfl rfl rfl ?_
     refine vo_stM ?_
     refine vo_append E43 rfl (by omega) rfl rfl rfl sd sd ?_
     refine vo_stM ?_
     try simp only [app_ints, app_intss, app_bools, app_pairs1]
     refine vo_clean 2 rfl (scal_pairs _) ?_
     refine vo_stM ?_
     refine vo_assign_ref rfl rfl ?_
     refine vo_assign_pv rfl rfl ?_
     refine vo_nil ?_
     refine hK12 _ ?_
     refine vc_ret ?_
     change retQ _ _ _ _ _
     refine retQ_sel [2] (srows := [_]) (.inr rfl) hC rfl rfl rfl rfl rfl rfl rfl ?_
     first
      | (rw [regR_no (by assumption)]; exact ⟨_, rfl, rfl⟩)
      | (rw [regR_is (by assumption) (by assumption)]; exact ⟨_, rfl, rfl⟩)
      | (rw [regR_bad (by assumption) (by assumption) (by first | exact .inl (by assumption) | exact .inr (by omega))]; exact ⟨_, rfl, rfl⟩)
      | (rw [regR_new (by assumption) (by assumption) (by assumption) (by omega)]; exact ⟨_, rfl, rfl⟩)


theorem specRegister_sat {nl0 : Option Bool} {bases : List (List Int)} {nl1 : Option Bool} {regs : List (Int × Int)} {a : Int} {b : Int} (hbases : bases.length < 1000000000) (hlbases : ∀ l ∈ bases, l.length < 1000000000) (hregs : regs.length < 1000000000)  : SatAt Try.prog 48 [.pv false (.sl nl0 1 (bases.map ints)), .pv false (.sl nl1 2 (regs.map pairP)), i64 a, i64 b] [] (fun res rows => ∃ nl, res = [.pv true (.sl nl 2 ((regR bases regs a b).1.map pairP)), bo (regR bases regs a b).2] ∧ rows = []) := by
 refine sat_entry_G (rs := [(8, none), (9, none)]) Try.func48 rfl rfl (Nat.le_of_ble_eq_true rfl) (Nat.le_of_ble_eq_true rfl) (resTs2 trivial trivial) fun C hC => ?_
 rw [Try.ntmps48]
 replace hC : C.nb = 0 := hC
 refine vc_seq fun K1 hK1 => ?_
 refine vc_region ?_
 refine vo_assign_pv rfl rfl ?_
 refine vo_own_nil 8 E43 rfl ?_
 refine vo_assign_pv rfl rfl ?_
 refine vo_nil ?_
 refine hK1 _ ?_
 refine vc_seq fun K2 hK2 => ?_
 refine vc_seq fun K3 hK3 => ?_
 refine vc_region ?_
 refine vo_move_pv rfl rfl ?_
 refine vo_move_pv rfl rfl ?_
 refine vo_call0 Try.func75 rfl rfl rfl rfl (specValidRegs0_sat hbases hlbases hregs) ?_
 rintro _ _ ⟨rfl, rfl⟩
 refine ⟨rfl, rfl, .inl rfl, ?_⟩
 refine vo_stM ?_
 refine vo_not rfl rfl ?_
 refine vo_move_pv rfl rfl ?_
 refine vo_split 14 rfl (fun hg1 => ?_) (fun hg1 => ?_)
 ·try simp only [zq0, zq1, zq2, zq3, zq4, zq5, zq6, zq7, zq8, zq9, zqa, zqb, zqc, zqd, zqe, zqf] at hg1
  refine vo_guard_off rfl rfl rfl rfl rfl ?_
  refine vo_guard_off rfl rfl rfl rfl rfl ?_
  refine vo_guard_off rfl rfl rfl rfl rfl ?_
  refine vo_guard_off rfl rfl rfl rfl rfl ?_
  refine vo_guard_off rfl rfl rfl rfl rfl ?_
  refine vo_guard_off rfl rfl rfl rfl rfl ?_
  refine vo_pick_t rfl rfl ?_
  refine vo_move_pv rfl rfl ?_
  refine vo_guard_off rfl rfl rfl rfl rfl ?_
  refine vo_guard_off rfl rfl rfl rfl rfl ?_
  refine vo_guard_off rfl rfl rfl rfl rfl ?_
  refine vo_guard_off rfl rfl rfl rfl rfl ?_
  refine vo_guard_off rfl rfl rfl rfl rfl ?_
  refine vo_guard_off rfl rfl rfl rfl rfl ?_
  refine vo_pick_t rfl rfl ?_
  refine vo_nil ?_
  refine hK3 _ ?_
  refine vc_cond_t rfl ?_
  refine vc_seq fun K4 hK4 => ?_
  refine vc_region ?_
  refine vo_assign_pv rfl rfl ?_
  refine vo_own_nil 8 E43 rfl ?_
  refine vo_assign_pv rfl rfl ?_
  refine vo_nil ?_
  refine hK4 _ ?_
  refine vc_expose 1 (by omega) rfl ?_
  refine vc_stM ?_
  refine vc_ret ?_
  change retQ _ _ _ _ _
  refine retQ_sel [] (srows := []) (.inr rfl) hC rfl rfl rfl rfl rfl rfl rfl ?_
  first
   | (rw [regR_no (fun h => by have h9 := hasRC2.1 h; first | exact absurd h9.1 (by assumption) | omega)]; exact ⟨_, rfl, rfl⟩)
   | (rw [regR_is hR (i1.1 (by assumption))]; exact ⟨_, rfl, rfl⟩)
   | (rw [regR_bad hR (fun h => absurd (i1.2 h) (by assumption)) (by first | exact .inl (i2.1 (by assumption)) | exact .inr (by omega))]; exact ⟨_, rfl, rfl⟩)
   | (rw [regR_new hR (fun h => absurd (i1.2 h) (by assumption)) (fun h => absurd (i2.2 h) (by assumption)) (by omega)]; exact ⟨_, rfl, rfl⟩)
 ·try simp only [zq0, zq1, zq2, zq3, zq4, zq5, zq6, zq7, zq8, zq9, zqa, zqb, zqc, zqd, zqe, zqf] at hg1
  refine vo_guard_on rfl rfl rfl ?_
  refine vo_move_pv rfl rfl ?_
  refine vo_guard_on rfl rfl rfl ?_
  refine vo_move_pv rfl rfl ?_
  refine vo_guard_on rfl rfl rfl ?_
  refine vo_len_pv rfl rfl Try.underlying23 ?_
  refine vo_guard_on rfl rfl rfl ?_
  refine vo_binI rfl rfl rfl rfl sd ?_
  refine vo_guard_on rfl rfl rfl ?_
  refine vo_call0 Try.func58 rfl rfl rfl rfl inRange_sat ?_
  rintro _ _ ⟨rfl, rfl⟩
  refine ⟨rfl, rfl, .inl rfl, ?_⟩
  refine vo_stM ?_
  refine vo_guard_on rfl rfl rfl ?_
  refine vo_not rfl rfl ?_
  refine vo_pick_f rfl rfl ?_
  refine vo_move_pv rfl rfl ?_
  refine vo_split 22 rfl (fun hg2 => ?_) (fun hg2 => ?_)
  ·try simp only [zq0, zq1, zq2, zq3, zq4, zq5, zq6, zq7, zq8, zq9, zqa, zqb, zqc, zqd, zqe, zqf] at hg2
   refine vo_guard_off rfl rfl rfl rfl rfl ?_
   refine vo_guard_off rfl rfl rfl rfl rfl ?_
   refine vo_guard_off rfl rfl rfl rfl rfl ?_
   refine vo_guard_off rfl rfl rfl rfl rfl ?_
   refine vo_guard_off rfl rfl rfl rfl rfl ?_
   refine vo_guard_off rfl rfl rfl rfl rfl ?_
   refine vo_pick_t rfl rfl ?_
   refine vo_nil ?_
   refine hK3 _ ?_
   refine vc_cond_t rfl ?_
   refine vc_seq fun K5 hK5 => ?_
   refine vc_region ?_
   refine vo_assign_pv rfl rfl ?_
   refine vo_own_nil 8 E43 rfl ?_
   refine vo_assign_pv rfl rfl ?_
   refine vo_nil ?_
   refine hK5 _ ?_
   refine vc_expose 1 (by omega) rfl ?_
   refine vc_stM ?_
   refine vc_ret ?_
   change retQ _ _ _ _ _
   refine retQ_sel [] (srows := []) (.inr rfl) hC rfl rfl rfl rfl rfl rfl rfl ?_
   first
    | (rw [regR_no (fun h => by have h9 := hasRC2.1 h; first | exact absurd h9.1 (by assumption) | omega)]; exact ⟨_, rfl, rfl⟩)
    | (rw [regR_is hR (i1.1 (by assumption))]; exact ⟨_, rfl, rfl⟩)
    | (rw [regR_bad hR (fun h => absurd (i1.2 h) (by assumption)) (by first | exact .inl (i2.1 (by assumption)) | exact .inr (by omega))]; exact ⟨_, rfl, rfl⟩)
    | (rw [regR_new hR (fun h => absurd (i1.2 h) (by assumption)) (fun h => absurd (i2.2 h) (by assumption)) (by omega)]; exact ⟨_, rfl, rfl⟩)
  ·try simp only [zq0, zq1, zq2, zq3, zq4, zq5, zq6, zq7, zq8, zq9, zqa, zqb, zqc, zqd, zqe, zqf] at hg2
   refine vo_guard_on rfl rfl rfl ?_
   refine vo_move_pv rfl rfl ?_
   refine vo_guard_on rfl rfl rfl ?_
   refine vo_move_pv rfl rfl ?_
   refine vo_guard_on rfl rfl rfl ?_
   refine vo_len_pv rfl rfl Try.underlying23 ?_
   refine vo_guard_on rfl rfl rfl ?_
   refine vo_binI rfl rfl rfl rfl sd ?_
   refine vo_guard_on rfl rfl rfl ?_
   refine vo_call0 Try.func58 rfl rfl rfl rfl inRange_sat ?_
   rintro _ _ ⟨rfl, rfl⟩
   refine ⟨rfl, rfl, .inl rfl, ?_⟩
   refine vo_stM ?_
   refine vo_guard_on rfl rfl rfl ?_
   refine vo_not rfl rfl ?_
   refine vo_pick_f rfl rfl ?_
   refine vo_nil ?_
   refine hK3 _ ?_
   refine vc_cond rfl (fun hc3 => ?_) (fun hc3 => ?_)
   ·try simp only [zq0, zq1, zq2, zq3, zq4, zq5, zq6, zq7, zq8, zq9, zqa, zqb, zqc, zqd, zqe, zqf] at hc3
    refine vc_seq fun K6 hK6 => ?_
    refine vc_region ?_
    refine vo_assign_pv rfl rfl ?_
    refine vo_own_nil 8 E43 rfl ?_
    refine vo_assign_pv rfl rfl ?_
    refine vo_nil ?_
    refine hK6 _ ?_
    refine vc_expose 1 (by omega) rfl ?_
    refine vc_stM ?_
    refine vc_ret ?_
    change retQ _ _ _ _ _
    refine retQ_sel [] (srows := []) (.inr rfl) hC rfl rfl rfl rfl rfl rfl rfl ?_
    first
     | (rw [regR_no (fun h => by have h9 := hasRC2.1 h; first | exact absurd h9.1 (by assumption) | omega)]; exact ⟨_, rfl, rfl⟩)
     | (rw [regR_is hR (i1.1 (by assumption))]; exact ⟨_, rfl, rfl⟩)
     | (rw [regR_bad hR (fun h => absurd (i1.2 h) (by assumption)) (by first | exact .inl (i2.1 (by assumption)) | exact .inr (by omega))]; exact ⟨_, rfl, rfl⟩)
     | (rw [regR_new hR (fun h => absurd (i1.2 h) (by assumption)) (fun h => absurd (i2.2 h) (by assumption)) (by omega)]; exact ⟨_, rfl, rfl⟩)
   ·try simp only [zq0, zq1, zq2, zq3, zq4, zq5, zq6, zq7, zq8, zq9, zqa, zqb, zqc, zqd, zqe, zqf] at hc3
    have hV : VRegs bases regs := by assumption
    have hR : hasRC bases regs [a, b] := hasRC2.2 ⟨hV, by omega, by omega⟩
    have i1 := isSub_ask (a := a) (c := b) hV (by omega) (by omega) (by omega) (by omega)
    have i2 := isSub_ask (a := b) (c := a) hV (by omega) (by omega) (by omega) (by omega)
    refine vc_skip ?_
    refine hK2 _ ?_
    refine vc_seq fun K7 hK7 => ?_
    refine vc_seq fun K8 hK8 => ?_
    refine vc_region ?_
    refine vo_move_pv rfl rfl ?_
    refine vo_move_pv rfl rfl ?_
    refine vo_move_pv rfl rfl ?_
    refine vo_move_pv rfl rfl ?_
    refine vo_buildSlice E24 rfl rfl rfl rfl rfl ?_
    refine vo_stM ?_
    refine vo_expose 1 (by omega) rfl ?_
    refine vo_stM ?_
    refine vo_weaken 34 rfl ?_
    refine vo_stM ?_
    refine vo_call0 Try.func83 rfl rfl rfl rfl (asks_sat (a := a) hbases hlbases hregs hV (by omega) (by omega) 12 _ [] b (by omega) (by omega) ⟨by simp, by simp⟩ (by have := hV.1.2.1; omega)) ?_
    rintro _ _ ⟨rfl, rfl⟩
    refine ⟨rfl, rfl, .inl rfl, ?_⟩
    refine vo_stM ?_
    refine vo_nil ?_
    refine hK8 _ ?_
    refine vc_cond rfl (fun hc4 => ?_) (fun hc4 => ?_)
    ·try simp only [zq0, zq1, zq2, zq3, zq4, zq5, zq6, zq7, zq8, zq9, zqa, zqb, zqc, zqd, zqe, zqf] at hc4
     refine vc_seq fun K9 hK9 => ?_
     refine vc_region ?_
     refine vo_buildSlice E43 rfl rfl rfl rfl rfl ?_
     refine vo_stM ?_
     refine vo_move_pv rfl rfl ?_
     refine vo_append E43 rfl (by omega) rfl rfl rfl sd sd ?_
     refine vo_stM ?_
     try simp only [app_ints, app_intss, app_bools, List.nil_append, app_pairs1]
     refine vo_clean 2 rfl (scal_pairs _) ?_
     refine vo_stM ?_
     refine vo_assign_ref rfl rfl ?_
     refine vo_assign_pv rfl rfl ?_
     refine vo_nil ?_
     refine hK9 _ ?_
     refine vc_expose 2 (by omega) rfl ?_
     refine vc_stM ?_
     refine vc_ret ?_
     change retQ _ _ _ _ _
     refine retQ_sel [] (srows := []) (.inr rfl) hC rfl rfl rfl rfl rfl rfl rfl ?_
     first
      | (rw [regR_no (fun h => by have h9 := hasRC2.1 h; first | exact absurd h9.1 (by assumption) | omega)]; exact ⟨_, rfl, rfl⟩)
      | (rw [regR_is hR (i1.1 (by assumption))]; exact ⟨_, rfl, rfl⟩)
      | (rw [regR_bad hR (fun h => absurd (i1.2 h) (by assumption)) (by first | exact .inl (i2.1 (by assumption)) | exact .inr (by omega))]; exact ⟨_, rfl, rfl⟩)
      | (rw [regR_new hR (fun h => absurd (i1.2 h) (by assumption)) (fun h => absurd (i2.2 h) (by assumption)) (by omega)]; exact ⟨_, rfl, rfl⟩)
    ·try simp only [zq0, zq1, zq2, zq3, zq4, zq5, zq6, zq7, zq8, zq9, zqa, zqb, zqc, zqd, zqe, zqf] at hc4
     refine vc_skip ?_
     refine hK7 _ ?_
     refine vc_seq fun K10 hK10 => ?_
     refine vc_seq fun K11 hK11 => ?_
     refine vc_region ?_
     refine vo_move_pv rfl rfl ?_
     refine vo_move_pv rfl rfl ?_
     refine vo_move_pv rfl rfl ?_
     refine vo_move_pv rfl rfl ?_
     refine vo_buildSlice E24 rfl rfl rfl rfl rfl ?_
     refine vo_stM ?_
     refine vo_expose 2 (by omega) rfl ?_
     refine vo_stM ?_
     refine vo_weaken 43 rfl ?_
     refine vo_stM ?_
     refine vo_call0 Try.func83 rfl rfl rfl rfl (asks_sat (a := b) hbases hlbases hregs hV (by omega) (by omega) 12 _ [] a (by omega) (by omega) ⟨by simp, by simp⟩ (by have := hV.1.2.1; omega)) ?_
     rintro _ _ ⟨rfl, rfl⟩
     refine ⟨rfl, rfl, .inl rfl, ?_⟩
     refine vo_stM ?_
     refine vo_move_pv rfl rfl ?_
     refine vo_split 45 rfl (fun hg5 => ?_) (fun hg5 => ?_)
     ·try simp only [zq0, zq1, zq2, zq3, zq4, zq5, zq6, zq7, zq8, zq9, zqa, zqb, zqc, zqd, zqe, zqf] at hg5
      refine vo_guard_off rfl rfl rfl rfl rfl ?_
      refine vo_guard_off rfl rfl rfl rfl rfl ?_
      refine vo_guard_off rfl rfl rfl rfl rfl ?_
      refine vo_pick_t rfl rfl ?_
      refine vo_nil ?_
      refine hK11 _ ?_
      refine vc_cond_t rfl ?_
      refine vc_seq fun K12 hK12 => ?_
      refine vc_region ?_
      refine vo_assign_pv rfl rfl ?_
      refine vo_own_nil 8 E43 rfl ?_
      refine vo_assign_pv rfl rfl ?_
      refine vo_nil ?_
      refine hK12 _ ?_
      refine vc_expose 3 (by omega) rfl ?_
      refine vc_stM ?_
      refine vc_ret ?_
      change retQ _ _ _ _ _
      refine retQ_sel [] (srows := []) (.inr rfl) hC rfl rfl rfl rfl rfl rfl rfl ?_
      first
       | (rw [regR_no (fun h => by have h9 := hasRC2.1 h; first | exact absurd h9.1 (by assumption) | omega)]; exact ⟨_, rfl, rfl⟩)
       | (rw [regR_is hR (i1.1 (by assumption))]; exact ⟨_, rfl, rfl⟩)
       | (rw [regR_bad hR (fun h => absurd (i1.2 h) (by assumption)) (by first | exact .inl (i2.1 (by assumption)) | exact .inr (by omega))]; exact ⟨_, rfl, rfl⟩)
       | (rw [regR_new hR (fun h => absurd (i1.2 h) (by assumption)) (fun h => absurd (i2.2 h) (by assumption)) (by omega)]; exact ⟨_, rfl, rfl⟩)
     ·try simp only [zq0, zq1, zq2, zq3, zq4, zq5, zq6, zq7, zq8, zq9, zqa, zqb, zqc, zqd, zqe, zqf] at hg5
      refine vo_guard_on rfl rfl rfl ?_
      refine vo_move_pv rfl rfl ?_
      refine vo_guard_on rfl rfl rfl ?_
      refine vo_len_pv rfl rfl Try.underlying43 ?_
      refine vo_guard_on rfl rfl rfl ?_
      refine vo_binI rfl rfl rfl rfl trivial ?_
      refine vo_pick_f rfl rfl ?_
      refine vo_nil ?_
      refine hK11 _ ?_
      refine vc_cond rfl (fun hc6 => ?_) (fun hc6 => ?_)
      ·try simp only [zq0, zq1, zq2, zq3, zq4, zq5, zq6, zq7, zq8, zq9, zqa, zqb, zqc, zqd, zqe, zqf] at hc6
       refine vc_seq fun K13 hK13 => ?_
       refine vc_region ?_
       refine vo_assign_pv rfl rfl ?_
       refine vo_own_nil 8 E43 rfl ?_
       refine vo_assign_pv rfl rfl ?_
       refine vo_nil ?_
       refine hK13 _ ?_
       refine vc_expose 3 (by omega) rfl ?_
       refine vc_stM ?_
       refine vc_ret ?_
       change retQ _ _ _ _ _
       refine retQ_sel [] (srows := []) (.inr rfl) hC rfl rfl rfl rfl rfl rfl rfl ?_
       first
        | (rw [regR_no (fun h => by have h9 := hasRC2.1 h; first | exact absurd h9.1 (by assumption) | omega)]; exact ⟨_, rfl, rfl⟩)
        | (rw [regR_is hR (i1.1 (by assumption))]; exact ⟨_, rfl, rfl⟩)
        | (rw [regR_bad hR (fun h => absurd (i1.2 h) (by assumption)) (by first | exact .inl (i2.1 (by assumption)) | exact .inr (by omega))]; exact ⟨_, rfl, rfl⟩)
        | (rw [regR_new hR (fun h => absurd (i1.2 h) (by assumption)) (fun h => absurd (i2.2 h) (by assumption)) (by omega)]; exact ⟨_, rfl, rfl⟩)
      ·try simp only [zq0, zq1, zq2, zq3, zq4, zq5, zq6, zq7, zq8, zq9, zqa, zqb, zqc, zqd, zqe, zqf] at hc6
       refine vc_skip ?_
       refine hK10 _ ?_
       refine vc_seq fun K14 hK14 => ?_
       refine vc_region ?_
       refine vo_buildSlice E43 rfl rfl rfl rfl rfl ?_
       refine vo_stM ?_
       refine vo_move_pv rfl rfl ?_
       refine vo_append E43 rfl (by omega) rfl rfl rfl sd sd ?_
       refine vo_stM ?_
       try simp only [app_ints, app_intss, app_bools, List.nil_append, app_pairs1]
       refine vo_clean 3 rfl (scal_pairs _) ?_
       refine vo_stM ?_
       refine vo_move_pv rfl rfl ?_
       refine vo_move_pv rfl rfl ?_
       refine vo_build S85 rfl rfl rfl ?_
       refine vo_stM ?_
       refine vo_buildSlice E43 rfl rfl rfl rfl rfl ?_
       refine vo_stM ?_
       refine vo_append E43 rfl (by omega) rfl rfl rfl sd sd ?_
       refine vo_stM ?_
       try simp only [app_ints, app_intss, app_bools, List.nil_append, app_pairs1]
       refine vo_clean 3 rfl (scal_pairs _) ?_
       refine vo_stM ?_
       refine vo_assign_ref rfl rfl ?_
       refine vo_assign_pv rfl rfl ?_
       refine vo_nil ?_
       refine hK14 _ ?_
       refine vc_expose 3 (by omega) rfl ?_
       refine vc_stM ?_
       refine vc_ret ?_
       change retQ _ _ _ _ _
       refine retQ_sel [] (srows := []) (.inr rfl) hC rfl rfl rfl rfl rfl rfl rfl ?_
       first
        | (rw [regR_no (fun h => by have h9 := hasRC2.1 h; first | exact absurd h9.1 (by assumption) | omega)]; exact ⟨_, rfl, rfl⟩)
        | (rw [regR_is hR (i1.1 (by assumption))]; exact ⟨_, rfl, rfl⟩)
        | (rw [regR_bad hR (fun h => absurd (i1.2 h) (by assumption)) (by first | exact .inl (i2.1 (by assumption)) | exact .inr (by omega))]; exact ⟨_, rfl, rfl⟩)
        | (rw [regR_new hR (fun h => absurd (i1.2 h) (by assumption)) (fun h => absurd (i2.2 h) (by assumption)) (by omega)]; exact ⟨_, rfl, rfl⟩)


theorem heldRegS_sat {nl0 : Option Bool} {L : List (Int × Int)} {k : Int}  (hl : L.length < 1000000000) (hk : 0 ≤ k ∧ k < 1000000000) (hM : MkP L k L.length) : SatAt Try.prog 50 [.pv false (.sl nl0 2 (L.map pairP)), i64 k] [] (fun res rows => res = [i64 (k + 2 * L.length)] ∧ rows = []) := by
 refine sat_entry_G (rs := [(4, none)]) Try.func50 rfl rfl (Nat.le_of_ble_eq_true rfl) (Nat.le_of_ble_eq_true rfl) (resTs1 trivial) fun C hC => ?_
 rw [Try.ntmps50]
 replace hC : C.nb = 0 := hC
 refine vc_seq fun K1 hK1 => ?_
 refine vc_region ?_
 refine vo_assign_pv rfl rfl ?_
 refine vo_nil ?_
 refine hK1 _ ?_
 refine vc_seq fun K2 hK2 => ?_
 refine vc_seq fun K3 hK3 => ?_
 refine vc_region ?_
 refine vo_assign_pv rfl rfl ?_
 refine vo_nil ?_
 refine hK3 _ ?_
 refine vc_block ?_
 refine vc_stM ?_
 refine vc_loopE [0] [1, 5] [] _ _ (fun mz vs rs => ∃ (i : Nat) (y : Int), mz = L.length - i ∧ ((i ≤ L.length ∧ y = k + 2 * i)) ∧ vs = [i64 y, i64 i] ∧ rs = []) (L.length) rfl rfl (le_len hC rfl) ⟨rfl, rfl, rfl⟩ rfl ⟨0, k, rfl, (by simp), rfl, rfl⟩ ?_
 rintro mz vs rs - - ⟨i, y, rfl, hi, rfl, rfl⟩
 refine vc_stM ?_
 refine vc_seq fun K4 hK4 => ?_
 refine vc_seq fun K5 hK5 => ?_
 refine vc_region ?_
 refine vo_move_pv rfl rfl ?_
 refine vo_move_pv rfl rfl ?_
 refine vo_len_pv rfl rfl Try.underlying43 ?_
 refine vo_binI rfl rfl rfl rfl trivial ?_
 refine vo_nil ?_
 refine hK5 _ ?_
 refine vc_cond rfl (fun hc1 => ?_) (fun hc1 => ?_)
 ·try simp only [zq0, zq1, zq2, zq3, zq4, zq5, zq6, zq7, zq8, zq9, zqa, zqb, zqc, zqd, zqe, zqf] at hc1
  have hj := hM i (by omega)
  have hj1 : (L.getD i (0, 0)).1 = y := by rw [hj]; omega
  have hj2 : (L.getD i (0, 0)).2 = y + 1 := by rw [hj]; omega
  refine vc_skip ?_
  refine hK4 _ ?_
  refine vc_seq fun K6 hK6 => ?_
  refine vc_block ?_
  refine vc_seq fun K7 hK7 => ?_
  refine vc_seq fun K8 hK8 => ?_
  refine vc_region ?_
  refine vo_move_pv rfl rfl ?_
  refine vo_move_pv rfl rfl ?_
  refine vo_index_pv (.agg [(.int .i64 0), (.int .i64 0)]) rfl rfl rfl E43.und inf85 sz85 sd sd ?_
  simp only [Int.toNat_natCast, Int.toNat_zero, getD_ints, getD_intss, getD_bools, getD_bytes, PV.cells, getD_pairs]
  refine vo_fieldAddr_adr rfl rfl Try.underlying85 rfl inf3 (by rw [sz3]; decide) ?_
  refine vo_load_adr rfl rfl Try.underlying3 rfl ?_
  refine vo_move_pv rfl rfl ?_
  refine vo_binI rfl rfl rfl rfl trivial ?_
  refine vo_nil ?_
  refine hK8 _ ?_
  refine vc_cond rfl (fun hc2 => ?_) (fun hc2 => ?_)
  ·try simp only [zq0, zq1, zq2, zq3, zq4, zq5, zq6, zq7, zq8, zq9, zqa, zqb, zqc, zqd, zqe, zqf] at hc2
   refine vc_seq fun K9 hK9 => ?_
   refine vc_region ?_
   refine vo_assign_pv rfl rfl ?_
   refine vo_nil ?_
   refine hK9 _ ?_
   refine vc_ret ?_
   change retQ _ _ _ _ _
   refine retQ_sel [] (srows := []) (.inr rfl) hC rfl rfl rfl rfl rfl rfl rfl ?_
   refine ⟨?_, rfl⟩
   refine (congrArg (fun b => [i64 b]) (?_ : _ = _) : [i64 _] = [i64 _])
   exfalso; omega
  ·try simp only [zq0, zq1, zq2, zq3, zq4, zq5, zq6, zq7, zq8, zq9, zqa, zqb, zqc, zqd, zqe, zqf] at hc2
   refine vc_skip ?_
   refine hK7 _ ?_
   refine vc_seq fun K10 hK10 => ?_
   refine vc_region ?_
   refine vo_move_pv rfl rfl ?_
   refine vo_binI rfl rfl rfl rfl sd ?_
   refine vo_assign_pv rfl rfl ?_
   refine vo_nil ?_
   refine hK10 _ ?_
   refine vc_seq fun K11 hK11 => ?_
   refine vc_seq fun K12 hK12 => ?_
   refine vc_region ?_
   refine vo_move_pv rfl rfl ?_
   refine vo_move_pv rfl rfl ?_
   refine vo_index_pv (.agg [(.int .i64 0), (.int .i64 0)]) rfl rfl rfl E43.und inf85 sz85 sd sd ?_
   simp only [Int.toNat_natCast, Int.toNat_zero, getD_ints, getD_intss, getD_bools, getD_bytes, PV.cells, getD_pairs]
   refine vo_fieldAddr_adr rfl rfl Try.underlying85 rfl inf3 (by rw [sz3]; decide) ?_
   refine vo_load_adr rfl rfl Try.underlying3 rfl ?_
   refine vo_move_pv rfl rfl ?_
   refine vo_binI rfl rfl rfl rfl trivial ?_
   refine vo_nil ?_
   refine hK12 _ ?_
   refine vc_cond rfl (fun hc3 => ?_) (fun hc3 => ?_)
   ·try simp only [zq0, zq1, zq2, zq3, zq4, zq5, zq6, zq7, zq8, zq9, zqa, zqb, zqc, zqd, zqe, zqf] at hc3
    refine vc_seq fun K13 hK13 => ?_
    refine vc_region ?_
    refine vo_assign_pv rfl rfl ?_
    refine vo_nil ?_
    refine hK13 _ ?_
    refine vc_ret ?_
    change retQ _ _ _ _ _
    refine retQ_sel [] (srows := []) (.inr rfl) hC rfl rfl rfl rfl rfl rfl rfl ?_
    refine ⟨?_, rfl⟩
    refine (congrArg (fun b => [i64 b]) (?_ : _ = _) : [i64 _] = [i64 _])
    exfalso; omega
   ·try simp only [zq0, zq1, zq2, zq3, zq4, zq5, zq6, zq7, zq8, zq9, zqa, zqb, zqc, zqd, zqe, zqf] at hc3
    refine vc_skip ?_
    refine hK11 _ ?_
    refine vc_region ?_
    refine vo_move_pv rfl rfl ?_
    refine vo_binI rfl rfl rfl rfl sd ?_
    refine vo_assign_pv rfl rfl ?_
    refine vo_nil ?_
    refine hK6 _ ?_
    refine vc_region ?_
    refine vo_move_pv rfl rfl ?_
    refine vo_binI rfl rfl rfl rfl sd ?_
    refine vo_assign_pv rfl rfl ?_
    refine vo_nil ?_
    change againE _ _ _ _ _ _ _ _ _ _
    refine againE_mk rfl rfl rfl rfl rfl rfl ⟨_, ?_, i + 1, y + 1 + 1, rfl, ?_, rfl, rfl⟩
    ·omega
    ·omega
 ·try simp only [zq0, zq1, zq2, zq3, zq4, zq5, zq6, zq7, zq8, zq9, zqa, zqb, zqc, zqd, zqe, zqf] at hc1
  refine vc_exit ?_
  refine hK2 _ ?_
  refine vc_seq fun K14 hK14 => ?_
  refine vc_region ?_
  refine vo_move_pv rfl rfl ?_
  refine vo_assign_pv rfl rfl ?_
  refine vo_nil ?_
  refine hK14 _ ?_
  refine vc_ret ?_
  change retQ _ _ _ _ _
  refine retQ_sel [] (srows := []) (.inr rfl) hC rfl rfl rfl rfl rfl rfl rfl ?_
  refine ⟨?_, rfl⟩
  refine (congrArg (fun b => [i64 b]) (?_ : _ = _) : [i64 _] = [i64 _])
  omega

set_option maxHeartbeats 8000000 in
theorem FnExactRegister_sat {nl0 : Option Bool} {a : List (List Int)} {nl1 : Option Bool} {b : List (Int × Int)} {c : Int} {d : Int}  (ha : a.length ≤ 9223372036854775807 ∧ ∀ l ∈ a, (l.length ≤ 9223372036854775807 ∧ ∀ x ∈ l, i64R x)) (hb : b.length ≤ 9223372036854775807 ∧ ∀ a ∈ b, True) : SatAt Try.prog 14 [.pv false (.sl nl0 1 (a.map ints)), .pv false (.sl nl1 2 (b.map pairP)), i64 c, i64 d] [] (fun res rows => res = [bo true] ∧ rows = []) := by
 refine sat_entry_G (rs := [(8, none)]) Try.func14 rfl rfl (Nat.le_of_ble_eq_true rfl) (Nat.le_of_ble_eq_true rfl) (resTs1 trivial) fun C hC => ?_
 rw [Try.ntmps14]
 replace hC : C.nb = 0 := hC
 refine vc_seq fun K1 hK1 => ?_
 refine vc_region ?_
 refine vo_assign_pv rfl rfl ?_
 refine vo_nil ?_
 refine hK1 _ ?_
 refine vc_seq fun K2 hK2 => ?_
 refine vc_region ?_
 refine vo_assign_pv rfl rfl ?_
 refine vo_nil ?_
 refine hK2 _ ?_
 refine vc_seq fun K3 hK3 => ?_
 refine vc_region ?_
 refine vo_move_pv rfl rfl ?_
 refine vo_move_pv rfl rfl ?_
 refine vo_call0 Try.func22 rfl rfl rfl rfl (szIntSS_sat ha.1 (fun l hl => (ha.2 l hl).1) (by omega) (by omega)) ?_
 rintro _ _ ⟨v, hv, rfl, rfl⟩
 refine ⟨rfl, rfl, .inl rfl, ?_⟩
 refine vo_stM ?_
 refine vo_assign_pv rfl rfl ?_
 refine vo_nil ?_
 refine hK3 _ ?_
 refine vc_seq fun K4 hK4 => ?_
 refine vc_seq fun K5 hK5 => ?_
 refine vc_region ?_
 refine vo_move_pv rfl rfl ?_
 refine vo_binI rfl rfl rfl rfl trivial ?_
 refine vo_nil ?_
 refine hK5 _ ?_
 refine vc_cond rfl (fun hc1 => ?_) (fun hc1 => ?_)
 ·try simp only [zq0, zq1, zq2, zq3, zq4, zq5, zq6, zq7, zq8, zq9, zqa, zqb, zqc, zqd, zqe, zqf] at hc1
  refine vc_seq fun K6 hK6 => ?_
  refine vc_region ?_
  refine vo_assign_pv rfl rfl ?_
  refine vo_nil ?_
  refine hK6 _ ?_
  refine vc_ret ?_
  change retQ _ _ _ _ _
  refine retQ_sel [] (srows := []) (.inr rfl) hC rfl rfl rfl rfl rfl rfl rfl ?_
  exact ⟨rfl, rfl⟩
 ·try simp only [zq0, zq1, zq2, zq3, zq4, zq5, zq6, zq7, zq8, zq9, zqa, zqb, zqc, zqd, zqe, zqf] at hc1
  rcases hv with hv | hv
  ·omega
  obtain ⟨hv1, hv2, hv3⟩ := hv
  have hs3 : ∀ l ∈ a, l.length < 1000000000 := fun l hl => by have := hv3 l hl; omega
  have hs2 : ∀ l ∈ a, l.length ≤ 2000000 := fun l hl => by have := hv3 l hl; omega
  refine vc_skip ?_
  refine hK4 _ ?_
  refine vc_seq fun K7 hK7 => ?_
  refine vc_region ?_
  refine vo_move_pv rfl rfl ?_
  refine vo_move_pv rfl rfl ?_
  refine vo_call0 Try.func38 rfl rfl rfl rfl (szRegS_sat hb.1 (by omega)) ?_
  rintro _ _ ⟨rfl, rfl⟩
  refine ⟨rfl, rfl, .inl rfl, ?_⟩
  refine vo_stM ?_
  refine vo_assign_pv rfl rfl ?_
  refine vo_nil ?_
  refine hK7 _ ?_
  refine vc_seq fun K8 hK8 => ?_
  refine vc_seq fun K9 hK9 => ?_
  refine vc_region ?_
  refine vo_move_pv rfl rfl ?_
  refine vo_binI rfl rfl rfl rfl trivial ?_
  refine vo_nil ?_
  refine hK9 _ ?_
  refine vc_cond rfl (fun hc2 => ?_) (fun hc2 => ?_)
  ·try simp only [zq0, zq1, zq2, zq3, zq4, zq5, zq6, zq7, zq8, zq9, zqa, zqb, zqc, zqd, zqe, zqf] at hc2
   refine vc_seq fun K10 hK10 => ?_
   refine vc_region ?_
   refine vo_assign_pv rfl rfl ?_
   refine vo_nil ?_
   refine hK10 _ ?_
   refine vc_ret ?_
   change retQ _ _ _ _ _
   refine retQ_sel [] (srows := []) (.inr rfl) hC rfl rfl rfl rfl rfl rfl rfl ?_
   first | exact ⟨rfl, rfl⟩ | (exfalso; simp_all; done) | (exfalso; omega)
  ·try simp only [zq0, zq1, zq2, zq3, zq4, zq5, zq6, zq7, zq8, zq9, zqa, zqb, zqc, zqd, zqe, zqf] at hc2
   refine vc_skip ?_
   refine hK8 _ ?_
   refine vc_seq fun K11 hK11 => ?_
   refine vc_region ?_
   refine vo_move_pv rfl rfl ?_
   refine vo_call [] Try.func23 rfl rfl rfl rfl rfl rfl rfl (toIntSST_sat (by omega) hs3) ?_
   rintro _ _ ⟨rfl, rfl⟩
   refine ⟨Nat.le_of_ble_eq_true rfl, ⟨rfl, rfl, rfl, rfl⟩, .inl rfl, ?_⟩
   refine vo_stM ?_
   refine vo_move_pv rfl rfl ?_
   refine vo_call [] Try.func39 rfl rfl rfl rfl rfl rfl rfl (toRegSO_sat (by omega)) ?_
   rintro _ _ ⟨rfl, rfl⟩
   refine ⟨Nat.le_of_ble_eq_true rfl, ⟨rfl, rfl, rfl, rfl⟩, .inl rfl, ?_⟩
   refine vo_stM ?_
   refine vo_move_pv rfl rfl ?_
   refine vo_move_pv rfl rfl ?_
   refine vo_treeown 0 (by omega) rfl ?_
   refine vo_stM ?_
   refine vo_expose 0 (by omega) rfl ?_
   refine vo_stM ?_
   refine vo_weaken 33 rfl ?_
   refine vo_stM ?_
   refine vo_expose 1 (by omega) rfl ?_
   refine vo_stM ?_
   refine vo_weaken 35 rfl ?_
   refine vo_stM ?_
   refine vo_call0 Try.func48 rfl rfl rfl rfl (specRegister_sat (by omega) hs3 (by omega)) ?_
   rintro _ _ ⟨nlp, rfl, rfl⟩
   refine ⟨rfl, rfl, .inl rfl, ?_⟩
   refine vo_stM ?_
   refine vo_move rfl ?_
   refine vo_stM ?_
   refine vo_extract rfl rfl rfl ?_
   refine vo_extract rfl rfl rfl ?_
   refine vo_assign_pv rfl rfl ?_
   refine vo_assign_pv rfl rfl ?_
   refine vo_nil ?_
   refine hK11 _ ?_
   refine vc_seq fun K12 hK12 => ?_
   refine vc_region ?_
   refine vo_move_pv rfl rfl ?_
   refine vo_call [] Try.func23 rfl rfl rfl rfl rfl rfl rfl (toIntSST_sat (by omega) hs3) ?_
   rintro _ _ ⟨rfl, rfl⟩
   refine ⟨Nat.le_of_ble_eq_true rfl, ⟨rfl, rfl, rfl, rfl⟩, .inl rfl, ?_⟩
   refine vo_stM ?_
   refine vo_assign_ref rfl rfl ?_
   refine vo_nil ?_
   refine hK12 _ ?_
   refine vc_seq fun K13 hK13 => ?_
   refine vc_region ?_
   refine vo_move_pv rfl rfl ?_
   refine vo_call [] Try.func39 rfl rfl rfl rfl rfl rfl rfl (toRegSO_sat (by omega)) ?_
   rintro _ _ ⟨rfl, rfl⟩
   refine ⟨Nat.le_of_ble_eq_true rfl, ⟨rfl, rfl, rfl, rfl⟩, .inl rfl, ?_⟩
   refine vo_stM ?_
   refine vo_assign_ref rfl rfl ?_
   refine vo_nil ?_
   refine hK13 _ ?_
   refine vc_seq fun K14 hK14 => ?_
   refine vc_region ?_
   refine vo_move_ref rfl rfl ?_
   refine vo_move_ref rfl rfl ?_
   refine vo_move_pv rfl rfl ?_
   refine vo_move_pv rfl rfl ?_
   refine vo_call [] Try.func47 rfl rfl rfl rfl rfl rfl rfl (registerOwn_sat (by omega) hs3 (by omega)) ?_
   rintro _ _ ⟨nlg, rfl, rfl⟩
   refine ⟨Nat.le_of_ble_eq_true rfl, ⟨rfl, rfl, rfl, rfl⟩, .inr ⟨rfl, rfl⟩, ?_⟩
   refine vo_stM ?_
   refine vo_move rfl ?_
   refine vo_stM ?_
   refine vo_extract rfl rfl rfl ?_
   refine vo_extract rfl rfl rfl ?_
   refine vo_assign_ref rfl rfl ?_
   refine vo_assign_pv rfl rfl ?_
   refine vo_nil ?_
   refine hK14 _ ?_
   refine vc_seq fun K15 hK15 => ?_
   refine vc_seq fun K16 hK16 => ?_
   refine vc_region ?_
   refine vo_move_ref rfl rfl ?_
   refine vo_move_pv rfl rfl ?_
   refine vo_call0 Try.func40 rfl rfl rfl rfl (eqRegS_sat (a := (regR a b c d).1) (b := (regR a b c d).1) (by have := regR_len (b := a) (r := b) (s := c) (o := d); omega) (by have := regR_len (b := a) (r := b) (s := c) (o := d); omega)) ?_
   rintro _ _ ⟨rfl, rfl⟩
   refine ⟨rfl, rfl, .inr rfl, ?_⟩
   refine vo_stM ?_
   refine vo_not rfl rfl ?_
   refine vo_move_pv rfl rfl ?_
   refine vo_split 57 rfl (fun hg3 => ?_) (fun hg3 => ?_)
   ·try simp only [zq0, zq1, zq2, zq3, zq4, zq5, zq6, zq7, zq8, zq9, zqa, zqb, zqc, zqd, zqe, zqf] at hg3
    refine vo_guard_off rfl rfl rfl rfl rfl ?_
    refine vo_guard_off rfl rfl rfl rfl rfl ?_
    refine vo_guard_off rfl rfl rfl rfl rfl ?_
    refine vo_pick_t rfl rfl ?_
    refine vo_nil ?_
    refine hK16 _ ?_
    refine vc_cond_t rfl ?_
    refine vc_seq fun K17 hK17 => ?_
    refine vc_region ?_
    refine vo_assign_pv rfl rfl ?_
    refine vo_nil ?_
    refine hK17 _ ?_
    refine vc_ret ?_
    change retQ _ _ _ _ _
    refine retQ_sel [] (srows := []) (.inr rfl) hC rfl rfl rfl rfl rfl rfl rfl ?_
    first | exact ⟨rfl, rfl⟩ | (exfalso; simp_all; done) | (exfalso; omega)
   ·try simp only [zq0, zq1, zq2, zq3, zq4, zq5, zq6, zq7, zq8, zq9, zqa, zqb, zqc, zqd, zqe, zqf] at hg3
    refine vo_guard_on rfl rfl rfl ?_
    refine vo_move_pv rfl rfl ?_
    refine vo_guard_on rfl rfl rfl ?_
    refine vo_move_pv rfl rfl ?_
    refine vo_guard_on rfl rfl rfl ?_
    refine vo_binB rfl rfl rfl rfl Try.underlying4 ?_
    refine vo_pick_f rfl rfl ?_
    refine vo_nil ?_
    refine hK16 _ ?_
    refine vc_cond rfl (fun hc4 => ?_) (fun hc4 => ?_)
    ·try simp only [zq0, zq1, zq2, zq3, zq4, zq5, zq6, zq7, zq8, zq9, zqa, zqb, zqc, zqd, zqe, zqf] at hc4
     refine vc_seq fun K18 hK18 => ?_
     refine vc_region ?_
     refine vo_assign_pv rfl rfl ?_
     refine vo_nil ?_
     refine hK18 _ ?_
     refine vc_ret ?_
     change retQ _ _ _ _ _
     refine retQ_sel [] (srows := []) (.inr rfl) hC rfl rfl rfl rfl rfl rfl rfl ?_
     first | exact ⟨rfl, rfl⟩ | (exfalso; simp_all; done) | (exfalso; omega)
    ·try simp only [zq0, zq1, zq2, zq3, zq4, zq5, zq6, zq7, zq8, zq9, zqa, zqb, zqc, zqd, zqe, zqf] at hc4
     refine vc_skip ?_
     refine hK15 _ ?_
     refine vc_seq fun K19 hK19 => ?_
     refine vc_seq fun K20 hK20 => ?_
     refine vc_region ?_
     refine vo_move_ref rfl rfl ?_
     refine vo_move_pv rfl rfl ?_
     refine vo_call [] Try.func23 rfl rfl rfl rfl rfl rfl rfl (toIntSST_sat (by omega) hs3) ?_
     rintro _ _ ⟨rfl, rfl⟩
     refine ⟨Nat.le_of_ble_eq_true rfl, ⟨rfl, rfl, rfl, rfl⟩, .inl rfl, ?_⟩
     refine vo_stM ?_
     refine vo_call0 Try.func25 rfl rfl rfl rfl (eqIntSS_sat (by omega) hs3 (by omega) hs3) ?_
     rintro _ _ ⟨rfl, rfl⟩
     refine ⟨rfl, rfl, .inr rfl, ?_⟩
     refine vo_stM ?_
     refine vo_not rfl rfl ?_
     refine vo_nil ?_
     refine hK20 _ ?_
     refine vc_cond rfl (fun hc5 => ?_) (fun hc5 => ?_)
     ·try simp only [zq0, zq1, zq2, zq3, zq4, zq5, zq6, zq7, zq8, zq9, zqa, zqb, zqc, zqd, zqe, zqf] at hc5
      refine vc_seq fun K21 hK21 => ?_
      refine vc_region ?_
      refine vo_assign_pv rfl rfl ?_
      refine vo_nil ?_
      refine hK21 _ ?_
      refine vc_ret ?_
      change retQ _ _ _ _ _
      refine retQ_sel [] (srows := []) (.inr rfl) hC rfl rfl rfl rfl rfl rfl rfl ?_
      first | exact ⟨rfl, rfl⟩ | (exfalso; simp_all; done) | (exfalso; omega)
     ·try simp only [zq0, zq1, zq2, zq3, zq4, zq5, zq6, zq7, zq8, zq9, zqa, zqb, zqc, zqd, zqe, zqf] at hc5
      refine vc_skip ?_
      refine hK19 _ ?_
      refine vc_seq fun K22 hK22 => ?_
      refine vc_seq fun K23 hK23 => ?_
      refine vc_region ?_
      refine vo_move_ref rfl rfl ?_
      refine vo_move_pv rfl rfl ?_
      refine vo_call [] Try.func39 rfl rfl rfl rfl rfl rfl rfl (toRegSO_sat (by omega)) ?_
      rintro _ _ ⟨rfl, rfl⟩
      refine ⟨Nat.le_of_ble_eq_true rfl, ⟨rfl, rfl, rfl, rfl⟩, .inl rfl, ?_⟩
      refine vo_stM ?_
      refine vo_call0 Try.func40 rfl rfl rfl rfl (eqRegS_sat (a := b) (b := b) (by omega) (by omega)) ?_
      rintro _ _ ⟨rfl, rfl⟩
      refine ⟨rfl, rfl, .inr rfl, ?_⟩
      refine vo_stM ?_
      refine vo_not rfl rfl ?_
      refine vo_nil ?_
      refine hK23 _ ?_
      refine vc_cond rfl (fun hc6 => ?_) (fun hc6 => ?_)
      ·try simp only [zq0, zq1, zq2, zq3, zq4, zq5, zq6, zq7, zq8, zq9, zqa, zqb, zqc, zqd, zqe, zqf] at hc6
       refine vc_seq fun K24 hK24 => ?_
       refine vc_region ?_
       refine vo_assign_pv rfl rfl ?_
       refine vo_nil ?_
       refine hK24 _ ?_
       refine vc_ret ?_
       change retQ _ _ _ _ _
       refine retQ_sel [] (srows := []) (.inr rfl) hC rfl rfl rfl rfl rfl rfl rfl ?_
       first | exact ⟨rfl, rfl⟩ | (exfalso; simp_all; done) | (exfalso; omega)
      ·try simp only [zq0, zq1, zq2, zq3, zq4, zq5, zq6, zq7, zq8, zq9, zqa, zqb, zqc, zqd, zqe, zqf] at hc6
       refine vc_skip ?_
       refine hK22 _ ?_
       refine vc_seq fun K25 hK25 => ?_
       refine vc_region ?_
       refine vo_assign_pv rfl rfl ?_
       refine vo_nil ?_
       refine hK25 _ ?_
       refine vc_seq fun K26 hK26 => ?_
       refine vc_region ?_
       refine vo_move_ref rfl rfl ?_
       refine vo_move_pv rfl rfl ?_
       refine vo_call [2] Try.func31 rfl rfl rfl rfl rfl rfl rfl (markIntSS_sat (L := a) (by omega) hs2 (by omega)) ?_
       rintro _ _ ⟨w1, L1, ⟨hw1, hx1⟩, rfl, rfl⟩
       refine ⟨Nat.le_of_ble_eq_true rfl, ⟨rfl, rfl, rfl, rfl⟩, .inl rfl, ?_⟩
       refine vo_stM ?_
       refine vo_assign_pv rfl rfl ?_
       refine vo_nil ?_
       refine hK26 _ ?_
       refine vc_seq fun K27 hK27 => ?_
       refine vc_region ?_
       refine vo_move_ref rfl rfl ?_
       refine vo_move_pv rfl rfl ?_
       refine vo_call [3] Try.func41 rfl rfl rfl rfl rfl rfl rfl (markRegS_sat (a := b) (by omega) (by omega)) ?_
       rintro _ _ ⟨LM, ⟨hL1, hL2⟩, rfl, rfl⟩
       refine ⟨Nat.le_of_ble_eq_true rfl, ⟨rfl, rfl, rfl, rfl⟩, .inl rfl, ?_⟩
       refine vo_stM ?_
       refine vo_assign_pv rfl rfl ?_
       refine vo_nil ?_
       refine hK27 _ ?_
       refine vc_seq fun K28 hK28 => ?_
       refine vc_seq fun K29 hK29 => ?_
       refine vc_region ?_
       refine vo_move_pv rfl rfl ?_
       refine vo_binI rfl rfl rfl rfl trivial ?_
       refine vo_move_pv rfl rfl ?_
       refine vo_split 80 rfl (fun hg7 => ?_) (fun hg7 => ?_)
       ·try simp only [zq0, zq1, zq2, zq3, zq4, zq5, zq6, zq7, zq8, zq9, zqa, zqb, zqc, zqd, zqe, zqf] at hg7
        refine vo_guard_off rfl rfl rfl rfl rfl ?_
        refine vo_guard_off rfl rfl rfl rfl rfl ?_
        refine vo_guard_off rfl rfl rfl rfl rfl ?_
        refine vo_guard_off rfl rfl rfl rfl rfl ?_
        refine vo_pick_t rfl rfl ?_
        refine vo_move_pv rfl rfl ?_
        refine vo_guard_off rfl rfl rfl rfl rfl ?_
        refine vo_guard_off rfl rfl rfl rfl rfl ?_
        refine vo_guard_off rfl rfl rfl rfl rfl ?_
        refine vo_pick_t rfl rfl ?_
        refine vo_nil ?_
        refine hK29 _ ?_
        refine vc_cond_t rfl ?_
        refine vc_seq fun K30 hK30 => ?_
        refine vc_region ?_
        refine vo_assign_pv rfl rfl ?_
        refine vo_nil ?_
        refine hK30 _ ?_
        refine vc_ret ?_
        change retQ _ _ _ _ _
        refine retQ_sel [] (srows := []) (.inr rfl) hC rfl rfl rfl rfl rfl rfl rfl ?_
        first | exact ⟨rfl, rfl⟩ | (exfalso; simp_all; done) | (exfalso; omega)
       ·try simp only [zq0, zq1, zq2, zq3, zq4, zq5, zq6, zq7, zq8, zq9, zqa, zqb, zqc, zqd, zqe, zqf] at hg7
        refine vo_guard_on rfl rfl rfl ?_
        refine vo_move_ref rfl rfl ?_
        refine vo_guard_on rfl rfl rfl ?_
        refine vo_move_pv rfl rfl ?_
        refine vo_guard_on rfl rfl rfl ?_
        refine vo_call0 Try.func40 rfl rfl rfl rfl (eqRegS_sat (a := (regR a b c d).1) (b := (regR a b c d).1) (by have := regR_len (b := a) (r := b) (s := c) (o := d); omega) (by have := regR_len (b := a) (r := b) (s := c) (o := d); omega)) ?_
        rintro _ _ ⟨rfl, rfl⟩
        refine ⟨rfl, rfl, .inr rfl, ?_⟩
        refine vo_stM ?_
        refine vo_guard_on rfl rfl rfl ?_
        refine vo_not rfl rfl ?_
        refine vo_pick_f rfl rfl ?_
        refine vo_move_pv rfl rfl ?_
        refine vo_split 86 rfl (fun hg8 => ?_) (fun hg8 => ?_)
        ·try simp only [zq0, zq1, zq2, zq3, zq4, zq5, zq6, zq7, zq8, zq9, zqa, zqb, zqc, zqd, zqe, zqf] at hg8
         refine vo_guard_off rfl rfl rfl rfl rfl ?_
         refine vo_guard_off rfl rfl rfl rfl rfl ?_
         refine vo_guard_off rfl rfl rfl rfl rfl ?_
         refine vo_pick_t rfl rfl ?_
         refine vo_nil ?_
         refine hK29 _ ?_
         refine vc_cond_t rfl ?_
         refine vc_seq fun K31 hK31 => ?_
         refine vc_region ?_
         refine vo_assign_pv rfl rfl ?_
         refine vo_nil ?_
         refine hK31 _ ?_
         refine vc_ret ?_
         change retQ _ _ _ _ _
         refine retQ_sel [] (srows := []) (.inr rfl) hC rfl rfl rfl rfl rfl rfl rfl ?_
         first | exact ⟨rfl, rfl⟩ | (exfalso; simp_all; done) | (exfalso; omega)
        ·try simp only [zq0, zq1, zq2, zq3, zq4, zq5, zq6, zq7, zq8, zq9, zqa, zqb, zqc, zqd, zqe, zqf] at hg8
         refine vo_guard_on rfl rfl rfl ?_
         refine vo_move_pv rfl rfl ?_
         refine vo_guard_on rfl rfl rfl ?_
         refine vo_move_pv rfl rfl ?_
         refine vo_guard_on rfl rfl rfl ?_
         refine vo_binB rfl rfl rfl rfl Try.underlying4 ?_
         refine vo_pick_f rfl rfl ?_
         refine vo_nil ?_
         refine hK29 _ ?_
         refine vc_cond rfl (fun hc9 => ?_) (fun hc9 => ?_)
         ·try simp only [zq0, zq1, zq2, zq3, zq4, zq5, zq6, zq7, zq8, zq9, zqa, zqb, zqc, zqd, zqe, zqf] at hc9
          refine vc_seq fun K32 hK32 => ?_
          refine vc_region ?_
          refine vo_assign_pv rfl rfl ?_
          refine vo_nil ?_
          refine hK32 _ ?_
          refine vc_ret ?_
          change retQ _ _ _ _ _
          refine retQ_sel [] (srows := []) (.inr rfl) hC rfl rfl rfl rfl rfl rfl rfl ?_
          first | exact ⟨rfl, rfl⟩ | (exfalso; simp_all; done) | (exfalso; omega)
         ·try simp only [zq0, zq1, zq2, zq3, zq4, zq5, zq6, zq7, zq8, zq9, zqa, zqb, zqc, zqd, zqe, zqf] at hc9
          refine vc_skip ?_
          refine hK28 _ ?_
          refine vc_seq fun K33 hK33 => ?_
          refine vc_region ?_
          refine vo_assign_pv rfl rfl ?_
          refine vo_nil ?_
          refine hK33 _ ?_
          refine vc_seq fun K34 hK34 => ?_
          refine vc_region ?_
          refine vo_move_ref rfl rfl ?_
          refine vo_move_pv rfl rfl ?_
          refine vo_call [4] Try.func41 rfl rfl rfl rfl rfl rfl rfl (markRegS_sat (a := (regR a b c d).1) (by have := regR_len (b := a) (r := b) (s := c) (o := d); omega) (by omega)) ?_
          rintro _ _ ⟨LN, ⟨hN1, hN2⟩, rfl, rfl⟩
          refine ⟨Nat.le_of_ble_eq_true rfl, ⟨rfl, rfl, rfl, rfl⟩, .inl rfl, ?_⟩
          refine vo_stM ?_
          refine vo_assign_pv rfl rfl ?_
          refine vo_nil ?_
          refine hK34 _ ?_
          refine vc_seq fun K35 hK35 => ?_
          refine vc_region ?_
          refine vo_assign_pv rfl rfl ?_
          refine vo_nil ?_
          refine hK35 _ ?_
          refine vc_seq fun K36 hK36 => ?_
          refine vc_region ?_
          refine vo_move_ref rfl rfl ?_
          refine vo_move_pv rfl rfl ?_
          refine vo_call0 Try.func50 rfl rfl rfl rfl (heldRegS_sat (L := LN) (k := 1) (by have := regR_len (b := a) (r := b) (s := c) (o := d); omega) (by omega) hN2) ?_
          rintro _ _ ⟨rfl, rfl⟩
          refine ⟨rfl, rfl, .inr rfl, ?_⟩
          refine vo_stM ?_
          refine vo_assign_pv rfl rfl ?_
          refine vo_nil ?_
          refine hK36 _ ?_
          refine vc_seq fun K37 hK37 => ?_
          refine vc_seq fun K38 hK38 => ?_
          refine vc_region ?_
          refine vo_move_pv rfl rfl ?_
          refine vo_binI rfl rfl rfl rfl trivial ?_
          refine vo_nil ?_
          refine hK38 _ ?_
          refine vc_cond rfl (fun hc10 => ?_) (fun hc10 => ?_)
          ·try simp only [zq0, zq1, zq2, zq3, zq4, zq5, zq6, zq7, zq8, zq9, zqa, zqb, zqc, zqd, zqe, zqf] at hc10
           refine vc_seq fun K39 hK39 => ?_
           refine vc_region ?_
           refine vo_assign_pv rfl rfl ?_
           refine vo_nil ?_
           refine hK39 _ ?_
           refine vc_ret ?_
           change retQ _ _ _ _ _
           refine retQ_sel [] (srows := []) (.inr rfl) hC rfl rfl rfl rfl rfl rfl rfl ?_
           first | exact ⟨rfl, rfl⟩ | (exfalso; simp_all; done) | (exfalso; omega)
          ·try simp only [zq0, zq1, zq2, zq3, zq4, zq5, zq6, zq7, zq8, zq9, zqa, zqb, zqc, zqd, zqe, zqf] at hc10
           refine vc_skip ?_
           refine hK37 _ ?_
           refine vc_seq fun K40 hK40 => ?_
           refine vc_seq fun K41 hK41 => ?_
           refine vc_region ?_
           refine vo_move_pv rfl rfl ?_
           refine vo_move_pv rfl rfl ?_
           refine vo_binI rfl rfl rfl rfl trivial ?_
           refine vo_nil ?_
           refine hK41 _ ?_
           refine vc_cond rfl (fun hc11 => ?_) (fun hc11 => ?_)
           ·try simp only [zq0, zq1, zq2, zq3, zq4, zq5, zq6, zq7, zq8, zq9, zqa, zqb, zqc, zqd, zqe, zqf] at hc11
            refine vc_seq fun K42 hK42 => ?_
            refine vc_region ?_
            refine vo_assign_pv rfl rfl ?_
            refine vo_nil ?_
            refine hK42 _ ?_
            refine vc_ret ?_
            change retQ _ _ _ _ _
            refine retQ_sel [] (srows := []) (.inr rfl) hC rfl rfl rfl rfl rfl rfl rfl ?_
            first | exact ⟨rfl, rfl⟩ | (exfalso; simp_all; done) | (exfalso; omega)
           ·try simp only [zq0, zq1, zq2, zq3, zq4, zq5, zq6, zq7, zq8, zq9, zqa, zqb, zqc, zqd, zqe, zqf] at hc11
            refine vc_skip ?_
            refine hK40 _ ?_
            refine vc_seq fun K43 hK43 => ?_
            refine vc_region ?_
            refine vo_move_pv rfl rfl ?_
            refine vo_call [] Try.func23 rfl rfl rfl rfl rfl rfl rfl (toIntSST_sat (by omega) hs3) ?_
            rintro _ _ ⟨rfl, rfl⟩
            refine ⟨Nat.le_of_ble_eq_true rfl, ⟨rfl, rfl, rfl, rfl⟩, .inl rfl, ?_⟩
            refine vo_stM ?_
            refine vo_move_pv rfl rfl ?_
            refine vo_call [] Try.func39 rfl rfl rfl rfl rfl rfl rfl (toRegSO_sat (by omega)) ?_
            rintro _ _ ⟨rfl, rfl⟩
            refine ⟨Nat.le_of_ble_eq_true rfl, ⟨rfl, rfl, rfl, rfl⟩, .inl rfl, ?_⟩
            refine vo_stM ?_
            refine vo_move_pv rfl rfl ?_
            refine vo_move_pv rfl rfl ?_
            refine vo_call [] Try.func47 rfl rfl rfl rfl rfl rfl rfl (registerOwn_sat (by omega) hs3 (by omega)) ?_
            rintro _ _ ⟨nlg, rfl, rfl⟩
            refine ⟨Nat.le_of_ble_eq_true rfl, ⟨rfl, rfl, rfl, rfl⟩, .inr ⟨rfl, rfl⟩, ?_⟩
            refine vo_stM ?_
            refine vo_move rfl ?_
            refine vo_stM ?_
            refine vo_extract rfl rfl rfl ?_
            refine vo_extract rfl rfl rfl ?_
            refine vo_assign_ref rfl rfl ?_
            refine vo_assign_pv rfl rfl ?_
            refine vo_nil ?_
            refine hK43 _ ?_
            refine vc_seq fun K44 hK44 => ?_
            refine vc_seq fun K45 hK45 => ?_
            refine vc_region ?_
            refine vo_move_ref rfl rfl ?_
            refine vo_move_pv rfl rfl ?_
            refine vo_call0 Try.func40 rfl rfl rfl rfl (eqRegS_sat (a := (regR a b c d).1) (b := (regR a b c d).1) (by have := regR_len (b := a) (r := b) (s := c) (o := d); omega) (by have := regR_len (b := a) (r := b) (s := c) (o := d); omega)) ?_
            rintro _ _ ⟨rfl, rfl⟩
            refine ⟨rfl, rfl, .inr rfl, ?_⟩
            refine vo_stM ?_
            refine vo_not rfl rfl ?_
            refine vo_move_pv rfl rfl ?_
            refine vo_split 116 rfl (fun hg12 => ?_) (fun hg12 => ?_)
            ·try simp only [zq0, zq1, zq2, zq3, zq4, zq5, zq6, zq7, zq8, zq9, zqa, zqb, zqc, zqd, zqe, zqf] at hg12
             refine vo_guard_off rfl rfl rfl rfl rfl ?_
             refine vo_guard_off rfl rfl rfl rfl rfl ?_
             refine vo_guard_off rfl rfl rfl rfl rfl ?_
             refine vo_pick_t rfl rfl ?_
             refine vo_nil ?_
             refine hK45 _ ?_
             refine vc_cond_t rfl ?_
             refine vc_seq fun K46 hK46 => ?_
             refine vc_region ?_
             refine vo_assign_pv rfl rfl ?_
             refine vo_nil ?_
             refine hK46 _ ?_
             refine vc_ret ?_
             change retQ _ _ _ _ _
             refine retQ_sel [] (srows := []) (.inr rfl) hC rfl rfl rfl rfl rfl rfl rfl ?_
             first | exact ⟨rfl, rfl⟩ | (exfalso; simp_all; done) | (exfalso; omega)
            ·try simp only [zq0, zq1, zq2, zq3, zq4, zq5, zq6, zq7, zq8, zq9, zqa, zqb, zqc, zqd, zqe, zqf] at hg12
             refine vo_guard_on rfl rfl rfl ?_
             refine vo_move_pv rfl rfl ?_
             refine vo_guard_on rfl rfl rfl ?_
             refine vo_move_pv rfl rfl ?_
             refine vo_guard_on rfl rfl rfl ?_
             refine vo_binB rfl rfl rfl rfl Try.underlying4 ?_
             refine vo_pick_f rfl rfl ?_
             refine vo_nil ?_
             refine hK45 _ ?_
             refine vc_cond rfl (fun hc13 => ?_) (fun hc13 => ?_)
             ·try simp only [zq0, zq1, zq2, zq3, zq4, zq5, zq6, zq7, zq8, zq9, zqa, zqb, zqc, zqd, zqe, zqf] at hc13
              refine vc_seq fun K47 hK47 => ?_
              refine vc_region ?_
              refine vo_assign_pv rfl rfl ?_
              refine vo_nil ?_
              refine hK47 _ ?_
              refine vc_ret ?_
              change retQ _ _ _ _ _
              refine retQ_sel [] (srows := []) (.inr rfl) hC rfl rfl rfl rfl rfl rfl rfl ?_
              first | exact ⟨rfl, rfl⟩ | (exfalso; simp_all; done) | (exfalso; omega)
             ·try simp only [zq0, zq1, zq2, zq3, zq4, zq5, zq6, zq7, zq8, zq9, zqa, zqb, zqc, zqd, zqe, zqf] at hc13
              refine vc_skip ?_
              refine hK44 _ ?_
              refine vc_seq fun K48 hK48 => ?_
              refine vc_region ?_
              refine vo_assign_pv rfl rfl ?_
              refine vo_nil ?_
              refine hK48 _ ?_
              refine vc_seq fun K49 hK49 => ?_
              refine vc_region ?_
              refine vo_move_ref rfl rfl ?_
              refine vo_move_pv rfl rfl ?_
              refine vo_call0 Try.func50 rfl rfl rfl rfl (heldRegS_sat (L := LN) (k := 1) (by have := regR_len (b := a) (r := b) (s := c) (o := d); omega) (by omega) hN2) ?_
              rintro _ _ ⟨rfl, rfl⟩
              refine ⟨rfl, rfl, .inr rfl, ?_⟩
              refine vo_stM ?_
              refine vo_assign_pv rfl rfl ?_
              refine vo_nil ?_
              refine hK49 _ ?_
              refine vc_seq fun K50 hK50 => ?_
              refine vc_seq fun K51 hK51 => ?_
              refine vc_region ?_
              refine vo_move_pv rfl rfl ?_
              refine vo_binI rfl rfl rfl rfl trivial ?_
              refine vo_nil ?_
              refine hK51 _ ?_
              refine vc_cond rfl (fun hc14 => ?_) (fun hc14 => ?_)
              ·try simp only [zq0, zq1, zq2, zq3, zq4, zq5, zq6, zq7, zq8, zq9, zqa, zqb, zqc, zqd, zqe, zqf] at hc14
               refine vc_seq fun K52 hK52 => ?_
               refine vc_region ?_
               refine vo_assign_pv rfl rfl ?_
               refine vo_nil ?_
               refine hK52 _ ?_
               refine vc_ret ?_
               change retQ _ _ _ _ _
               refine retQ_sel [] (srows := []) (.inr rfl) hC rfl rfl rfl rfl rfl rfl rfl ?_
               first | exact ⟨rfl, rfl⟩ | (exfalso; simp_all; done) | (exfalso; omega)
              ·try simp only [zq0, zq1, zq2, zq3, zq4, zq5, zq6, zq7, zq8, zq9, zqa, zqb, zqc, zqd, zqe, zqf] at hc14
               refine vc_skip ?_
               refine hK50 _ ?_
               refine vc_seq fun K53 hK53 => ?_
               refine vc_seq fun K54 hK54 => ?_
               refine vc_region ?_
               refine vo_move_pv rfl rfl ?_
               refine vo_move_pv rfl rfl ?_
               refine vo_binI rfl rfl rfl rfl trivial ?_
               refine vo_nil ?_
               refine hK54 _ ?_
               refine vc_cond rfl (fun hc15 => ?_) (fun hc15 => ?_)
               ·try simp only [zq0, zq1, zq2, zq3, zq4, zq5, zq6, zq7, zq8, zq9, zqa, zqb, zqc, zqd, zqe, zqf] at hc15
                refine vc_seq fun K55 hK55 => ?_
                refine vc_region ?_
                refine vo_assign_pv rfl rfl ?_
                refine vo_nil ?_
                refine hK55 _ ?_
                refine vc_ret ?_
                change retQ _ _ _ _ _
                refine retQ_sel [] (srows := []) (.inr rfl) hC rfl rfl rfl rfl rfl rfl rfl ?_
                first | exact ⟨rfl, rfl⟩ | (exfalso; simp_all; done) | (exfalso; omega)
               ·try simp only [zq0, zq1, zq2, zq3, zq4, zq5, zq6, zq7, zq8, zq9, zqa, zqb, zqc, zqd, zqe, zqf] at hc15
                refine vc_skip ?_
                refine hK53 _ ?_
                refine vc_seq fun K56 hK56 => ?_
                refine vc_region ?_
                refine vo_assign_pv rfl rfl ?_
                refine vo_nil ?_
                refine hK56 _ ?_
                refine vc_ret ?_
                change retQ _ _ _ _ _
                refine retQ_sel [] (srows := []) (.inr rfl) hC rfl rfl rfl rfl rfl rfl rfl ?_
                first | exact ⟨rfl, rfl⟩ | (exfalso; simp_all; done) | (exfalso; omega)

end Go.Vl

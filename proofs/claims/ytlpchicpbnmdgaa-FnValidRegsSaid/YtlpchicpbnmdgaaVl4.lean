/- Part 4 of the texts that the proof of FnValidRegs is built on. -/
import Derived.Test.YtlpchicpbnmdgaaVl3
namespace Go.Vl
set_option linter.unusedVariables false
set_option linter.unusedSimpArgs false
open Go.Proofs

def okReg (n : Nat) (p : Int × Int) : Prop := (0 ≤ p.1 ∧ p.1 ≤ (n : Int) - 1) ∧ 0 ≤ p.2 ∧ p.2 ≤ (n : Int) - 1
def VRegs (b : List (List Int)) (r : List (Int × Int)) : Prop := VB b ∧ r.length ≤ 8 ∧ ∀ p ∈ r, okReg b.length p
instance (n : Nat) (p : Int × Int) : Decidable (okReg n p) := by unfold okReg; infer_instance
instance (b : List (List Int)) (r : List (Int × Int)) : Decidable (VRegs b r) := by unfold VRegs; infer_instance
theorem okReg_succ {n : Nat} {r : List (Int × Int)} {k : Nat} (hk : k < r.length) (h : ∀ p ∈ r.take k, okReg n p) (h2 : okReg n (r.getD k (0, 0))) : ∀ p ∈ r.take (k + 1), okReg n p := by
  intro p hp
  rw [List.take_add_one, List.getElem?_eq_getElem hk] at hp
  rcases List.mem_append.1 hp with h9 | h9
  · exact h p h9
  · simp only [Option.toList_some, List.mem_singleton] at h9
    rw [List.getD, List.getElem?_eq_getElem hk] at h2
    rw [h9]; exact h2
theorem okReg_at {n : Nat} {r : List (Int × Int)} {k : Nat} (hk : k < r.length) (h : ∀ p ∈ r, okReg n p) : okReg n (r.getD k (0, 0)) := h _ (getD_mem hk (0, 0))
theorem vregs_sub {b : List (List Int)} {r s : List (Int × Int)} (h : VRegs b r) (hl : s.length ≤ r.length) (hs : ∀ p ∈ s, p ∈ r) : VRegs b s := ⟨h.1, Nat.le_trans hl h.2.1, fun p hp => h.2.2 p (hs p hp)⟩
theorem upto2 {a b m : Int} : (∀ x ∈ [a, b], 0 ≤ x ∧ x ≤ m) ↔ (0 ≤ a ∧ a ≤ m) ∧ 0 ≤ b ∧ b ≤ m := by simp

theorem implValidRegs_sat {nl0 : Option Bool} {bases : List (List Int)} {nl1 : Option Bool} {regs : List (Int × Int)} (hbases : bases.length < 1000000000) (hlbases : ∀ l ∈ bases, l.length < 1000000000) (hregs : regs.length < 1000000000)  : SatAt Try.prog 41 [.pv false (.sl nl0 1 (bases.map ints)), .pv false (.sl nl1 2 (regs.map pairP))] [] (fun res rows => res = [bo (decide (VRegs bases regs))] ∧ rows = []) := by
  refine sat_entry_G (rs := [(4, none)]) Try.func41 rfl rfl (Nat.le_of_ble_eq_true rfl) (Nat.le_of_ble_eq_true rfl) (resTs1 trivial) fun C hC => ?_
  rw [Try.ntmps41]
  replace hC : C.nb = 0 := hC
  refine vc_seq fun K1 hK1 => ?_
  refine vc_region ?_
  refine vo_assign_pv rfl rfl ?_
  refine vo_nil ?_
  refine hK1 _ ?_
  refine vc_seq fun K2 hK2 => ?_
  refine vc_seq fun K3 hK3 => ?_
  refine vc_region ?_
  refine vo_move_pv rfl rfl ?_
  refine vo_call0 Try.func77 rfl rfl rfl rfl (implValidBases_sat hbases hlbases) ?_
  rintro _ _ ⟨rfl, rfl⟩
  refine ⟨rfl, rfl, .inl rfl, ?_⟩
  refine vo_stM ?_
  refine vo_not rfl rfl ?_
  refine vo_move_pv rfl rfl ?_
  refine vo_split 10 rfl (fun hg1 => ?_) (fun hg1 => ?_)
  · try simp only [zq0, zq1, zq2, zq3, zq4, zq5, zq6, zq7, zq8, zq9, zqa, zqb, zqc, zqd, zqe, zqf] at hg1
    refine vo_guard_off rfl rfl rfl rfl rfl ?_
    refine vo_guard_off rfl rfl rfl rfl rfl ?_
    refine vo_guard_off rfl rfl rfl rfl rfl ?_
    refine vo_pick_t rfl rfl ?_
    refine vo_nil ?_
    refine hK3 _ ?_
    refine vc_cond_t rfl ?_
    refine vc_seq fun K4 hK4 => ?_
    refine vc_region ?_
    refine vo_assign_pv rfl rfl ?_
    refine vo_nil ?_
    refine hK4 _ ?_
    refine vc_ret ?_
    change retQ _ _ _ _ _
    refine retQ_sel [] (srows := []) (.inr rfl) hC rfl rfl rfl rfl rfl rfl rfl ?_
    refine ⟨?_, rfl⟩
    refine (congrArg (fun b => [bo b]) (?_ : _ = _) : [bo _] = [bo _])
    first
      | (refine bF fun h0 => ?_
         have h1 := h0.2.1
         first
           | omega
           | exact absurd h0.1 (by assumption)
           | (have h2 := okReg_at (show k < regs.length by omega) h0.2.2
              unfold okReg at h2
              first | omega | exact absurd h2 (by assumption) | exact absurd (upto2.2 h2) (by assumption) | (simp_all; done) | (simp_all; omega)))
      | (rw [take_all (by omega)] at hf; exact bT ⟨by assumption, by omega, hf⟩)
      | (refine bF fun h0 => ?_; exact absurd h0.1 (by assumption))
      | (rw [take_all (by omega)] at hf
         have hml : (regs.map pairP).length = regs.length := List.length_map ..
         refine decide_eq_decide.2 ⟨fun h => ?_, fun h => ?_⟩
         · exact ⟨by assumption, by omega, hf⟩
         · have h8 := h.2.1
           omega)
  · try simp only [zq0, zq1, zq2, zq3, zq4, zq5, zq6, zq7, zq8, zq9, zqa, zqb, zqc, zqd, zqe, zqf] at hg1
    refine vo_guard_on rfl rfl rfl ?_
    refine vo_move_pv rfl rfl ?_
    refine vo_guard_on rfl rfl rfl ?_
    refine vo_len_pv rfl rfl Try.underlying47 ?_
    refine vo_guard_on rfl rfl rfl ?_
    refine vo_binI rfl rfl rfl rfl trivial ?_
    refine vo_pick_f rfl rfl ?_
    refine vo_nil ?_
    refine hK3 _ ?_
    refine vc_cond rfl (fun hc2 => ?_) (fun hc2 => ?_)
    · try simp only [zq0, zq1, zq2, zq3, zq4, zq5, zq6, zq7, zq8, zq9, zqa, zqb, zqc, zqd, zqe, zqf] at hc2
      refine vc_seq fun K5 hK5 => ?_
      refine vc_region ?_
      refine vo_assign_pv rfl rfl ?_
      refine vo_nil ?_
      refine hK5 _ ?_
      refine vc_ret ?_
      change retQ _ _ _ _ _
      refine retQ_sel [] (srows := []) (.inr rfl) hC rfl rfl rfl rfl rfl rfl rfl ?_
      refine ⟨?_, rfl⟩
      refine (congrArg (fun b => [bo b]) (?_ : _ = _) : [bo _] = [bo _])
      first
        | (refine bF fun h0 => ?_
           have h1 := h0.2.1
           first
             | omega
             | exact absurd h0.1 (by assumption)
             | (have h2 := okReg_at (show k < regs.length by omega) h0.2.2
                unfold okReg at h2
                first | omega | exact absurd h2 (by assumption) | exact absurd (upto2.2 h2) (by assumption) | (simp_all; done) | (simp_all; omega)))
        | (rw [take_all (by omega)] at hf; exact bT ⟨by assumption, by omega, hf⟩)
        | (refine bF fun h0 => ?_; exact absurd h0.1 (by assumption))
        | (rw [take_all (by omega)] at hf
           have hml : (regs.map pairP).length = regs.length := List.length_map ..
           refine decide_eq_decide.2 ⟨fun h => ?_, fun h => ?_⟩
           · exact ⟨by assumption, by omega, hf⟩
           · have h8 := h.2.1
             omega)
    · try simp only [zq0, zq1, zq2, zq3, zq4, zq5, zq6, zq7, zq8, zq9, zqa, zqb, zqc, zqd, zqe, zqf] at hc2
      refine vc_skip ?_
      refine hK2 _ ?_
      refine vc_seq fun K6 hK6 => ?_
      refine vc_seq fun K7 hK7 => ?_
      refine vc_region ?_
      refine vo_move_pv rfl rfl ?_
      refine vo_len_pv rfl rfl Try.underlying47 ?_
      refine vo_move_pv rfl rfl ?_
      refine vo_nil ?_
      refine hK7 _ ?_
      refine vc_block ?_
      refine vc_stM ?_
      refine vc_loopE [0, 15, 16] [17] [] _ _ (fun mz vs rs => ∃ (k : Nat), mz = regs.length - k ∧ (k ≤ regs.length) ∧ (∀ p ∈ regs.take k, okReg bases.length p) ∧ vs = [i64 k] ∧ rs = []) (regs.length) rfl rfl (le_len hC rfl) ⟨rfl, rfl, rfl⟩ rfl ⟨0, rfl, Nat.zero_le _, (by simp), rfl, rfl⟩ ?_
      rintro mz vs rs - - ⟨k, rfl, hk, hf, rfl, rfl⟩
      refine vc_stM ?_
      refine vc_seq fun K8 hK8 => ?_
      refine vc_region ?_
      refine vo_binI rfl rfl rfl rfl trivial ?_
      refine vo_nil ?_
      refine hK8 _ ?_
      refine vc_seq fun K9 hK9 => ?_
      refine vc_cond rfl (fun hc3 => ?_) (fun hc3 => ?_)
      · try simp only [zq0, zq1, zq2, zq3, zq4, zq5, zq6, zq7, zq8, zq9, zqa, zqb, zqc, zqd, zqe, zqf] at hc3
        refine vc_skip ?_
        refine hK9 _ ?_
        refine vc_seq fun K10 hK10 => ?_
        refine vc_block ?_
        refine vc_seq fun K11 hK11 => ?_
        refine vc_region ?_
        refine vo_index_pv (.agg [(.int .i64 0), (.int .i64 0)]) rfl rfl rfl E47.und inf92 sz92 sd sd ?_
        simp only [Int.toNat_natCast, Int.toNat_zero, getD_ints, getD_intss, getD_bools, getD_bytes, PV.cells, getD_ops, getD_pairs, getD_insts, getD_attrs, getD_attrss, getD_objs, getD_ordP]
        refine vo_load_adrS rfl rfl Try.underlying92 rfl inf92 sz92 rfl ?_
        refine vo_st (by (try simp only [St.put, PV.cells, PV.scal, List.drop_succ_cons, List.drop_zero, List.take_succ_cons, List.take_zero, List.map_cons, List.map_nil, Bool.or_true, Bool.or_false, Bool.false_or, Bool.true_or, opP, pairP, instP, heapP]); exact eq_refl _) ?_
        refine vo_alloc Z92 rfl ?_
        refine vo_stM ?_
        refine vo_store_varS rfl rfl rfl inf92 sz92 rfl ?_
        refine vo_stM ?_
        refine vo_nil ?_
        refine hK11 _ ?_
        refine vc_seq fun K12 hK12 => ?_
        refine vc_region ?_
        refine vo_fieldAddr_ptr rfl rfl Try.underlying92 rfl inf3 (by rw [sz3]; decide) ?_
        try simp only [Nat.zero_add]
        refine vo_load_var rfl rfl rfl Try.underlying3 rfl rfl ?_
        refine vo_fieldAddr_ptr rfl rfl Try.underlying92 rfl inf3 (by rw [sz3]; decide) ?_
        try simp only [Nat.zero_add]
        refine vo_load_var rfl rfl rfl Try.underlying3 rfl rfl ?_
        refine vo_buildSlice E28 rfl rfl rfl rfl rfl ?_
        refine vo_stM ?_
        refine vo_move_pv rfl rfl ?_
        refine vo_len_pv rfl rfl Try.underlying23 ?_
        refine vo_binI rfl rfl rfl rfl sd ?_
        refine vo_expose 1 (by omega) rfl ?_
        refine vo_stM ?_
        refine vo_weaken 25 rfl ?_
        refine vo_stM ?_
        refine vo_call0 Try.func78 rfl rfl rfl rfl (areUpTo_sat (list := [(regs.getD k (0, 0)).1, (regs.getD k (0, 0)).2]) (by simp)) ?_
        rintro _ _ ⟨rfl, rfl⟩
        refine ⟨rfl, rfl, .inl rfl, ?_⟩
        refine vo_stM ?_
        refine vo_not rfl rfl ?_
        refine vo_nil ?_
        refine hK12 _ ?_
        refine vc_cond rfl (fun hc4 => ?_) (fun hc4 => ?_)
        · try simp only [zq0, zq1, zq2, zq3, zq4, zq5, zq6, zq7, zq8, zq9, zqa, zqb, zqc, zqd, zqe, zqf] at hc4
          refine vc_seq fun K13 hK13 => ?_
          refine vc_region ?_
          refine vo_assign_pv rfl rfl ?_
          refine vo_nil ?_
          refine hK13 _ ?_
          refine vc_ret ?_
          change retQ _ _ _ _ _
          refine retQ_sel [] (srows := []) (.inr rfl) hC rfl rfl rfl rfl rfl rfl rfl ?_
          refine ⟨?_, rfl⟩
          refine (congrArg (fun b => [bo b]) (?_ : _ = _) : [bo _] = [bo _])
          first
            | (refine bF fun h0 => ?_
               have h1 := h0.2.1
               first
                 | omega
                 | exact absurd h0.1 (by assumption)
                 | (have h2 := okReg_at (show k < regs.length by omega) h0.2.2
                    unfold okReg at h2
                    first | omega | exact absurd h2 (by assumption) | exact absurd (upto2.2 h2) (by assumption) | (simp_all; done) | (simp_all; omega)))
            | (rw [take_all (by omega)] at hf; exact bT ⟨by assumption, by omega, hf⟩)
            | (refine bF fun h0 => ?_; exact absurd h0.1 (by assumption))
            | (rw [take_all (by omega)] at hf
               have hml : (regs.map pairP).length = regs.length := List.length_map ..
               refine decide_eq_decide.2 ⟨fun h => ?_, fun h => ?_⟩
               · exact ⟨by assumption, by omega, hf⟩
               · have h8 := h.2.1
                 omega)
        · try simp only [zq0, zq1, zq2, zq3, zq4, zq5, zq6, zq7, zq8, zq9, zqa, zqb, zqc, zqd, zqe, zqf] at hc4
          refine vc_skip ?_
          refine hK10 _ ?_
          refine vc_region ?_
          refine vo_binI rfl rfl rfl rfl sd ?_
          refine vo_move_pv rfl rfl ?_
          refine vo_nil ?_
          change againE _ _ _ _ _ _ _ _ _ _
          refine againE_mk rfl rfl rfl rfl rfl rfl ⟨_, ?_, k + 1, rfl, ?_, ?_, rfl, rfl⟩
          · omega
          · omega
          · exact okReg_succ (by omega) hf (by unfold okReg; first | assumption | exact upto2.1 (by assumption) | (constructor <;> (constructor <;> omega)))
      · try simp only [zq0, zq1, zq2, zq3, zq4, zq5, zq6, zq7, zq8, zq9, zqa, zqb, zqc, zqd, zqe, zqf] at hc3
        refine vc_exit ?_
        refine hK6 _ ?_
        refine vc_seq fun K14 hK14 => ?_
        refine vc_region ?_
        refine vo_assign_pv rfl rfl ?_
        refine vo_nil ?_
        refine hK14 _ ?_
        refine vc_ret ?_
        change retQ _ _ _ _ _
        refine retQ_sel [] (srows := []) (.inr rfl) hC rfl rfl rfl rfl rfl rfl rfl ?_
        refine ⟨?_, rfl⟩
        refine (congrArg (fun b => [bo b]) (?_ : _ = _) : [bo _] = [bo _])
        first
          | (refine bF fun h0 => ?_
             have h1 := h0.2.1
             first
               | omega
               | exact absurd h0.1 (by assumption)
               | (have h2 := okReg_at (show k < regs.length by omega) h0.2.2
                  unfold okReg at h2
                  first | omega | exact absurd h2 (by assumption) | exact absurd (upto2.2 h2) (by assumption) | (simp_all; done) | (simp_all; omega)))
          | (rw [take_all (by omega)] at hf; exact bT ⟨by assumption, by omega, hf⟩)
          | (refine bF fun h0 => ?_; exact absurd h0.1 (by assumption))
          | (rw [take_all (by omega)] at hf
             have hml : (regs.map pairP).length = regs.length := List.length_map ..
             refine decide_eq_decide.2 ⟨fun h => ?_, fun h => ?_⟩
             · exact ⟨by assumption, by omega, hf⟩
             · have h8 := h.2.1
               omega)


theorem specValidRegs0_sat {nl0 : Option Bool} {bases : List (List Int)} {nl1 : Option Bool} {regs : List (Int × Int)} (hbases : bases.length < 1000000000) (hlbases : ∀ l ∈ bases, l.length < 1000000000) (hregs : regs.length < 1000000000)  : SatAt Try.prog 79 [.pv false (.sl nl0 1 (bases.map ints)), .pv false (.sl nl1 2 (regs.map pairP))] [] (fun res rows => res = [bo (decide (VRegs bases regs))] ∧ rows = []) := by
  refine sat_entry_G (rs := [(4, none)]) Try.func79 rfl rfl (Nat.le_of_ble_eq_true rfl) (Nat.le_of_ble_eq_true rfl) (resTs1 trivial) fun C hC => ?_
  rw [Try.ntmps79]
  replace hC : C.nb = 0 := hC
  refine vc_seq fun K1 hK1 => ?_
  refine vc_region ?_
  refine vo_assign_pv rfl rfl ?_
  refine vo_nil ?_
  refine hK1 _ ?_
  refine vc_seq fun K2 hK2 => ?_
  refine vc_seq fun K3 hK3 => ?_
  refine vc_region ?_
  refine vo_assign_pv rfl rfl ?_
  refine vo_nil ?_
  refine hK3 _ ?_
  refine vc_block ?_
  refine vc_stM ?_
  refine vc_loopE [0, 1] [5] [] _ _ (fun mz vs rs => ∃ (k : Nat), mz = regs.length - k ∧ (k ≤ regs.length) ∧ (∀ p ∈ regs.take k, okReg bases.length p) ∧ vs = [i64 k] ∧ rs = []) (regs.length) rfl rfl (le_len hC rfl) ⟨rfl, rfl, rfl⟩ rfl ⟨0, rfl, Nat.zero_le _, (by simp), rfl, rfl⟩ ?_
  rintro mz vs rs - - ⟨k, rfl, hk, hf, rfl, rfl⟩
  refine vc_stM ?_
  refine vc_seq fun K4 hK4 => ?_
  refine vc_seq fun K5 hK5 => ?_
  refine vc_region ?_
  refine vo_move_pv rfl rfl ?_
  refine vo_move_pv rfl rfl ?_
  refine vo_len_pv rfl rfl Try.underlying47 ?_
  refine vo_binI rfl rfl rfl rfl trivial ?_
  refine vo_nil ?_
  refine hK5 _ ?_
  refine vc_cond rfl (fun hc1 => ?_) (fun hc1 => ?_)
  · try simp only [zq0, zq1, zq2, zq3, zq4, zq5, zq6, zq7, zq8, zq9, zqa, zqb, zqc, zqd, zqe, zqf] at hc1
    refine vc_skip ?_
    refine hK4 _ ?_
    refine vc_seq fun K6 hK6 => ?_
    refine vc_block ?_
    refine vc_seq fun K7 hK7 => ?_
    refine vc_region ?_
    refine vo_move_pv rfl rfl ?_
    refine vo_move_pv rfl rfl ?_
    refine vo_index_pv (.agg [(.int .i64 0), (.int .i64 0)]) rfl rfl rfl E47.und inf92 sz92 sd sd ?_
    simp only [Int.toNat_natCast, Int.toNat_zero, getD_ints, getD_intss, getD_bools, getD_bytes, PV.cells, getD_ops, getD_pairs, getD_insts, getD_attrs, getD_attrss, getD_objs, getD_ordP]
    refine vo_fieldAddr_adr rfl rfl Try.underlying92 rfl inf3 (by rw [sz3]; decide) ?_
    refine vo_load_adr rfl rfl Try.underlying3 rfl ?_
    refine vo_move_pv rfl rfl ?_
    refine vo_len_pv rfl rfl Try.underlying23 ?_
    refine vo_binI rfl rfl rfl rfl sd ?_
    refine vo_call0 Try.func64 rfl rfl rfl rfl inRange_sat ?_
    rintro _ _ ⟨rfl, rfl⟩
    refine ⟨rfl, rfl, .inl rfl, ?_⟩
    refine vo_stM ?_
    refine vo_not rfl rfl ?_
    refine vo_move_pv rfl rfl ?_
    refine vo_split 22 rfl (fun hg2 => ?_) (fun hg2 => ?_)
    · try simp only [zq0, zq1, zq2, zq3, zq4, zq5, zq6, zq7, zq8, zq9, zqa, zqb, zqc, zqd, zqe, zqf] at hg2
      refine vo_guard_off rfl rfl rfl rfl rfl ?_
      refine vo_guard_off rfl rfl rfl rfl rfl ?_
      refine vo_guard_off rfl rfl rfl rfl rfl ?_
      refine vo_guard_off rfl rfl rfl rfl rfl ?_
      refine vo_guard_off rfl rfl rfl rfl rfl ?_
      refine vo_guard_off rfl rfl rfl rfl rfl ?_
      refine vo_guard_off rfl rfl rfl rfl rfl ?_
      refine vo_guard_off rfl rfl rfl rfl rfl ?_
      refine vo_guard_off rfl rfl rfl rfl rfl ?_
      refine vo_guard_off rfl rfl rfl rfl rfl ?_
      refine vo_pick_t rfl rfl ?_
      refine vo_nil ?_
      refine hK7 _ ?_
      refine vc_cond_t rfl ?_
      refine vc_seq fun K8 hK8 => ?_
      refine vc_region ?_
      refine vo_assign_pv rfl rfl ?_
      refine vo_nil ?_
      refine hK8 _ ?_
      refine vc_ret ?_
      change retQ _ _ _ _ _
      refine retQ_sel [] (srows := []) (.inr rfl) hC rfl rfl rfl rfl rfl rfl rfl ?_
      refine ⟨?_, rfl⟩
      refine (congrArg (fun b => [bo b]) (?_ : _ = _) : [bo _] = [bo _])
      first
        | (refine bF fun h0 => ?_
           have h1 := h0.2.1
           first
             | omega
             | exact absurd h0.1 (by assumption)
             | (have h2 := okReg_at (show k < regs.length by omega) h0.2.2
                unfold okReg at h2
                first | omega | exact absurd h2 (by assumption) | exact absurd (upto2.2 h2) (by assumption) | (simp_all; done) | (simp_all; omega)))
        | (rw [take_all (by omega)] at hf; exact bT ⟨by assumption, by omega, hf⟩)
        | (refine bF fun h0 => ?_; exact absurd h0.1 (by assumption))
        | (rw [take_all (by omega)] at hf
           have hml : (regs.map pairP).length = regs.length := List.length_map ..
           refine decide_eq_decide.2 ⟨fun h => ?_, fun h => ?_⟩
           · exact ⟨by assumption, by omega, hf⟩
           · have h8 := h.2.1
             omega)
    · try simp only [zq0, zq1, zq2, zq3, zq4, zq5, zq6, zq7, zq8, zq9, zqa, zqb, zqc, zqd, zqe, zqf] at hg2
      refine vo_guard_on rfl rfl rfl ?_
      refine vo_move_pv rfl rfl ?_
      refine vo_guard_on rfl rfl rfl ?_
      refine vo_move_pv rfl rfl ?_
      refine vo_guard_on rfl rfl rfl ?_
      refine vo_index_pv (.agg [(.int .i64 0), (.int .i64 0)]) rfl rfl rfl E47.und inf92 sz92 sd sd ?_
      simp only [Int.toNat_natCast, Int.toNat_zero, getD_ints, getD_intss, getD_bools, getD_bytes, PV.cells, getD_ops, getD_pairs, getD_insts, getD_attrs, getD_attrss, getD_objs, getD_ordP]
      refine vo_guard_on rfl rfl rfl ?_
      refine vo_fieldAddr_adr rfl rfl Try.underlying92 rfl inf3 (by rw [sz3]; decide) ?_
      refine vo_guard_on rfl rfl rfl ?_
      refine vo_load_adr rfl rfl Try.underlying3 rfl ?_
      refine vo_guard_on rfl rfl rfl ?_
      refine vo_move_pv rfl rfl ?_
      refine vo_guard_on rfl rfl rfl ?_
      refine vo_len_pv rfl rfl Try.underlying23 ?_
      refine vo_guard_on rfl rfl rfl ?_
      refine vo_binI rfl rfl rfl rfl sd ?_
      refine vo_guard_on rfl rfl rfl ?_
      refine vo_call0 Try.func64 rfl rfl rfl rfl inRange_sat ?_
      rintro _ _ ⟨rfl, rfl⟩
      refine ⟨rfl, rfl, .inl rfl, ?_⟩
      refine vo_stM ?_
      refine vo_guard_on rfl rfl rfl ?_
      refine vo_not rfl rfl ?_
      refine vo_pick_f rfl rfl ?_
      refine vo_nil ?_
      refine hK7 _ ?_
      refine vc_cond rfl (fun hc3 => ?_) (fun hc3 => ?_)
      · try simp only [zq0, zq1, zq2, zq3, zq4, zq5, zq6, zq7, zq8, zq9, zqa, zqb, zqc, zqd, zqe, zqf] at hc3
        refine vc_seq fun K9 hK9 => ?_
        refine vc_region ?_
        refine vo_assign_pv rfl rfl ?_
        refine vo_nil ?_
        refine hK9 _ ?_
        refine vc_ret ?_
        change retQ _ _ _ _ _
        refine retQ_sel [] (srows := []) (.inr rfl) hC rfl rfl rfl rfl rfl rfl rfl ?_
        refine ⟨?_, rfl⟩
        refine (congrArg (fun b => [bo b]) (?_ : _ = _) : [bo _] = [bo _])
        first
          | (refine bF fun h0 => ?_
             have h1 := h0.2.1
             first
               | omega
               | exact absurd h0.1 (by assumption)
               | (have h2 := okReg_at (show k < regs.length by omega) h0.2.2
                  unfold okReg at h2
                  first | omega | exact absurd h2 (by assumption) | exact absurd (upto2.2 h2) (by assumption) | (simp_all; done) | (simp_all; omega)))
          | (rw [take_all (by omega)] at hf; exact bT ⟨by assumption, by omega, hf⟩)
          | (refine bF fun h0 => ?_; exact absurd h0.1 (by assumption))
          | (rw [take_all (by omega)] at hf
             have hml : (regs.map pairP).length = regs.length := List.length_map ..
             refine decide_eq_decide.2 ⟨fun h => ?_, fun h => ?_⟩
             · exact ⟨by assumption, by omega, hf⟩
             · have h8 := h.2.1
               omega)
      · try simp only [zq0, zq1, zq2, zq3, zq4, zq5, zq6, zq7, zq8, zq9, zqa, zqb, zqc, zqd, zqe, zqf] at hc3
        refine vc_skip ?_
        refine hK6 _ ?_
        refine vc_region ?_
        refine vo_move_pv rfl rfl ?_
        refine vo_binI rfl rfl rfl rfl sd ?_
        refine vo_assign_pv rfl rfl ?_
        refine vo_nil ?_
        change againE _ _ _ _ _ _ _ _ _ _
        refine againE_mk rfl rfl rfl rfl rfl rfl ⟨_, ?_, k + 1, rfl, ?_, ?_, rfl, rfl⟩
        · omega
        · omega
        · exact okReg_succ (by omega) hf (by unfold okReg; first | assumption | exact upto2.1 (by assumption) | (constructor <;> (constructor <;> omega)))
  · try simp only [zq0, zq1, zq2, zq3, zq4, zq5, zq6, zq7, zq8, zq9, zqa, zqb, zqc, zqd, zqe, zqf] at hc1
    refine vc_exit ?_
    refine hK2 _ ?_
    refine vc_seq fun K10 hK10 => ?_
    refine vc_region ?_
    refine vo_move_pv rfl rfl ?_
    refine vo_call0 Try.func101 rfl rfl rfl rfl (specValidBases0_sat hbases hlbases) ?_
    rintro _ _ ⟨rfl, rfl⟩
    refine ⟨rfl, rfl, .inl rfl, ?_⟩
    refine vo_stM ?_
    refine vo_move_pv rfl rfl ?_
    refine vo_split 36 rfl (fun hg4 => ?_) (fun hg4 => ?_)
    · try simp only [zq0, zq1, zq2, zq3, zq4, zq5, zq6, zq7, zq8, zq9, zqa, zqb, zqc, zqd, zqe, zqf] at hg4
      refine vo_guard_on rfl rfl rfl ?_
      refine vo_move_pv rfl rfl ?_
      refine vo_guard_on rfl rfl rfl ?_
      refine vo_len_pv rfl rfl Try.underlying47 ?_
      refine vo_guard_on rfl rfl rfl ?_
      refine vo_binI rfl rfl rfl rfl trivial ?_
      refine vo_pick_t rfl rfl ?_
      refine vo_assign_pv rfl rfl ?_
      refine vo_nil ?_
      refine hK10 _ ?_
      refine vc_ret ?_
      change retQ _ _ _ _ _
      refine retQ_sel [] (srows := []) (.inr rfl) hC rfl rfl rfl rfl rfl rfl rfl ?_
      refine ⟨?_, rfl⟩
      refine (congrArg (fun b => [bo b]) (?_ : _ = _) : [bo _] = [bo _])
      first
        | (refine bF fun h0 => ?_
           have h1 := h0.2.1
           first
             | omega
             | exact absurd h0.1 (by assumption)
             | (have h2 := okReg_at (show k < regs.length by omega) h0.2.2
                unfold okReg at h2
                first | omega | exact absurd h2 (by assumption) | exact absurd (upto2.2 h2) (by assumption) | (simp_all; done) | (simp_all; omega)))
        | (rw [take_all (by omega)] at hf; exact bT ⟨by assumption, by omega, hf⟩)
        | (refine bF fun h0 => ?_; exact absurd h0.1 (by assumption))
        | (rw [take_all (by omega)] at hf
           have hml : (regs.map pairP).length = regs.length := List.length_map ..
           refine decide_eq_decide.2 ⟨fun h => ?_, fun h => ?_⟩
           · exact ⟨by assumption, by omega, hf⟩
           · have h8 := h.2.1
             omega)
    · try simp only [zq0, zq1, zq2, zq3, zq4, zq5, zq6, zq7, zq8, zq9, zqa, zqb, zqc, zqd, zqe, zqf] at hg4
      refine vo_guard_off rfl rfl rfl rfl rfl ?_
      refine vo_guard_off rfl rfl rfl rfl rfl ?_
      refine vo_guard_off rfl rfl rfl rfl rfl ?_
      refine vo_pick_f rfl rfl ?_
      refine vo_assign_pv rfl rfl ?_
      refine vo_nil ?_
      refine hK10 _ ?_
      refine vc_ret ?_
      change retQ _ _ _ _ _
      refine retQ_sel [] (srows := []) (.inr rfl) hC rfl rfl rfl rfl rfl rfl rfl ?_
      refine ⟨?_, rfl⟩
      refine (congrArg (fun b => [bo b]) (?_ : _ = _) : [bo _] = [bo _])
      first
        | (refine bF fun h0 => ?_
           have h1 := h0.2.1
           first
             | omega
             | exact absurd h0.1 (by assumption)
             | (have h2 := okReg_at (show k < regs.length by omega) h0.2.2
                unfold okReg at h2
                first | omega | exact absurd h2 (by assumption) | exact absurd (upto2.2 h2) (by assumption) | (simp_all; done) | (simp_all; omega)))
        | (rw [take_all (by omega)] at hf; exact bT ⟨by assumption, by omega, hf⟩)
        | (refine bF fun h0 => ?_; exact absurd h0.1 (by assumption))
        | (rw [take_all (by omega)] at hf
           have hml : (regs.map pairP).length = regs.length := List.length_map ..
           refine decide_eq_decide.2 ⟨fun h => ?_, fun h => ?_⟩
           · exact ⟨by assumption, by omega, hf⟩
           · have h8 := h.2.1
             omega)


theorem specValidRegs_sat {nl0 : Option Bool} {bases : List (List Int)} {nl1 : Option Bool} {regs : List (Int × Int)} (hbases : bases.length < 1000000000) (hlbases : ∀ l ∈ bases, l.length < 1000000000) (hregs : regs.length < 1000000000)  : SatAt Try.prog 42 [.pv false (.sl nl0 1 (bases.map ints)), .pv false (.sl nl1 2 (regs.map pairP))] [] (fun res rows => res = [bo (decide (VRegs bases regs))] ∧ rows = []) := by
 refine sat_entry_G (rs := [(4, none)]) Try.func42 rfl rfl (Nat.le_of_ble_eq_true rfl) (Nat.le_of_ble_eq_true rfl) (resTs1 trivial) fun C hC => ?_
 rw [Try.ntmps42]
 replace hC : C.nb = 0 := hC
 refine vc_seq fun K1 hK1 => ?_
 refine vc_region ?_
 refine vo_assign_pv rfl rfl ?_
 refine vo_nil ?_
 refine hK1 _ ?_
 refine vc_seq fun K2 hK2 => ?_
 refine vc_region ?_
 refine vo_move_pv rfl rfl ?_
 refine vo_move_pv rfl rfl ?_
 refine vo_call0 Try.func79 rfl rfl rfl rfl (specValidRegs0_sat hbases hlbases hregs) ?_
 rintro _ _ ⟨rfl, rfl⟩
 refine ⟨rfl, rfl, .inl rfl, ?_⟩
 refine vo_stM ?_
 refine vo_assign_pv rfl rfl ?_
 refine vo_nil ?_
 refine hK2 _ ?_
 refine vc_ret ?_
 change retQ _ _ _ _ _
 refine retQ_sel [] (srows := []) (.inr rfl) hC rfl rfl rfl rfl rfl rfl rfl ?_
 refine ⟨?_, rfl⟩
 refine (congrArg (fun b => [bo b]) (?_ : _ = _) : [bo _] = [bo _])
 rfl


end Go.Vl

namespace Go.Vl
set_option linter.unusedVariables false
set_option linter.unusedSimpArgs false
open Go.Proofs

def SV.nilE (e : Nat) : SV → SV
  | .pv f (.sl (some true) 0 []) => .pv f (.sl (some true) e [])
  | s => s

theorem SatAt.nilE (e : Nat) {P : Program} {f : FuncId} {args : List SV} {rows : List Row} {R : List SV → List Row → Prop} (h : SatAt P f (args.map (SV.nilE e)) rows R) : SatAt P f args rows R := by
  intro C m vals h1 h2 h3 h4
  refine h C m vals h1 h2 (by simpa using h3) { h4 with env := fun t => ?_ }
  have hv := h4.env t
  show RS _ _ _ _ (look (enumE 0 (args.map (SV.nilE e))) t) _
  rw [look_enumE] at hv ⊢
  simp only [List.getElem?_map]
  split at hv
  · rename_i h0
    rw [if_pos h0]
    cases ha : args[t - 0]? with
    | none => rw [ha] at hv; exact hv
    | some x =>
      rw [ha] at hv
      simp only [Option.getD_some, Option.map_some] at hv ⊢
      unfold SV.nilE
      split
      · generalize (#[] : Array Value) = z at *
        generalize vals.getD t undef = u at *
        cases hv with
        | pv _ _ _ hp =>
          cases hp with
          | nilsl _ _ hn => exact .pv _ _ _ (.nilsl _ _ hn)
          | sl nl e xs a len cap f hn => exact absurd rfl hn
      · exact hv
  · rename_i h0; rw [if_neg h0]; exact .any _

theorem app_pairs1 (l : List (Int × Int)) (a b : Int) : l.map pairP ++ [.agg [.int .i64 a, .int .i64 b]] = (l ++ [(a, b)]).map pairP := by simp
theorem cutP_mem {l : List (Int × Int)} {k m n : Nat} : ∀ p ∈ l.take k ++ (l.drop m).take n, p ∈ l := by
  intro p hp
  rcases List.mem_append.1 hp with h | h
  · exact List.mem_of_mem_take h
  · exact List.mem_of_mem_drop (List.mem_of_mem_take h)
theorem vregs_cut {b : List (List Int)} {l : List (Int × Int)} {k m n : Nat} (h : VRegs b l) (hk : k ≤ m) : VRegs b (l.take k ++ (l.drop m).take n) := by
  refine vregs_sub h ?_ cutP_mem
  rw [List.length_append, List.length_take, List.length_take, List.length_drop]; omega
theorem vregs_nil {b : List (List Int)} {l : List (Int × Int)} (h : VRegs b l) : VRegs b [] := vregs_sub h (by simp) (by simp)

theorem someRegs_sat {nl : Option Bool} {c : List (Fin 256)} {p : Nat} {m : Int} (hc : c.length ≤ 2000) (hp : p < 989000) : SatAt Try.prog 76 [.ptr 0 0 0 0, i64 m] [rdr nl c p] (fun res rows => ∃ (l : List (Int × Int)) (q : Nat), (l.length ≤ 4 ∧ q ≤ p + 20) ∧ res = [.ref 1] ∧ rows = [rdr nl c q, Row.own 92 2 (some false) true ((l).map pairP)]) := by
 refine sat_entry_G (rs := [(4, none)]) Try.func76 rfl rfl (Nat.le_of_ble_eq_true rfl) (Nat.le_of_ble_eq_true rfl) (resTs1 trivial) fun C hC => ?_
 rw [Try.ntmps76]
 replace hC : C.nb = 1 := hC
 refine vc_seq fun K1 hK1 => ?_
 refine vc_region ?_
 refine vo_assign_pv rfl rfl ?_
 refine vo_nil ?_
 refine hK1 _ ?_
 refine vc_seq fun K2 hK2 => ?_
 refine vc_region ?_
 refine vo_buildSlice E47 rfl rfl rfl rfl rfl ?_
 refine vo_stM ?_
 refine vo_assign_ref rfl rfl ?_
 refine vo_nil ?_
 refine hK2 _ ?_
 refine vc_seq fun K3 hK3 => ?_
 refine vc_seq fun K4 hK4 => ?_
 refine vc_region ?_
 refine vo_move_ptr rfl rfl ?_
 refine vo_buildSlice E28 rfl rfl rfl rfl rfl ?_
 refine vo_stM ?_
 refine vo_expose 2 (by omega) rfl ?_
 refine vo_stM ?_
 refine vo_weaken 9 rfl ?_
 refine vo_stM ?_
 refine vo_call [0] Try.func98 rfl rfl rfl rfl rfl rfl rfl (one_sat (list := [_,_,_,_,_]) hc (by omega) (by simp) (by simp)) ?_
 rintro _ _ ⟨y10, hy10, rfl, rfl⟩
 refine ⟨Nat.le_of_ble_eq_true rfl, ⟨rfl, rfl, rfl, rfl⟩, .inl rfl, ?_⟩
 refine vo_stM ?_
 refine vo_assign_pv rfl rfl ?_
 refine vo_nil ?_
 refine hK4 _ ?_
 refine vc_block ?_
 refine vc_stM ?_
 refine vc_loopE [0, 1] [5, 6] [0, 1] _ _ (fun mz vs rs => ∃ (l : List (Int × Int)) (q : Nat) (n : Int), mz = n.toNat ∧ ((0 ≤ n ∧ l.length + n ≤ 4)) ∧ ((q + 2 * n ≤ p + 9)) ∧ vs = [.ref 1, i64 n] ∧ rs = [rdr nl c q, Row.own 92 2 (some false) true ((l).map pairP)]) (y10.toNat) rfl rfl (le_len hC rfl) ⟨rfl, rfl, rfl⟩ rfl ⟨[], p+1, y10, rfl, (by simp at hy10; simp; omega), (by simp at hy10; omega), rfl, rfl⟩ ?_
 rintro mz vs rs - - ⟨l, q, n, rfl, hn, hq, rfl, rfl⟩
 refine vc_stM ?_
 refine vc_seq fun K5 hK5 => ?_
 refine vc_seq fun K6 hK6 => ?_
 refine vc_region ?_
 refine vo_move_pv rfl rfl ?_
 refine vo_binI rfl rfl rfl rfl trivial ?_
 refine vo_nil ?_
 refine hK6 _ ?_
 refine vc_cond rfl (fun hc1 => ?_) (fun hc1 => ?_)
 ·try simp only [zq0, zq1, zq2, zq3, zq4, zq5, zq6, zq7, zq8, zq9, zqa, zqb, zqc, zqd, zqe, zqf] at hc1
  refine vc_skip ?_
  refine hK5 _ ?_
  refine vc_seq fun K7 hK7 => ?_
  refine vc_block ?_
  refine vc_region ?_
  refine vo_move_ref rfl rfl ?_
  refine vo_move_ptr rfl rfl ?_
  refine vo_move_pv rfl rfl ?_
  refine vo_call [0] Try.func74 rfl rfl rfl rfl rfl rfl rfl (pick_sat hc (by omega)) ?_
  rintro _ _ ⟨x18, ⟨hx180, hx181⟩, rfl, rfl⟩
  refine ⟨Nat.le_of_ble_eq_true rfl, ⟨rfl, rfl, rfl, rfl⟩, .inl rfl, ?_⟩
  refine vo_stM ?_
  refine vo_move_ptr rfl rfl ?_
  refine vo_move_pv rfl rfl ?_
  refine vo_call [0] Try.func74 rfl rfl rfl rfl rfl rfl rfl (pick_sat hc (by omega)) ?_
  rintro _ _ ⟨x21, ⟨hx210, hx211⟩, rfl, rfl⟩
  refine ⟨Nat.le_of_ble_eq_true rfl, ⟨rfl, rfl, rfl, rfl⟩, .inl rfl, ?_⟩
  refine vo_stM ?_
  refine vo_build S92 rfl rfl rfl ?_
  refine vo_stM ?_
  refine vo_buildSlice E47 rfl rfl rfl rfl rfl ?_
  refine vo_stM ?_
  refine vo_append E47 rfl (by omega) rfl rfl rfl sd sd ?_
  refine vo_stM ?_
  try simp only [app_ints, app_intss, app_bools, app_pairs1]
  refine vo_assign_ref rfl rfl ?_
  refine vo_nil ?_
  refine hK7 _ ?_
  refine vc_region ?_
  refine vo_move_pv rfl rfl ?_
  refine vo_binI rfl rfl rfl rfl sd ?_
  refine vo_assign_pv rfl rfl ?_
  refine vo_nil ?_
  change againE _ _ _ _ _ _ _ _ _ _
  refine againE_mk rfl rfl rfl rfl rfl rfl ⟨_, ?_, l ++ [(x18, x21)], q + 2, n - 1, rfl, ?_, ?_, rfl, (by simp only [List.map_append]; rfl)⟩
  ·omega
  ·refine ⟨by omega, ?_⟩; rw [List.length_append, List.length_singleton]; omega
  ·omega
 ·try simp only [zq0, zq1, zq2, zq3, zq4, zq5, zq6, zq7, zq8, zq9, zqa, zqb, zqc, zqd, zqe, zqf] at hc1
  refine vc_exit ?_
  refine hK3 _ ?_
  refine vc_seq fun K8 hK8 => ?_
  refine vc_seq fun K9 hK9 => ?_
  refine vc_region ?_
  refine vo_move_ref rfl rfl ?_
  refine vo_len_ref rfl rfl rfl Try.underlying47 ?_
  refine vo_binI rfl rfl rfl rfl trivial ?_
  refine vo_move_pv rfl rfl ?_
  refine vo_split 28 rfl (fun hg2 => ?_) (fun hg2 => ?_)
  ·try simp only [zq0, zq1, zq2, zq3, zq4, zq5, zq6, zq7, zq8, zq9, zqa, zqb, zqc, zqd, zqe, zqf] at hg2
   obtain ⟨o, l, rfl⟩ := List.exists_cons_of_length_pos (show 0 < l.length by omega)
   have hl9 : (o :: l).length ≤ 4 := by omega
   refine vo_guard_on rfl rfl rfl ?_
   refine vo_move_ptr rfl rfl ?_
   refine vo_guard_on rfl rfl rfl ?_
   refine vo_call [0] Try.func74 rfl rfl rfl rfl rfl rfl rfl (pick_sat hc (by omega)) ?_
   rintro _ _ ⟨x30, ⟨hx300, hx301⟩, rfl, rfl⟩
   refine ⟨Nat.le_of_ble_eq_true rfl, ⟨rfl, rfl, rfl, rfl⟩, .inl rfl, ?_⟩
   refine vo_stM ?_
   refine vo_guard_on rfl rfl rfl ?_
   refine vo_binI rfl rfl rfl rfl trivial ?_
   refine vo_pick_t rfl rfl ?_
   refine vo_nil ?_
   refine hK9 _ ?_
   refine vc_cond rfl (fun hc3 => ?_) (fun hc3 => ?_)
   ·try simp only [zq0, zq1, zq2, zq3, zq4, zq5, zq6, zq7, zq8, zq9, zqa, zqb, zqc, zqd, zqe, zqf] at hc3
    refine vc_region ?_
    refine vo_move_ref rfl rfl ?_
    refine vo_move_ptr rfl rfl ?_
    refine vo_buildSlice E28 rfl rfl rfl rfl rfl ?_
    refine vo_stM ?_
    refine vo_expose 3 (by omega) rfl ?_
    refine vo_stM ?_
    refine vo_weaken 35 rfl ?_
    refine vo_stM ?_
    refine vo_call [0] Try.func98 rfl rfl rfl rfl rfl rfl rfl (one_sat (list := [_,_]) hc (by omega) (by simp) (by simp)) ?_
    rintro _ _ ⟨y36, hy36, rfl, rfl⟩
    refine ⟨Nat.le_of_ble_eq_true rfl, ⟨rfl, rfl, rfl, rfl⟩, .inl rfl, ?_⟩
    refine vo_stM ?_
    refine vo_index_ref rfl rfl rfl rfl E47.und inf92 sz92 sd sd ?_
    try simp only [Int.toNat_natCast]
    refine vo_fieldAddr_ptr rfl rfl Try.underlying92 rfl inf3 (by rw [sz3]; decide) ?_
    try simp only [Nat.zero_add]
    refine vo_store_ownC rfl rfl rfl rfl inf3 sz3 rfl rfl ?_
    try simp only [List.set_cons_zero, List.set_cons_succ, Int.toNat_natCast, Int.toNat_zero]
    refine vo_stM ?_
    refine vo_nil ?_
    refine hK8 _ ?_
    refine vc_seq fun K10 hK10 => ?_
    refine vc_region ?_
    refine vo_move_ref rfl rfl ?_
    refine vo_assign_ref rfl rfl ?_
    refine vo_nil ?_
    refine hK10 _ ?_
    refine vc_ret ?_
    change retQ _ _ _ _ _
    refine retQ_sel [1] (srows := [_]) (.inr rfl) hC rfl rfl rfl rfl rfl rfl rfl ?_
    first
     | exact ⟨(y36, o.2) :: l, _, ⟨hl9, by omega⟩, rfl, rfl⟩
     | exact ⟨o :: l, _, ⟨hl9, by omega⟩, rfl, rfl⟩
     | exact ⟨l, _, ⟨by omega, by omega⟩, rfl, rfl⟩
   ·try simp only [zq0, zq1, zq2, zq3, zq4, zq5, zq6, zq7, zq8, zq9, zqa, zqb, zqc, zqd, zqe, zqf] at hc3
    refine vc_skip ?_
    refine hK8 _ ?_
    refine vc_seq fun K11 hK11 => ?_
    refine vc_region ?_
    refine vo_move_ref rfl rfl ?_
    refine vo_assign_ref rfl rfl ?_
    refine vo_nil ?_
    refine hK11 _ ?_
    refine vc_ret ?_
    change retQ _ _ _ _ _
    refine retQ_sel [1] (srows := [_]) (.inr rfl) hC rfl rfl rfl rfl rfl rfl rfl ?_
    first
     | exact ⟨(y36, o.2) :: l, _, ⟨hl9, by omega⟩, rfl, rfl⟩
     | exact ⟨o :: l, _, ⟨hl9, by omega⟩, rfl, rfl⟩
     | exact ⟨l, _, ⟨by omega, by omega⟩, rfl, rfl⟩
  ·try simp only [zq0, zq1, zq2, zq3, zq4, zq5, zq6, zq7, zq8, zq9, zqa, zqb, zqc, zqd, zqe, zqf] at hg2
   refine vo_guard_off rfl rfl rfl rfl rfl ?_
   refine vo_guard_off rfl rfl rfl rfl rfl ?_
   refine vo_guard_off rfl rfl rfl rfl rfl ?_
   refine vo_pick_f rfl rfl ?_
   refine vo_nil ?_
   refine hK9 _ ?_
   refine vc_cond_f rfl ?_
   refine vc_skip ?_
   refine hK8 _ ?_
   refine vc_seq fun K12 hK12 => ?_
   refine vc_region ?_
   refine vo_move_ref rfl rfl ?_
   refine vo_assign_ref rfl rfl ?_
   refine vo_nil ?_
   refine hK12 _ ?_
   refine vc_ret ?_
   change retQ _ _ _ _ _
   refine retQ_sel [1] (srows := [_]) (.inr rfl) hC rfl rfl rfl rfl rfl rfl rfl ?_
   first
    | exact ⟨(y36, o.2) :: l, _, ⟨hl9, by omega⟩, rfl, rfl⟩
    | exact ⟨o :: l, _, ⟨hl9, by omega⟩, rfl, rfl⟩
    | exact ⟨l, _, ⟨by omega, by omega⟩, rfl, rfl⟩


theorem DrawValidRegs_sat {nl : Option Bool} {c : List (Fin 256)} (hl : c.length < 1000000000) : SatAt Try.prog 40 [.pv false (.sl nl 1 (c.map byteP))] [] (fun res rows => ∃ (B : List (List Int)) (f g : Bool) (l : List (Int × Int)), (1 ≤ B.length ∧ B.length ≤ 10 ∧ (∀ l ∈ B, l.length ≤ 3) ∧ l.length ≤ 4) ∧ res = [.pv f (.sl (some false) 1 (B.map ints)), .pv g (.sl (some false) 2 (l.map pairP))] ∧ rows = []) := by
 refine sat_entry_G (rs := [(2, none), (3, none)]) Try.func40 rfl rfl (Nat.le_of_ble_eq_true rfl) (Nat.le_of_ble_eq_true rfl) (resTs2 trivial trivial) fun C hC => ?_
 rw [Try.ntmps40]
 replace hC : C.nb = 0 := hC
 refine vc_seq fun K1 hK1 => ?_
 refine vc_region ?_
 refine vo_assign_pv rfl rfl ?_
 refine vo_assign_pv rfl rfl ?_
 refine vo_nil ?_
 refine hK1 _ ?_
 refine vc_seq fun K2 hK2 => ?_
 refine vc_region ?_
 refine vo_move_pv rfl rfl ?_
 refine vo_call [] Try.func56 rfl rfl rfl rfl rfl rfl rfl (newReader_sat (by omega)) ?_
 rintro _ _ ⟨nl2, c2, hc, rfl, rfl⟩
 refine ⟨Nat.le_of_ble_eq_true rfl, ⟨rfl, rfl, rfl, rfl⟩, .inl rfl, ?_⟩
 refine vo_stM ?_
 refine vo_assign_ptr rfl rfl ?_
 refine vo_nil ?_
 refine hK2 _ ?_
 refine vc_seq fun K3 hK3 => ?_
 refine vc_region ?_
 refine vo_move_ptr rfl rfl ?_
 refine vo_call [0] Try.func75 rfl rfl rfl rfl rfl rfl rfl (anyBases_sat hc (by omega)) ?_
 rintro _ _ ⟨B, q, f, ⟨h1, h2, h3, h4⟩, rfl, rfl⟩
 refine ⟨Nat.le_of_ble_eq_true rfl, ⟨rfl, rfl, rfl, rfl⟩, .inl rfl, ?_⟩
 refine vo_stM ?_
 refine vo_assign_ref rfl rfl ?_
 refine vo_nil ?_
 refine hK3 _ ?_
 refine vc_seq fun K4 hK4 => ?_
 refine vc_region ?_
 refine vo_move_ref rfl rfl ?_
 refine vo_move_ptr rfl rfl ?_
 refine vo_move_ref rfl rfl ?_
 refine vo_len_ref rfl rfl rfl Try.underlying23 ?_
 refine vo_call [0] Try.func76 rfl rfl rfl rfl rfl rfl rfl (someRegs_sat hc (by omega)) ?_
 rintro _ _ ⟨l, q2, ⟨hl1, hq2⟩, rfl, rfl⟩
 refine ⟨Nat.le_of_ble_eq_true rfl, ⟨rfl, rfl, rfl, rfl⟩, .inl rfl, ?_⟩
 refine vo_stM ?_
 refine vo_assign_ref rfl rfl ?_
 refine vo_assign_ref rfl rfl ?_
 refine vo_nil ?_
 refine hK4 _ ?_
 refine vc_expose 1 (by omega) rfl ?_
 refine vc_stM ?_
 refine vc_expose 2 (by omega) rfl ?_
 refine vc_stM ?_
 refine vc_ret ?_
 change retQ _ _ _ _ _
 refine retQ_sel [] (srows := []) (.inr rfl) hC rfl rfl rfl rfl rfl rfl rfl ?_
 exact ⟨B, _, _, l, ⟨h1, h2, h3, hl1⟩, rfl, rfl⟩


theorem FnValidRegs_sat {nl : Option Bool} {code : List (Fin 256)} : SatAt Try.prog 12 [.pv false (.sl nl 1 (code.map byteP))] [] (fun res rows => res = [bo true] ∧ rows = []) := by
 refine sat_entry_G (rs := [(2, none)]) Try.func12 rfl rfl (Nat.le_of_ble_eq_true rfl) (Nat.le_of_ble_eq_true rfl) (resTs1 trivial) fun C hC => ?_
 rw [Try.ntmps12]
 replace hC : C.nb = 0 := hC
 refine vc_seq fun K1 hK1 => ?_
 refine vc_region ?_
 refine vo_assign_pv rfl rfl ?_
 refine vo_nil ?_
 refine hK1 _ ?_
 refine vc_seq fun K2 hK2 => ?_
 refine vc_seq fun K3 hK3 => ?_
 refine vc_region ?_
 refine vo_move_pv rfl rfl ?_
 refine vo_len_pv rfl rfl Try.underlying22 ?_
 refine vo_binI rfl rfl rfl rfl trivial ?_
 refine vo_nil ?_
 refine hK3 _ ?_
 refine vc_cond rfl (fun hc1 => ?_) (fun hc1 => ?_)
 ·try simp only [zq0, zq1, zq2, zq3, zq4, zq5, zq6, zq7, zq8, zq9, zqa, zqb, zqc, zqd, zqe, zqf] at hc1
  refine vc_seq fun K4 hK4 => ?_
  refine vc_region ?_
  refine vo_assign_pv rfl rfl ?_
  refine vo_nil ?_
  refine hK4 _ ?_
  refine vc_ret ?_
  (try clear hK4); (try clear hK3); (try clear hK2); (try clear hK1)
  change retQ _ _ _ _ _
  refine retQ_sel [] (srows := []) (.inr rfl) hC rfl rfl rfl rfl rfl rfl rfl ?_
  first | exact ⟨rfl, rfl⟩ | (exfalso; simp_all; done) | (exfalso; omega) | (refine ⟨(congrArg (fun b => [bo b]) (?_ : _ = true) : [bo _] = [bo true]), rfl⟩; first | simp_all | (simp; omega))
 ·try simp only [zq0, zq1, zq2, zq3, zq4, zq5, zq6, zq7, zq8, zq9, zqa, zqb, zqc, zqd, zqe, zqf] at hc1
  refine vc_skip ?_
  refine hK2 _ ?_
  refine vc_seq fun K5 hK5 => ?_
  refine vc_region ?_
  refine vo_move_pv rfl rfl ?_
  refine vo_call0 Try.func40 rfl rfl rfl rfl (DrawValidRegs_sat (by omega)) ?_
  rintro _ _ ⟨B, f, g, l, ⟨h1, h2, hB, hl1⟩, rfl, rfl⟩
  refine ⟨rfl, rfl, .inl rfl, ?_⟩
  refine vo_stM ?_
  have hb9 : ∀ l ∈ B, l.length < 1000000000 := fun l hl => by have := hB l hl; omega
  refine vo_move rfl ?_
  refine vo_stM ?_
  refine vo_extract rfl rfl rfl ?_
  refine vo_extract rfl rfl rfl ?_
  refine vo_assign_pv rfl rfl ?_
  refine vo_assign_pv rfl rfl ?_
  refine vo_nil ?_
  refine hK5 _ ?_
  refine vc_seq fun K6 hK6 => ?_
  refine vc_region ?_
  refine vo_move_pv rfl rfl ?_
  refine vo_move_pv rfl rfl ?_
  refine vo_call0 Try.func41 rfl rfl rfl rfl (implValidRegs_sat (by omega) hb9 (by omega)) ?_
  rintro _ _ ⟨rfl, rfl⟩
  refine ⟨rfl, rfl, .inl rfl, ?_⟩
  refine vo_stM ?_
  refine vo_assign_pv rfl rfl ?_
  refine vo_nil ?_
  refine hK6 _ ?_
  refine vc_seq fun K7 hK7 => ?_
  refine vc_seq fun K8 hK8 => ?_
  refine vc_region ?_
  refine vo_move_pv rfl rfl ?_
  refine vo_move_pv rfl rfl ?_
  refine vo_move_pv rfl rfl ?_
  refine vo_call0 Try.func42 rfl rfl rfl rfl (specValidRegs_sat (by omega) hb9 (by omega)) ?_
  rintro _ _ ⟨rfl, rfl⟩
  refine ⟨rfl, rfl, .inl rfl, ?_⟩
  refine vo_stM ?_
  refine vo_binB rfl rfl rfl rfl Try.underlying4 ?_
  refine vo_move_pv rfl rfl ?_
  refine vo_split 23 rfl (fun hg2 => ?_) (fun hg2 => ?_)
  ·try simp only [zq0, zq1, zq2, zq3, zq4, zq5, zq6, zq7, zq8, zq9, zqa, zqb, zqc, zqd, zqe, zqf] at hg2
   refine vo_guard_off rfl rfl rfl rfl rfl ?_
   refine vo_guard_off rfl rfl rfl rfl rfl ?_
   refine vo_pick_t rfl rfl ?_
   refine vo_nil ?_
   refine hK8 _ ?_
   refine vc_cond_t rfl ?_
   refine vc_seq fun K9 hK9 => ?_
   refine vc_region ?_
   refine vo_move_pv rfl rfl ?_
   refine vo_move_pv rfl rfl ?_
   refine vo_move_pv rfl rfl ?_
   refine vo_call0 Try.func42 rfl rfl rfl rfl (specValidRegs_sat (by omega) hb9 (by omega)) ?_
   rintro _ _ ⟨rfl, rfl⟩
   refine ⟨rfl, rfl, .inl rfl, ?_⟩
   refine vo_stM ?_
   refine vo_binB rfl rfl rfl rfl Try.underlying4 ?_
   refine vo_assign_pv rfl rfl ?_
   refine vo_nil ?_
   refine hK9 _ ?_
   refine vc_ret ?_
   (try clear hK9); (try clear hK8); (try clear hK7); (try clear hK6); (try clear hK5); (try clear hK4); (try clear hK3); (try clear hK2); (try clear hK1)
   change retQ _ _ _ _ _
   refine retQ_sel [] (srows := []) (.inr rfl) hC rfl rfl rfl rfl rfl rfl rfl ?_
   first | exact ⟨rfl, rfl⟩ | (exfalso; simp_all; done) | (exfalso; omega) | (refine ⟨(congrArg (fun b => [bo b]) (?_ : _ = true) : [bo _] = [bo true]), rfl⟩; first | simp_all | (simp; omega))
  ·try simp only [zq0, zq1, zq2, zq3, zq4, zq5, zq6, zq7, zq8, zq9, zqa, zqb, zqc, zqd, zqe, zqf] at hg2
   refine vo_guard_on rfl rfl rfl ?_
   refine vo_move_pv rfl rfl ?_
   refine vo_guard_on rfl rfl rfl ?_
   refine vo_not rfl rfl ?_
   refine vo_pick_f rfl rfl ?_
   refine vo_nil ?_
   refine hK8 _ ?_
   refine vc_cond rfl (fun hc3 => ?_) (fun hc3 => ?_)
   ·try simp only [zq0, zq1, zq2, zq3, zq4, zq5, zq6, zq7, zq8, zq9, zqa, zqb, zqc, zqd, zqe, zqf] at hc3
    refine vc_seq fun K10 hK10 => ?_
    refine vc_region ?_
    refine vo_move_pv rfl rfl ?_
    refine vo_move_pv rfl rfl ?_
    refine vo_move_pv rfl rfl ?_
    refine vo_call0 Try.func42 rfl rfl rfl rfl (specValidRegs_sat (by omega) hb9 (by omega)) ?_
    rintro _ _ ⟨rfl, rfl⟩
    refine ⟨rfl, rfl, .inl rfl, ?_⟩
    refine vo_stM ?_
    refine vo_binB rfl rfl rfl rfl Try.underlying4 ?_
    refine vo_assign_pv rfl rfl ?_
    refine vo_nil ?_
    refine hK10 _ ?_
    refine vc_ret ?_
    (try clear hK10); (try clear hK9); (try clear hK8); (try clear hK7); (try clear hK6); (try clear hK5); (try clear hK4); (try clear hK3); (try clear hK2); (try clear hK1)
    change retQ _ _ _ _ _
    refine retQ_sel [] (srows := []) (.inr rfl) hC rfl rfl rfl rfl rfl rfl rfl ?_
    first | exact ⟨rfl, rfl⟩ | (exfalso; simp_all; done) | (exfalso; omega) | (refine ⟨(congrArg (fun b => [bo b]) (?_ : _ = true) : [bo _] = [bo true]), rfl⟩; first | simp_all | (simp; omega))
   ·try simp only [zq0, zq1, zq2, zq3, zq4, zq5, zq6, zq7, zq8, zq9, zqa, zqb, zqc, zqd, zqe, zqf] at hc3
    refine vc_skip ?_
    refine hK7 _ ?_
    refine vc_seq fun K11 hK11 => ?_
    refine vc_seq fun K12 hK12 => ?_
    refine vc_region ?_
    refine vo_assign_pv rfl rfl ?_
    refine vo_nil ?_
    refine hK12 _ ?_
    refine vc_block ?_
    refine vc_stM ?_
    refine vc_loopE [3, 4] [6] [] _ _ (fun mz vs rs => ∃ (k : Nat), mz = l.length - k ∧ (k ≤ l.length) ∧ vs = [i64 k] ∧ rs = []) (l.length) rfl rfl (le_len hC rfl) ⟨rfl, rfl, rfl⟩ rfl ⟨0, rfl, Nat.zero_le _, rfl, rfl⟩ ?_
    rintro mz vs rs - - ⟨k, rfl, hk, rfl, rfl⟩
    refine vc_stM ?_
    refine vc_seq fun K13 hK13 => ?_
    refine vc_seq fun K14 hK14 => ?_
    refine vc_region ?_
    refine vo_move_pv rfl rfl ?_
    refine vo_move_pv rfl rfl ?_
    refine vo_len_pv rfl rfl Try.underlying47 ?_
    refine vo_binI rfl rfl rfl rfl trivial ?_
    refine vo_nil ?_
    refine hK14 _ ?_
    refine vc_cond rfl (fun hc4 => ?_) (fun hc4 => ?_)
    ·try simp only [zq0, zq1, zq2, zq3, zq4, zq5, zq6, zq7, zq8, zq9, zqa, zqb, zqc, zqd, zqe, zqf] at hc4
     refine vc_skip ?_
     refine hK13 _ ?_
     refine vc_seq fun K15 hK15 => ?_
     refine vc_block ?_
     refine vc_seq fun K16 hK16 => ?_
     refine vc_drawL [1, 5, 10, 11] (by kernel_rfl) ?_
     change VL [1, 5, 10, 11] _ _ _ 13 _ _ _
     refine vl_light0 0 rfl rfl rfl (by kernel_rfl) (by kernel_rfl) (by kernel_rfl) (wnt_none rfl) (l0_move_pv rfl) ?_
     refine vl_light0 2 rfl rfl rfl (by kernel_rfl) (by kernel_rfl) (by kernel_rfl) (wnt_none rfl) (l0_move_pv rfl) ?_
     refine vl_light0 3 rfl rfl rfl (by kernel_rfl) (by kernel_rfl) (by kernel_rfl) (wnt_none rfl) (l0_move_pv rfl) ?_
     refine vl_light0 4 rfl rfl rfl (by kernel_rfl) (by kernel_rfl) (by kernel_rfl) (wnt_none rfl) (l0_slice_pv rfl rfl rfl E47.und inf92 sz92 sd sd sd) ?_
     simp only [Int.toNat_natCast, Int.toNat_zero, List.drop_zero, Nat.sub_zero, ← List.map_drop, ← List.map_take]
     refine vl_light0 6 rfl rfl rfl (by kernel_rfl) (by kernel_rfl) (by kernel_rfl) (wnt_none rfl) (l0_move_pv rfl) ?_
     refine vl_light0 7 rfl rfl rfl (by kernel_rfl) (by kernel_rfl) (by kernel_rfl) (wnt_none rfl) (l0_move_pv rfl) ?_
     refine vl_light0 8 rfl rfl rfl (by kernel_rfl) (by kernel_rfl) (by kernel_rfl) (wnt_none rfl) (l0_binI rfl rfl rfl sd) ?_
     refine vl_light0 9 rfl rfl rfl (by kernel_rfl) (by kernel_rfl) (by kernel_rfl) (wnt_none rfl) (l0_slice_pv rfl rfl rfl E47.und inf92 sz92 sd sd sd) ?_
     simp only [Int.toNat_natCast, Int.toNat_zero, List.drop_zero, Nat.sub_zero, ← List.map_drop, ← List.map_take]
     refine vl_one 1 rfl (by kernel_rfl) rfl ?_
     refine vo_buildSlice E47 rfl rfl rfl rfl rfl ?_
     refine vo_stM ?_
     refine vo_done ⟨rfl, ?_⟩
     refine vl_one 5 rfl (by kernel_rfl) rfl ?_
     refine vo_append E47 rfl (by omega) rfl rfl rfl sd sd ?_
     refine vo_stM ?_
     try simp only [app_ints, app_intss, app_bools, List.nil_append, ← List.map_take, ← List.map_drop, ← List.map_append]
     refine vo_done ⟨rfl, ?_⟩
     refine vl_one 10 rfl (by kernel_rfl) rfl ?_
     refine vo_append E47 rfl (by omega) rfl rfl rfl sd sd ?_
     refine vo_stM ?_
     try simp only [app_ints, app_intss, app_bools, List.nil_append, ← List.map_take, ← List.map_drop, ← List.map_append]
     refine vo_done ⟨rfl, ?_⟩
     refine vl_one 11 rfl (by kernel_rfl) rfl ?_
     refine vo_expose 0 (by omega) rfl ?_
     refine vo_stM ?_
     refine vo_weaken 48 rfl ?_
     refine vo_stM ?_
     refine vo_call0 Try.func41 rfl rfl rfl rfl (implValidRegs_sat (regs := (l.take k ++ (l.drop ((k : Int) + 1).toNat).take ((l.map pairP).length - ((k : Int) + 1).toNat))) (by omega) hb9 (by rw [List.length_append, List.length_take, List.length_take, List.length_drop]; omega)) ?_
     rintro _ _ ⟨rfl, rfl⟩
     refine ⟨rfl, rfl, .inl rfl, ?_⟩
     refine vo_stM ?_
     refine vo_done ⟨rfl, ?_⟩
     refine vl_light0 12 rfl rfl rfl (by kernel_rfl) (by kernel_rfl) (by kernel_rfl) (wnt_none rfl) (l0_not rfl) ?_
     refine vl_nil (by kernel_rfl) ?_
     refine hK16 _ ?_
     refine vc_cond rfl (fun hc5 => ?_) (fun hc5 => ?_)
     ·try simp only [zq0, zq1, zq2, zq3, zq4, zq5, zq6, zq7, zq8, zq9, zqa, zqb, zqc, zqd, zqe, zqf] at hc5
      exact absurd (vregs_cut (l := l) (by assumption) (by omega)) hc5
     ·try simp only [zq0, zq1, zq2, zq3, zq4, zq5, zq6, zq7, zq8, zq9, zqa, zqb, zqc, zqd, zqe, zqf] at hc5
      refine vc_skip ?_
      refine hK15 _ ?_
      refine vc_region ?_
      refine vo_move_pv rfl rfl ?_
      refine vo_binI rfl rfl rfl rfl sd ?_
      refine vo_assign_pv rfl rfl ?_
      refine vo_nil ?_
      (try clear hK16); (try clear hK15); (try clear hK14); (try clear hK13); (try clear hK12); (try clear hK11); (try clear hK10); (try clear hK9); (try clear hK8); (try clear hK7); (try clear hK6); (try clear hK5); (try clear hK4); (try clear hK3); (try clear hK2); (try clear hK1)
      change againE _ _ _ _ _ _ _ _ _ _
      refine againE_mk rfl rfl rfl rfl rfl rfl ⟨_, ?_, k + 1, rfl, ?_, rfl, rfl⟩
      ·omega
      ·omega
    ·try simp only [zq0, zq1, zq2, zq3, zq4, zq5, zq6, zq7, zq8, zq9, zqa, zqb, zqc, zqd, zqe, zqf] at hc4
     have hfin := vregs_nil (l := l) (by assumption : VRegs B l)
     refine vc_exit ?_
     refine hK11 _ ?_
     refine vc_seq fun K17 hK17 => ?_
     refine vc_region ?_
     refine vo_move_pv rfl rfl ?_
     refine vo_call0 Try.func41 rfl rfl rfl rfl (SatAt.nilE 2 (implValidRegs_sat (regs := []) (by omega) hb9 (by simp))) ?_
     rintro _ _ ⟨rfl, rfl⟩
     refine ⟨rfl, rfl, .inl rfl, ?_⟩
     refine vo_stM ?_
     refine vo_assign_pv rfl rfl ?_
     refine vo_nil ?_
     refine hK17 _ ?_
     refine vc_ret ?_
     (try clear hK17); (try clear hK16); (try clear hK15); (try clear hK14); (try clear hK13); (try clear hK12); (try clear hK11); (try clear hK10); (try clear hK9); (try clear hK8); (try clear hK7); (try clear hK6); (try clear hK5); (try clear hK4); (try clear hK3); (try clear hK2); (try clear hK1)
     change retQ _ _ _ _ _
     refine retQ_sel [] (srows := []) (.inr rfl) hC rfl rfl rfl rfl rfl rfl rfl ?_
     first | exact ⟨rfl, rfl⟩ | (exfalso; simp_all; done) | (exfalso; omega) | (refine ⟨(congrArg (fun b => [bo b]) (?_ : _ = true) : [bo _] = [bo true]), rfl⟩; first | simp_all | (simp; omega))

end Go.Vl

/- Part 6 of the texts that the proof of FnExactNamesOf is built on. -/
import Derived.Test.YtlpchicpbnmdgabGreatVl5
namespace Go.Vl
set_option linter.unusedVariables false
set_option linter.unusedSimpArgs false
open Go.Proofs

theorem implValidWorld_sat {w : WorldM}  (hw : SW w) : SatAt Tryz.prog 28 [.pv false (worldP w)] [] (fun res rows => res = [bo (decide (VWorld w))] ∧ rows = []) := by
  obtain ⟨⟨b1, b2⟩, ⟨a1, a2⟩, o1, o2⟩ := hw
  refine sat_entry_G (rs := [(2, none)]) Tryz.func28 rfl rfl (Nat.le_of_ble_eq_true rfl) (Nat.le_of_ble_eq_true rfl) (resTs1 trivial) fun C hC => ?_
  rw [Tryz.ntmps28]
  replace hC : C.nb = 0 := hC
  refine vc_seq fun K1 hK1 => ?_
  refine vc_region ?_
  refine vo_box rfl rfl ?_
  refine vo_stM ?_
  refine vo_assign_pv rfl rfl ?_
  refine vo_nil ?_
  refine hK1 _ ?_
  refine vc_seq fun K2 hK2 => ?_
  refine vc_seq fun K3 hK3 => ?_
  refine vc_region ?_
  refine vo_fieldAddr_ptr rfl rfl Tryz.underlying33 rfl inf22 (by rw [sz22]; decide) ?_
  try simp only [Nat.zero_add]
  refine vo_load_var rfl rfl rfl Tryz.underlying22 rfl rfl ?_
  refine vo_call0 Tryz.func68 rfl rfl rfl rfl (implAllOrders_sat (by omega) (fun l hl => by have := b2 l hl; omega)) ?_
  rintro _ _ ⟨rfl, rfl⟩
  refine ⟨rfl, rfl, .inl rfl, ?_⟩
  refine vo_stM ?_
  refine vo_not rfl rfl ?_
  refine vo_move_pv rfl rfl ?_
  refine vo_split 11 rfl (fun hg1 => ?_) (fun hg1 => ?_)
  · try simp only [zq0, zq1, zq2, zq3, zq4, zq5, zq6, zq7, zq8, zq9, zqa, zqb, zqc, zqd, zqe, zqf] at hg1
    refine vo_guard_off rfl rfl rfl rfl rfl ?_
    refine vo_guard_off rfl rfl rfl rfl rfl ?_
    refine vo_guard_off rfl rfl rfl rfl rfl ?_
    refine vo_guard_off rfl rfl rfl rfl rfl ?_
    refine vo_guard_off rfl rfl rfl rfl rfl ?_
    refine vo_guard_off rfl rfl rfl rfl rfl ?_
    refine vo_guard_off rfl rfl rfl rfl rfl ?_
    refine vo_pick_t rfl rfl ?_
    refine vo_move_pv rfl rfl ?_
    refine vo_guard_off rfl rfl rfl rfl rfl ?_
    refine vo_guard_off rfl rfl rfl rfl rfl ?_
    refine vo_guard_off rfl rfl rfl rfl rfl ?_
    refine vo_guard_off rfl rfl rfl rfl rfl ?_
    refine vo_pick_t rfl rfl ?_
    refine vo_nil ?_
    refine hK3 _ ?_
    refine vc_cond_t rfl ?_
    refine vc_seq fun K4 hK4 => ?_
    refine vc_region ?_
    refine vo_assign_pv rfl rfl ?_
    refine vo_nil ?_
    refine hK4 _ ?_
    refine vc_ret ?_
    change retQ _ _ _ _ _
    refine retQ_sel [] (srows := []) (.inr rfl) hC rfl rfl rfl rfl rfl rfl rfl ?_
    refine ⟨?_, rfl⟩
    refine (congrArg (fun b => [bo b]) (?_ : _ = _) : [bo _] = [bo _])
    first
      | (refine bF fun h0 => ?_
         have h1 := h0.2.1; have h2 := h0.2.2.1
         first
           | omega
           | exact absurd h0.1 (by assumption)
           | exact absurd h0.1.1 (by assumption)
           | exact absurd h0.1.2 (by assumption)
           | exact absurd (h0.2.2.2.1 _ (getD_mem (show k < w.attrs.length by omega) [])) (by assumption)
           | (have h3 := h0.2.2.2.2 _ (getD_mem (show k < w.objs.length by omega) ⟨0, []⟩)
              unfold okObj at h3
              have h4 := h3.2.1
              first
                | omega
                | exact absurd h3.2.2 (by assumption)
                | exact absurd h3.2.2.2 (by assumption)
                | exact absurd (⟨by omega, h3.2.2.1⟩ : (w.objs.getD k ⟨0, []⟩).pairs.length ≤ 40 ∧ (nms (w.objs.getD k ⟨0, []⟩).pairs).Nodup) (by assumption)))
      | (rw [take_all (by omega)] at hf2
         rw [take_all (by omega)] at hf
         exact bT ⟨by first | assumption | exact ⟨hg1, hg2⟩, by omega, by omega, hf, hf2⟩)
  · try simp only [zq0, zq1, zq2, zq3, zq4, zq5, zq6, zq7, zq8, zq9, zqa, zqb, zqc, zqd, zqe, zqf] at hg1
    refine vo_guard_on rfl rfl rfl ?_
    refine vo_fieldAddr_ptr rfl rfl Tryz.underlying33 rfl inf30 (by rw [sz30]; decide) ?_
    try simp only [Nat.zero_add]
    refine vo_guard_on rfl rfl rfl ?_
    refine vo_load_var rfl rfl rfl Tryz.underlying30 rfl rfl ?_
    refine vo_guard_on rfl rfl rfl ?_
    refine vo_len_pv rfl rfl Tryz.underlying30 ?_
    refine vo_guard_on rfl rfl rfl ?_
    refine vo_fieldAddr_ptr rfl rfl Tryz.underlying33 rfl inf22 (by rw [sz22]; decide) ?_
    try simp only [Nat.zero_add]
    refine vo_guard_on rfl rfl rfl ?_
    refine vo_load_var rfl rfl rfl Tryz.underlying22 rfl rfl ?_
    refine vo_guard_on rfl rfl rfl ?_
    refine vo_len_pv rfl rfl Tryz.underlying22 ?_
    refine vo_guard_on rfl rfl rfl ?_
    refine vo_binI rfl rfl rfl rfl trivial ?_
    refine vo_pick_f rfl rfl ?_
    refine vo_move_pv rfl rfl ?_
    refine vo_split 20 rfl (fun hg2 => ?_) (fun hg2 => ?_)
    · try simp only [zq0, zq1, zq2, zq3, zq4, zq5, zq6, zq7, zq8, zq9, zqa, zqb, zqc, zqd, zqe, zqf] at hg2
      refine vo_guard_off rfl rfl rfl rfl rfl ?_
      refine vo_guard_off rfl rfl rfl rfl rfl ?_
      refine vo_guard_off rfl rfl rfl rfl rfl ?_
      refine vo_guard_off rfl rfl rfl rfl rfl ?_
      refine vo_pick_t rfl rfl ?_
      refine vo_nil ?_
      refine hK3 _ ?_
      refine vc_cond_t rfl ?_
      refine vc_seq fun K5 hK5 => ?_
      refine vc_region ?_
      refine vo_assign_pv rfl rfl ?_
      refine vo_nil ?_
      refine hK5 _ ?_
      refine vc_ret ?_
      change retQ _ _ _ _ _
      refine retQ_sel [] (srows := []) (.inr rfl) hC rfl rfl rfl rfl rfl rfl rfl ?_
      refine ⟨?_, rfl⟩
      refine (congrArg (fun b => [bo b]) (?_ : _ = _) : [bo _] = [bo _])
      first
        | (refine bF fun h0 => ?_
           have h1 := h0.2.1; have h2 := h0.2.2.1
           first
             | omega
             | exact absurd h0.1 (by assumption)
             | exact absurd h0.1.1 (by assumption)
             | exact absurd h0.1.2 (by assumption)
             | exact absurd (h0.2.2.2.1 _ (getD_mem (show k < w.attrs.length by omega) [])) (by assumption)
             | (have h3 := h0.2.2.2.2 _ (getD_mem (show k < w.objs.length by omega) ⟨0, []⟩)
                unfold okObj at h3
                have h4 := h3.2.1
                first
                  | omega
                  | exact absurd h3.2.2 (by assumption)
                  | exact absurd h3.2.2.2 (by assumption)
                  | exact absurd (⟨by omega, h3.2.2.1⟩ : (w.objs.getD k ⟨0, []⟩).pairs.length ≤ 40 ∧ (nms (w.objs.getD k ⟨0, []⟩).pairs).Nodup) (by assumption)))
        | (rw [take_all (by omega)] at hf2
           rw [take_all (by omega)] at hf
           exact bT ⟨by first | assumption | exact ⟨hg1, hg2⟩, by omega, by omega, hf, hf2⟩)
    · try simp only [zq0, zq1, zq2, zq3, zq4, zq5, zq6, zq7, zq8, zq9, zqa, zqb, zqc, zqd, zqe, zqf] at hg2
      refine vo_guard_on rfl rfl rfl ?_
      refine vo_fieldAddr_ptr rfl rfl Tryz.underlying33 rfl inf31 (by rw [sz31]; decide) ?_
      try simp only [Nat.zero_add]
      refine vo_guard_on rfl rfl rfl ?_
      refine vo_load_var rfl rfl rfl Tryz.underlying31 rfl rfl ?_
      refine vo_guard_on rfl rfl rfl ?_
      refine vo_len_pv rfl rfl Tryz.underlying31 ?_
      refine vo_guard_on rfl rfl rfl ?_
      refine vo_binI rfl rfl rfl rfl trivial ?_
      refine vo_pick_f rfl rfl ?_
      refine vo_nil ?_
      refine hK3 _ ?_
      refine vc_cond rfl (fun hc3 => ?_) (fun hc3 => ?_)
      · try simp only [zq0, zq1, zq2, zq3, zq4, zq5, zq6, zq7, zq8, zq9, zqa, zqb, zqc, zqd, zqe, zqf] at hc3
        refine vc_seq fun K6 hK6 => ?_
        refine vc_region ?_
        refine vo_assign_pv rfl rfl ?_
        refine vo_nil ?_
        refine hK6 _ ?_
        refine vc_ret ?_
        change retQ _ _ _ _ _
        refine retQ_sel [] (srows := []) (.inr rfl) hC rfl rfl rfl rfl rfl rfl rfl ?_
        refine ⟨?_, rfl⟩
        refine (congrArg (fun b => [bo b]) (?_ : _ = _) : [bo _] = [bo _])
        first
          | (refine bF fun h0 => ?_
             have h1 := h0.2.1; have h2 := h0.2.2.1
             first
               | omega
               | exact absurd h0.1 (by assumption)
               | exact absurd h0.1.1 (by assumption)
               | exact absurd h0.1.2 (by assumption)
               | exact absurd (h0.2.2.2.1 _ (getD_mem (show k < w.attrs.length by omega) [])) (by assumption)
               | (have h3 := h0.2.2.2.2 _ (getD_mem (show k < w.objs.length by omega) ⟨0, []⟩)
                  unfold okObj at h3
                  have h4 := h3.2.1
                  first
                    | omega
                    | exact absurd h3.2.2 (by assumption)
                    | exact absurd h3.2.2.2 (by assumption)
                    | exact absurd (⟨by omega, h3.2.2.1⟩ : (w.objs.getD k ⟨0, []⟩).pairs.length ≤ 40 ∧ (nms (w.objs.getD k ⟨0, []⟩).pairs).Nodup) (by assumption)))
          | (rw [take_all (by omega)] at hf2
             rw [take_all (by omega)] at hf
             exact bT ⟨by first | assumption | exact ⟨hg1, hg2⟩, by omega, by omega, hf, hf2⟩)
      · try simp only [zq0, zq1, zq2, zq3, zq4, zq5, zq6, zq7, zq8, zq9, zqa, zqb, zqc, zqd, zqe, zqf] at hc3
        refine vc_skip ?_
        refine hK2 _ ?_
        refine vc_seq fun K7 hK7 => ?_
        refine vc_seq fun K8 hK8 => ?_
        refine vc_region ?_
        refine vo_fieldAddr_ptr rfl rfl Tryz.underlying33 rfl inf30 (by rw [sz30]; decide) ?_
        try simp only [Nat.zero_add]
        refine vo_load_var rfl rfl rfl Tryz.underlying30 rfl rfl ?_
        refine vo_len_pv rfl rfl Tryz.underlying30 ?_
        refine vo_move_pv rfl rfl ?_
        refine vo_nil ?_
        refine hK8 _ ?_
        refine vc_block ?_
        refine vc_stM ?_
        refine vc_loopE [1, 27, 28] [29] [] _ _ (fun mz vs rs => ∃ (k : Nat), mz = w.attrs.length - k ∧ (k ≤ w.attrs.length) ∧ (∀ l ∈ w.attrs.take k, AAttrs l) ∧ vs = [i64 k] ∧ rs = []) (w.attrs.length) rfl rfl (le_len hC rfl) ⟨rfl, rfl, rfl⟩ rfl ⟨0, rfl, Nat.zero_le _, (by simp), rfl, rfl⟩ ?_
        rintro mz vs rs - - ⟨k, rfl, hk, hf, rfl, rfl⟩
        refine vc_stM ?_
        have hak := (getD_all (p := fun l : List AttrM => l.length ≤ 2000000) a2 [] (by simp) k)
        refine vc_seq fun K9 hK9 => ?_
        refine vc_region ?_
        refine vo_binI rfl rfl rfl rfl trivial ?_
        refine vo_nil ?_
        refine hK9 _ ?_
        refine vc_seq fun K10 hK10 => ?_
        refine vc_cond rfl (fun hc4 => ?_) (fun hc4 => ?_)
        · try simp only [zq0, zq1, zq2, zq3, zq4, zq5, zq6, zq7, zq8, zq9, zqa, zqb, zqc, zqd, zqe, zqf] at hc4
          refine vc_skip ?_
          refine hK10 _ ?_
          refine vc_seq fun K11 hK11 => ?_
          refine vc_block ?_
          refine vc_seq fun K12 hK12 => ?_
          refine vc_region ?_
          refine vo_index_pv (.sl none 3 []) rfl rfl rfl E30.und inf97 sz97 sd sd ?_
          simp only [Int.toNat_natCast, Int.toNat_zero, getD_ints, getD_intss, getD_bools, getD_bytes, PV.cells, getD_ops, getD_pairs, getD_insts, getD_attrs, getD_attrss, getD_objs]
          refine vo_load_adr rfl rfl Tryz.underlying97 rfl ?_
          refine vo_assign_pv rfl rfl ?_
          refine vo_nil ?_
          refine hK12 _ ?_
          refine vc_seq fun K13 hK13 => ?_
          refine vc_region ?_
          refine vo_move_pv rfl rfl ?_
          refine vo_call0 Tryz.func69 rfl rfl rfl rfl (areAttrs_sat (by omega)) ?_
          rintro _ _ ⟨rfl, rfl⟩
          refine ⟨rfl, rfl, .inl rfl, ?_⟩
          refine vo_stM ?_
          refine vo_not rfl rfl ?_
          refine vo_nil ?_
          refine hK13 _ ?_
          refine vc_cond rfl (fun hc5 => ?_) (fun hc5 => ?_)
          · try simp only [zq0, zq1, zq2, zq3, zq4, zq5, zq6, zq7, zq8, zq9, zqa, zqb, zqc, zqd, zqe, zqf] at hc5
            refine vc_seq fun K14 hK14 => ?_
            refine vc_region ?_
            refine vo_assign_pv rfl rfl ?_
            refine vo_nil ?_
            refine hK14 _ ?_
            refine vc_ret ?_
            change retQ _ _ _ _ _
            refine retQ_sel [] (srows := []) (.inr rfl) hC rfl rfl rfl rfl rfl rfl rfl ?_
            refine ⟨?_, rfl⟩
            refine (congrArg (fun b => [bo b]) (?_ : _ = _) : [bo _] = [bo _])
            first
              | (refine bF fun h0 => ?_
                 have h1 := h0.2.1; have h2 := h0.2.2.1
                 first
                   | omega
                   | exact absurd h0.1 (by assumption)
                   | exact absurd h0.1.1 (by assumption)
                   | exact absurd h0.1.2 (by assumption)
                   | exact absurd (h0.2.2.2.1 _ (getD_mem (show k < w.attrs.length by omega) [])) (by assumption)
                   | (have h3 := h0.2.2.2.2 _ (getD_mem (show k < w.objs.length by omega) ⟨0, []⟩)
                      unfold okObj at h3
                      have h4 := h3.2.1
                      first
                        | omega
                        | exact absurd h3.2.2 (by assumption)
                        | exact absurd h3.2.2.2 (by assumption)
                        | exact absurd (⟨by omega, h3.2.2.1⟩ : (w.objs.getD k ⟨0, []⟩).pairs.length ≤ 40 ∧ (nms (w.objs.getD k ⟨0, []⟩).pairs).Nodup) (by assumption)))
              | (rw [take_all (by omega)] at hf2
                 rw [take_all (by omega)] at hf
                 exact bT ⟨by first | assumption | exact ⟨hg1, hg2⟩, by omega, by omega, hf, hf2⟩)
          · try simp only [zq0, zq1, zq2, zq3, zq4, zq5, zq6, zq7, zq8, zq9, zqa, zqb, zqc, zqd, zqe, zqf] at hc5
            refine vc_skip ?_
            refine hK11 _ ?_
            refine vc_region ?_
            refine vo_binI rfl rfl rfl rfl sd ?_
            refine vo_move_pv rfl rfl ?_
            refine vo_nil ?_
            change againE _ _ _ _ _ _ _ _ _ _
            refine againE_mk rfl rfl rfl rfl rfl rfl ⟨_, ?_, k + 1, rfl, ?_, ?_, rfl, rfl⟩
            · omega
            · omega
            · exact (all_take_succ (by omega) []).2 ⟨hf, by assumption⟩
        · try simp only [zq0, zq1, zq2, zq3, zq4, zq5, zq6, zq7, zq8, zq9, zqa, zqb, zqc, zqd, zqe, zqf] at hc4
          refine vc_exit ?_
          refine hK7 _ ?_
          refine vc_seq fun K15 hK15 => ?_
          refine vc_seq fun K16 hK16 => ?_
          refine vc_region ?_
          refine vo_fieldAddr_ptr rfl rfl Tryz.underlying33 rfl inf31 (by rw [sz31]; decide) ?_
          try simp only [Nat.zero_add]
          refine vo_load_var rfl rfl rfl Tryz.underlying31 rfl rfl ?_
          refine vo_len_pv rfl rfl Tryz.underlying31 ?_
          refine vo_move_pv rfl rfl ?_
          refine vo_nil ?_
          refine hK16 _ ?_
          refine vc_block ?_
          refine vc_stM ?_
          refine vc_loopE [1, 38, 39] [40] [] _ _ (fun mz vs rs => ∃ (k : Nat), mz = w.objs.length - k ∧ (k ≤ w.objs.length) ∧ (∀ o ∈ w.objs.take k, okObj w.bases.length o) ∧ vs = [i64 k] ∧ rs = []) (w.objs.length) rfl rfl (le_len hC rfl) ⟨rfl, rfl, rfl⟩ rfl ⟨0, rfl, Nat.zero_le _, (by simp), rfl, rfl⟩ ?_
          rintro mz vs rs - - ⟨k, rfl, hk, hf2, rfl, rfl⟩
          refine vc_stM ?_
          have hok := getD_all o2 ⟨0, []⟩ SO_zero k
          unfold SO at hok
          refine vc_seq fun K17 hK17 => ?_
          refine vc_region ?_
          refine vo_binI rfl rfl rfl rfl trivial ?_
          refine vo_nil ?_
          refine hK17 _ ?_
          refine vc_seq fun K18 hK18 => ?_
          refine vc_cond rfl (fun hc6 => ?_) (fun hc6 => ?_)
          · try simp only [zq0, zq1, zq2, zq3, zq4, zq5, zq6, zq7, zq8, zq9, zqa, zqb, zqc, zqd, zqe, zqf] at hc6
            refine vc_skip ?_
            refine hK18 _ ?_
            refine vc_seq fun K19 hK19 => ?_
            refine vc_block ?_
            refine vc_seq fun K20 hK20 => ?_
            refine vc_region ?_
            refine vo_index_pv (.agg [(.int .i64 0), (.sl none 2 [])]) rfl rfl rfl E31.und inf57 sz57 sd sd ?_
            simp only [Int.toNat_natCast, Int.toNat_zero, getD_ints, getD_intss, getD_bools, getD_bytes, PV.cells, getD_ops, getD_pairs, getD_insts, getD_attrs, getD_attrss, getD_objs]
            refine vo_load_adrS rfl rfl Tryz.underlying57 rfl inf57 sz57 rfl ?_
            refine vo_st (by (try simp only [St.put, PV.cells, PV.scal, List.drop_succ_cons, List.drop_zero, List.take_succ_cons, List.take_zero, List.map_cons, List.map_nil, Bool.or_true, Bool.or_false, Bool.false_or, Bool.true_or, opP, pairP, instP, heapP]); exact eq_refl _) ?_
            refine vo_alloc Z57 rfl ?_
            refine vo_stM ?_
            refine vo_store_varS rfl rfl rfl inf57 sz57 rfl ?_
            refine vo_stM ?_
            refine vo_nil ?_
            refine hK20 _ ?_
            refine vc_seq fun K21 hK21 => ?_
            refine vc_region ?_
            refine vo_fieldAddr_ptr rfl rfl Tryz.underlying57 rfl inf3 (by rw [sz3]; decide) ?_
            try simp only [Nat.zero_add]
            refine vo_load_var rfl rfl rfl Tryz.underlying3 rfl rfl ?_
            refine vo_fieldAddr_ptr rfl rfl Tryz.underlying33 rfl inf22 (by rw [sz22]; decide) ?_
            try simp only [Nat.zero_add]
            refine vo_load_var rfl rfl rfl Tryz.underlying22 rfl rfl ?_
            refine vo_len_pv rfl rfl Tryz.underlying22 ?_
            refine vo_binI rfl rfl rfl rfl sd ?_
            refine vo_call0 Tryz.func70 rfl rfl rfl rfl isUpTo_sat ?_
            rintro _ _ ⟨rfl, rfl⟩
            refine ⟨rfl, rfl, .inl rfl, ?_⟩
            refine vo_stM ?_
            refine vo_not rfl rfl ?_
            refine vo_move_pv rfl rfl ?_
            refine vo_split 52 rfl (fun hg7 => ?_) (fun hg7 => ?_)
            · try simp only [zq0, zq1, zq2, zq3, zq4, zq5, zq6, zq7, zq8, zq9, zqa, zqb, zqc, zqd, zqe, zqf] at hg7
              refine vo_guard_off rfl rfl rfl rfl rfl ?_
              refine vo_guard_off rfl rfl rfl rfl rfl ?_
              refine vo_guard_off rfl rfl rfl rfl rfl ?_
              refine vo_guard_off rfl rfl rfl rfl rfl ?_
              refine vo_pick_t rfl rfl ?_
              refine vo_move_pv rfl rfl ?_
              refine vo_guard_off rfl rfl rfl rfl rfl ?_
              refine vo_guard_off rfl rfl rfl rfl rfl ?_
              refine vo_guard_off rfl rfl rfl rfl rfl ?_
              refine vo_guard_off rfl rfl rfl rfl rfl ?_
              refine vo_pick_t rfl rfl ?_
              refine vo_nil ?_
              refine hK21 _ ?_
              refine vc_cond_t rfl ?_
              refine vc_seq fun K22 hK22 => ?_
              refine vc_region ?_
              refine vo_assign_pv rfl rfl ?_
              refine vo_nil ?_
              refine hK22 _ ?_
              refine vc_ret ?_
              change retQ _ _ _ _ _
              refine retQ_sel [] (srows := []) (.inr rfl) hC rfl rfl rfl rfl rfl rfl rfl ?_
              refine ⟨?_, rfl⟩
              refine (congrArg (fun b => [bo b]) (?_ : _ = _) : [bo _] = [bo _])
              first
                | (refine bF fun h0 => ?_
                   have h1 := h0.2.1; have h2 := h0.2.2.1
                   first
                     | omega
                     | exact absurd h0.1 (by assumption)
                     | exact absurd h0.1.1 (by assumption)
                     | exact absurd h0.1.2 (by assumption)
                     | exact absurd (h0.2.2.2.1 _ (getD_mem (show k < w.attrs.length by omega) [])) (by assumption)
                     | (have h3 := h0.2.2.2.2 _ (getD_mem (show k < w.objs.length by omega) ⟨0, []⟩)
                        unfold okObj at h3
                        have h4 := h3.2.1
                        first
                          | omega
                          | exact absurd h3.2.2 (by assumption)
                          | exact absurd h3.2.2.2 (by assumption)
                          | exact absurd (⟨by omega, h3.2.2.1⟩ : (w.objs.getD k ⟨0, []⟩).pairs.length ≤ 40 ∧ (nms (w.objs.getD k ⟨0, []⟩).pairs).Nodup) (by assumption)))
                | (rw [take_all (by omega)] at hf2
                   rw [take_all (by omega)] at hf
                   exact bT ⟨by first | assumption | exact ⟨hg1, hg2⟩, by omega, by omega, hf, hf2⟩)
            · try simp only [zq0, zq1, zq2, zq3, zq4, zq5, zq6, zq7, zq8, zq9, zqa, zqb, zqc, zqd, zqe, zqf] at hg7
              refine vo_guard_on rfl rfl rfl ?_
              refine vo_fieldAddr_ptr rfl rfl Tryz.underlying57 rfl inf55 (by rw [sz55]; decide) ?_
              try simp only [Nat.zero_add]
              refine vo_guard_on rfl rfl rfl ?_
              refine vo_load_var rfl rfl rfl Tryz.underlying55 rfl rfl ?_
              refine vo_guard_on rfl rfl rfl ?_
              refine vo_len_pv rfl rfl Tryz.underlying55 ?_
              refine vo_guard_on rfl rfl rfl ?_
              refine vo_binI rfl rfl rfl rfl trivial ?_
              refine vo_pick_f rfl rfl ?_
              refine vo_move_pv rfl rfl ?_
              refine vo_split 58 rfl (fun hg8 => ?_) (fun hg8 => ?_)
              · try simp only [zq0, zq1, zq2, zq3, zq4, zq5, zq6, zq7, zq8, zq9, zqa, zqb, zqc, zqd, zqe, zqf] at hg8
                refine vo_guard_off rfl rfl rfl rfl rfl ?_
                refine vo_guard_off rfl rfl rfl rfl rfl ?_
                refine vo_guard_off rfl rfl rfl rfl rfl ?_
                refine vo_guard_off rfl rfl rfl rfl rfl ?_
                refine vo_pick_t rfl rfl ?_
                refine vo_nil ?_
                refine hK21 _ ?_
                refine vc_cond_t rfl ?_
                refine vc_seq fun K23 hK23 => ?_
                refine vc_region ?_
                refine vo_assign_pv rfl rfl ?_
                refine vo_nil ?_
                refine hK23 _ ?_
                refine vc_ret ?_
                change retQ _ _ _ _ _
                refine retQ_sel [] (srows := []) (.inr rfl) hC rfl rfl rfl rfl rfl rfl rfl ?_
                refine ⟨?_, rfl⟩
                refine (congrArg (fun b => [bo b]) (?_ : _ = _) : [bo _] = [bo _])
                first
                  | (refine bF fun h0 => ?_
                     have h1 := h0.2.1; have h2 := h0.2.2.1
                     first
                       | omega
                       | exact absurd h0.1 (by assumption)
                       | exact absurd h0.1.1 (by assumption)
                       | exact absurd h0.1.2 (by assumption)
                       | exact absurd (h0.2.2.2.1 _ (getD_mem (show k < w.attrs.length by omega) [])) (by assumption)
                       | (have h3 := h0.2.2.2.2 _ (getD_mem (show k < w.objs.length by omega) ⟨0, []⟩)
                          unfold okObj at h3
                          have h4 := h3.2.1
                          first
                            | omega
                            | exact absurd h3.2.2 (by assumption)
                            | exact absurd h3.2.2.2 (by assumption)
                            | exact absurd (⟨by omega, h3.2.2.1⟩ : (w.objs.getD k ⟨0, []⟩).pairs.length ≤ 40 ∧ (nms (w.objs.getD k ⟨0, []⟩).pairs).Nodup) (by assumption)))
                  | (rw [take_all (by omega)] at hf2
                     rw [take_all (by omega)] at hf
                     exact bT ⟨by first | assumption | exact ⟨hg1, hg2⟩, by omega, by omega, hf, hf2⟩)
              · try simp only [zq0, zq1, zq2, zq3, zq4, zq5, zq6, zq7, zq8, zq9, zqa, zqb, zqc, zqd, zqe, zqf] at hg8
                refine vo_guard_on rfl rfl rfl ?_
                refine vo_fieldAddr_ptr rfl rfl Tryz.underlying57 rfl inf55 (by rw [sz55]; decide) ?_
                try simp only [Nat.zero_add]
                refine vo_guard_on rfl rfl rfl ?_
                refine vo_load_var rfl rfl rfl Tryz.underlying55 rfl rfl ?_
                refine vo_guard_on rfl rfl rfl ?_
                refine vo_call0 Tryz.func71 rfl rfl rfl rfl (areOwn_sat (by omega)) ?_
                rintro _ _ ⟨rfl, rfl⟩
                refine ⟨rfl, rfl, .inl rfl, ?_⟩
                refine vo_stM ?_
                refine vo_guard_on rfl rfl rfl ?_
                refine vo_not rfl rfl ?_
                refine vo_pick_f rfl rfl ?_
                refine vo_nil ?_
                refine hK21 _ ?_
                refine vc_cond rfl (fun hc9 => ?_) (fun hc9 => ?_)
                · try simp only [zq0, zq1, zq2, zq3, zq4, zq5, zq6, zq7, zq8, zq9, zqa, zqb, zqc, zqd, zqe, zqf] at hc9
                  refine vc_seq fun K24 hK24 => ?_
                  refine vc_region ?_
                  refine vo_assign_pv rfl rfl ?_
                  refine vo_nil ?_
                  refine hK24 _ ?_
                  refine vc_ret ?_
                  change retQ _ _ _ _ _
                  refine retQ_sel [] (srows := []) (.inr rfl) hC rfl rfl rfl rfl rfl rfl rfl ?_
                  refine ⟨?_, rfl⟩
                  refine (congrArg (fun b => [bo b]) (?_ : _ = _) : [bo _] = [bo _])
                  first
                    | (refine bF fun h0 => ?_
                       have h1 := h0.2.1; have h2 := h0.2.2.1
                       first
                         | omega
                         | exact absurd h0.1 (by assumption)
                         | exact absurd h0.1.1 (by assumption)
                         | exact absurd h0.1.2 (by assumption)
                         | exact absurd (h0.2.2.2.1 _ (getD_mem (show k < w.attrs.length by omega) [])) (by assumption)
                         | (have h3 := h0.2.2.2.2 _ (getD_mem (show k < w.objs.length by omega) ⟨0, []⟩)
                            unfold okObj at h3
                            have h4 := h3.2.1
                            first
                              | omega
                              | exact absurd h3.2.2 (by assumption)
                              | exact absurd h3.2.2.2 (by assumption)
                              | exact absurd (⟨by omega, h3.2.2.1⟩ : (w.objs.getD k ⟨0, []⟩).pairs.length ≤ 40 ∧ (nms (w.objs.getD k ⟨0, []⟩).pairs).Nodup) (by assumption)))
                    | (rw [take_all (by omega)] at hf2
                       rw [take_all (by omega)] at hf
                       exact bT ⟨by first | assumption | exact ⟨hg1, hg2⟩, by omega, by omega, hf, hf2⟩)
                · try simp only [zq0, zq1, zq2, zq3, zq4, zq5, zq6, zq7, zq8, zq9, zqa, zqb, zqc, zqd, zqe, zqf] at hc9
                  refine vc_skip ?_
                  refine hK19 _ ?_
                  refine vc_region ?_
                  refine vo_binI rfl rfl rfl rfl sd ?_
                  refine vo_move_pv rfl rfl ?_
                  refine vo_nil ?_
                  change againE _ _ _ _ _ _ _ _ _ _
                  refine againE_mk rfl rfl rfl rfl rfl rfl ⟨_, ?_, k + 1, rfl, ?_, ?_, rfl, rfl⟩
                  · omega
                  · omega
                  · refine (all_take_succ (by omega) ⟨0, []⟩).2 ⟨hf2, ?_⟩
                    unfold okObj; exact ⟨by omega, by omega, by first | assumption | exact ⟨by first | assumption | exact (And.right ‹_ ∧ (nms _).Nodup›), by assumption⟩⟩
          · try simp only [zq0, zq1, zq2, zq3, zq4, zq5, zq6, zq7, zq8, zq9, zqa, zqb, zqc, zqd, zqe, zqf] at hc6
            refine vc_exit ?_
            refine hK15 _ ?_
            refine vc_seq fun K25 hK25 => ?_
            refine vc_region ?_
            refine vo_assign_pv rfl rfl ?_
            refine vo_nil ?_
            refine hK25 _ ?_
            refine vc_ret ?_
            change retQ _ _ _ _ _
            refine retQ_sel [] (srows := []) (.inr rfl) hC rfl rfl rfl rfl rfl rfl rfl ?_
            refine ⟨?_, rfl⟩
            refine (congrArg (fun b => [bo b]) (?_ : _ = _) : [bo _] = [bo _])
            first
              | (refine bF fun h0 => ?_
                 have h1 := h0.2.1; have h2 := h0.2.2.1
                 first
                   | omega
                   | exact absurd h0.1 (by assumption)
                   | exact absurd h0.1.1 (by assumption)
                   | exact absurd h0.1.2 (by assumption)
                   | exact absurd (h0.2.2.2.1 _ (getD_mem (show k < w.attrs.length by omega) [])) (by assumption)
                   | (have h3 := h0.2.2.2.2 _ (getD_mem (show k < w.objs.length by omega) ⟨0, []⟩)
                      unfold okObj at h3
                      have h4 := h3.2.1
                      first
                        | omega
                        | exact absurd h3.2.2 (by assumption)
                        | exact absurd h3.2.2.2 (by assumption)
                        | exact absurd (⟨by omega, h3.2.2.1⟩ : (w.objs.getD k ⟨0, []⟩).pairs.length ≤ 40 ∧ (nms (w.objs.getD k ⟨0, []⟩).pairs).Nodup) (by assumption)))
              | (rw [take_all (by omega)] at hf2
                 rw [take_all (by omega)] at hf
                 exact bT ⟨by first | assumption | exact ⟨hg1, hg2⟩, by omega, by omega, hf, hf2⟩)


theorem specValidWorld0_sat {w : WorldM}  (hw : SW w) : SatAt Tryz.prog 78 [.pv false (worldP w)] [] (fun res rows => res = [bo (decide (VWorld w))] ∧ rows = []) := by
  obtain ⟨⟨b1, b2⟩, ⟨a1, a2⟩, o1, o2⟩ := hw
  refine sat_entry_G (rs := [(2, none)]) Tryz.func78 rfl rfl (Nat.le_of_ble_eq_true rfl) (Nat.le_of_ble_eq_true rfl) (resTs1 trivial) fun C hC => ?_
  rw [Tryz.ntmps78]
  replace hC : C.nb = 0 := hC
  refine vc_seq fun K1 hK1 => ?_
  refine vc_region ?_
  refine vo_box rfl rfl ?_
  refine vo_stM ?_
  refine vo_assign_pv rfl rfl ?_
  refine vo_nil ?_
  refine hK1 _ ?_
  refine vc_seq fun K2 hK2 => ?_
  refine vc_seq fun K3 hK3 => ?_
  refine vc_region ?_
  refine vo_fieldAddr_ptr rfl rfl Tryz.underlying33 rfl inf22 (by rw [sz22]; decide) ?_
  try simp only [Nat.zero_add]
  refine vo_load_var rfl rfl rfl Tryz.underlying22 rfl rfl ?_
  refine vo_call0 Tryz.func112 rfl rfl rfl rfl (specValidBases0_sat (by omega) (fun l hl => by have := b2 l hl; omega)) ?_
  rintro _ _ ⟨rfl, rfl⟩
  refine ⟨rfl, rfl, .inl rfl, ?_⟩
  refine vo_stM ?_
  refine vo_not rfl rfl ?_
  refine vo_move_pv rfl rfl ?_
  refine vo_split 10 rfl (fun hg1 => ?_) (fun hg1 => ?_)
  · try simp only [zq0, zq1, zq2, zq3, zq4, zq5, zq6, zq7, zq8, zq9, zqa, zqb, zqc, zqd, zqe, zqf] at hg1
    refine vo_guard_off rfl rfl rfl rfl rfl ?_
    refine vo_guard_off rfl rfl rfl rfl rfl ?_
    refine vo_guard_off rfl rfl rfl rfl rfl ?_
    refine vo_guard_off rfl rfl rfl rfl rfl ?_
    refine vo_pick_t rfl rfl ?_
    refine vo_move_pv rfl rfl ?_
    refine vo_guard_off rfl rfl rfl rfl rfl ?_
    refine vo_guard_off rfl rfl rfl rfl rfl ?_
    refine vo_guard_off rfl rfl rfl rfl rfl ?_
    refine vo_guard_off rfl rfl rfl rfl rfl ?_
    refine vo_guard_off rfl rfl rfl rfl rfl ?_
    refine vo_guard_off rfl rfl rfl rfl rfl ?_
    refine vo_guard_off rfl rfl rfl rfl rfl ?_
    refine vo_pick_t rfl rfl ?_
    refine vo_move_pv rfl rfl ?_
    refine vo_guard_off rfl rfl rfl rfl rfl ?_
    refine vo_guard_off rfl rfl rfl rfl rfl ?_
    refine vo_guard_off rfl rfl rfl rfl rfl ?_
    refine vo_guard_off rfl rfl rfl rfl rfl ?_
    refine vo_pick_t rfl rfl ?_
    refine vo_nil ?_
    refine hK3 _ ?_
    refine vc_cond_t rfl ?_
    refine vc_seq fun K4 hK4 => ?_
    refine vc_region ?_
    refine vo_assign_pv rfl rfl ?_
    refine vo_nil ?_
    refine hK4 _ ?_
    refine vc_ret ?_
    change retQ _ _ _ _ _
    refine retQ_sel [] (srows := []) (.inr rfl) hC rfl rfl rfl rfl rfl rfl rfl ?_
    refine ⟨?_, rfl⟩
    refine (congrArg (fun b => [bo b]) (?_ : _ = _) : [bo _] = [bo _])
    first
      | (refine bF fun h0 => ?_
         have h1 := h0.2.1; have h2 := h0.2.2.1
         first
           | omega
           | exact absurd h0.1 (by assumption)
           | exact absurd h0.1.1 (by assumption)
           | exact absurd h0.1.2 (by assumption)
           | exact absurd (h0.2.2.2.1 _ (getD_mem (show k < w.attrs.length by omega) [])) (by assumption)
           | (have h3 := h0.2.2.2.2 _ (getD_mem (show k < w.objs.length by omega) ⟨0, []⟩)
              unfold okObj at h3
              have h4 := h3.2.1
              first
                | omega
                | exact absurd h3.2.2 (by assumption)
                | exact absurd h3.2.2.2 (by assumption)
                | exact absurd (⟨by omega, h3.2.2.1⟩ : (w.objs.getD k ⟨0, []⟩).pairs.length ≤ 40 ∧ (nms (w.objs.getD k ⟨0, []⟩).pairs).Nodup) (by assumption)))
      | (rw [take_all (by omega)] at hf2
         rw [take_all (by omega)] at hf
         exact bT ⟨by first | assumption | exact ⟨hg1, hg2⟩, by omega, by omega, hf, hf2⟩)
  · try simp only [zq0, zq1, zq2, zq3, zq4, zq5, zq6, zq7, zq8, zq9, zqa, zqb, zqc, zqd, zqe, zqf] at hg1
    refine vo_guard_on rfl rfl rfl ?_
    refine vo_fieldAddr_ptr rfl rfl Tryz.underlying33 rfl inf22 (by rw [sz22]; decide) ?_
    try simp only [Nat.zero_add]
    refine vo_guard_on rfl rfl rfl ?_
    refine vo_load_var rfl rfl rfl Tryz.underlying22 rfl rfl ?_
    refine vo_guard_on rfl rfl rfl ?_
    refine vo_call0 Tryz.func113 rfl rfl rfl rfl (allOrders_sat (by omega) (fun l hl => by have := b2 l hl; omega) hg1) ?_
    rintro _ _ ⟨rfl, rfl⟩
    refine ⟨rfl, rfl, .inl rfl, ?_⟩
    refine vo_stM ?_
    refine vo_guard_on rfl rfl rfl ?_
    refine vo_not rfl rfl ?_
    refine vo_pick_f rfl rfl ?_
    refine vo_move_pv rfl rfl ?_
    refine vo_split 16 rfl (fun hg2 => ?_) (fun hg2 => ?_)
    · try simp only [zq0, zq1, zq2, zq3, zq4, zq5, zq6, zq7, zq8, zq9, zqa, zqb, zqc, zqd, zqe, zqf] at hg2
      refine vo_guard_off rfl rfl rfl rfl rfl ?_
      refine vo_guard_off rfl rfl rfl rfl rfl ?_
      refine vo_guard_off rfl rfl rfl rfl rfl ?_
      refine vo_guard_off rfl rfl rfl rfl rfl ?_
      refine vo_guard_off rfl rfl rfl rfl rfl ?_
      refine vo_guard_off rfl rfl rfl rfl rfl ?_
      refine vo_guard_off rfl rfl rfl rfl rfl ?_
      refine vo_pick_t rfl rfl ?_
      refine vo_move_pv rfl rfl ?_
      refine vo_guard_off rfl rfl rfl rfl rfl ?_
      refine vo_guard_off rfl rfl rfl rfl rfl ?_
      refine vo_guard_off rfl rfl rfl rfl rfl ?_
      refine vo_guard_off rfl rfl rfl rfl rfl ?_
      refine vo_pick_t rfl rfl ?_
      refine vo_nil ?_
      refine hK3 _ ?_
      refine vc_cond_t rfl ?_
      refine vc_seq fun K5 hK5 => ?_
      refine vc_region ?_
      refine vo_assign_pv rfl rfl ?_
      refine vo_nil ?_
      refine hK5 _ ?_
      refine vc_ret ?_
      change retQ _ _ _ _ _
      refine retQ_sel [] (srows := []) (.inr rfl) hC rfl rfl rfl rfl rfl rfl rfl ?_
      refine ⟨?_, rfl⟩
      refine (congrArg (fun b => [bo b]) (?_ : _ = _) : [bo _] = [bo _])
      first
        | (refine bF fun h0 => ?_
           have h1 := h0.2.1; have h2 := h0.2.2.1
           first
             | omega
             | exact absurd h0.1 (by assumption)
             | exact absurd h0.1.1 (by assumption)
             | exact absurd h0.1.2 (by assumption)
             | exact absurd (h0.2.2.2.1 _ (getD_mem (show k < w.attrs.length by omega) [])) (by assumption)
             | (have h3 := h0.2.2.2.2 _ (getD_mem (show k < w.objs.length by omega) ⟨0, []⟩)
                unfold okObj at h3
                have h4 := h3.2.1
                first
                  | omega
                  | exact absurd h3.2.2 (by assumption)
                  | exact absurd h3.2.2.2 (by assumption)
                  | exact absurd (⟨by omega, h3.2.2.1⟩ : (w.objs.getD k ⟨0, []⟩).pairs.length ≤ 40 ∧ (nms (w.objs.getD k ⟨0, []⟩).pairs).Nodup) (by assumption)))
        | (rw [take_all (by omega)] at hf2
           rw [take_all (by omega)] at hf
           exact bT ⟨by first | assumption | exact ⟨hg1, hg2⟩, by omega, by omega, hf, hf2⟩)
    · try simp only [zq0, zq1, zq2, zq3, zq4, zq5, zq6, zq7, zq8, zq9, zqa, zqb, zqc, zqd, zqe, zqf] at hg2
      refine vo_guard_on rfl rfl rfl ?_
      refine vo_fieldAddr_ptr rfl rfl Tryz.underlying33 rfl inf30 (by rw [sz30]; decide) ?_
      try simp only [Nat.zero_add]
      refine vo_guard_on rfl rfl rfl ?_
      refine vo_load_var rfl rfl rfl Tryz.underlying30 rfl rfl ?_
      refine vo_guard_on rfl rfl rfl ?_
      refine vo_len_pv rfl rfl Tryz.underlying30 ?_
      refine vo_guard_on rfl rfl rfl ?_
      refine vo_fieldAddr_ptr rfl rfl Tryz.underlying33 rfl inf22 (by rw [sz22]; decide) ?_
      try simp only [Nat.zero_add]
      refine vo_guard_on rfl rfl rfl ?_
      refine vo_load_var rfl rfl rfl Tryz.underlying22 rfl rfl ?_
      refine vo_guard_on rfl rfl rfl ?_
      refine vo_len_pv rfl rfl Tryz.underlying22 ?_
      refine vo_guard_on rfl rfl rfl ?_
      refine vo_binI rfl rfl rfl rfl trivial ?_
      refine vo_pick_f rfl rfl ?_
      refine vo_move_pv rfl rfl ?_
      refine vo_split 25 rfl (fun hg3 => ?_) (fun hg3 => ?_)
      · try simp only [zq0, zq1, zq2, zq3, zq4, zq5, zq6, zq7, zq8, zq9, zqa, zqb, zqc, zqd, zqe, zqf] at hg3
        refine vo_guard_off rfl rfl rfl rfl rfl ?_
        refine vo_guard_off rfl rfl rfl rfl rfl ?_
        refine vo_guard_off rfl rfl rfl rfl rfl ?_
        refine vo_guard_off rfl rfl rfl rfl rfl ?_
        refine vo_pick_t rfl rfl ?_
        refine vo_nil ?_
        refine hK3 _ ?_
        refine vc_cond_t rfl ?_
        refine vc_seq fun K6 hK6 => ?_
        refine vc_region ?_
        refine vo_assign_pv rfl rfl ?_
        refine vo_nil ?_
        refine hK6 _ ?_
        refine vc_ret ?_
        change retQ _ _ _ _ _
        refine retQ_sel [] (srows := []) (.inr rfl) hC rfl rfl rfl rfl rfl rfl rfl ?_
        refine ⟨?_, rfl⟩
        refine (congrArg (fun b => [bo b]) (?_ : _ = _) : [bo _] = [bo _])
        first
          | (refine bF fun h0 => ?_
             have h1 := h0.2.1; have h2 := h0.2.2.1
             first
               | omega
               | exact absurd h0.1 (by assumption)
               | exact absurd h0.1.1 (by assumption)
               | exact absurd h0.1.2 (by assumption)
               | exact absurd (h0.2.2.2.1 _ (getD_mem (show k < w.attrs.length by omega) [])) (by assumption)
               | (have h3 := h0.2.2.2.2 _ (getD_mem (show k < w.objs.length by omega) ⟨0, []⟩)
                  unfold okObj at h3
                  have h4 := h3.2.1
                  first
                    | omega
                    | exact absurd h3.2.2 (by assumption)
                    | exact absurd h3.2.2.2 (by assumption)
                    | exact absurd (⟨by omega, h3.2.2.1⟩ : (w.objs.getD k ⟨0, []⟩).pairs.length ≤ 40 ∧ (nms (w.objs.getD k ⟨0, []⟩).pairs).Nodup) (by assumption)))
          | (rw [take_all (by omega)] at hf2
             rw [take_all (by omega)] at hf
             exact bT ⟨by first | assumption | exact ⟨hg1, hg2⟩, by omega, by omega, hf, hf2⟩)
      · try simp only [zq0, zq1, zq2, zq3, zq4, zq5, zq6, zq7, zq8, zq9, zqa, zqb, zqc, zqd, zqe, zqf] at hg3
        refine vo_guard_on rfl rfl rfl ?_
        refine vo_fieldAddr_ptr rfl rfl Tryz.underlying33 rfl inf31 (by rw [sz31]; decide) ?_
        try simp only [Nat.zero_add]
        refine vo_guard_on rfl rfl rfl ?_
        refine vo_load_var rfl rfl rfl Tryz.underlying31 rfl rfl ?_
        refine vo_guard_on rfl rfl rfl ?_
        refine vo_len_pv rfl rfl Tryz.underlying31 ?_
        refine vo_guard_on rfl rfl rfl ?_
        refine vo_binI rfl rfl rfl rfl trivial ?_
        refine vo_pick_f rfl rfl ?_
        refine vo_nil ?_
        refine hK3 _ ?_
        refine vc_cond rfl (fun hc4 => ?_) (fun hc4 => ?_)
        · try simp only [zq0, zq1, zq2, zq3, zq4, zq5, zq6, zq7, zq8, zq9, zqa, zqb, zqc, zqd, zqe, zqf] at hc4
          refine vc_seq fun K7 hK7 => ?_
          refine vc_region ?_
          refine vo_assign_pv rfl rfl ?_
          refine vo_nil ?_
          refine hK7 _ ?_
          refine vc_ret ?_
          change retQ _ _ _ _ _
          refine retQ_sel [] (srows := []) (.inr rfl) hC rfl rfl rfl rfl rfl rfl rfl ?_
          refine ⟨?_, rfl⟩
          refine (congrArg (fun b => [bo b]) (?_ : _ = _) : [bo _] = [bo _])
          first
            | (refine bF fun h0 => ?_
               have h1 := h0.2.1; have h2 := h0.2.2.1
               first
                 | omega
                 | exact absurd h0.1 (by assumption)
                 | exact absurd h0.1.1 (by assumption)
                 | exact absurd h0.1.2 (by assumption)
                 | exact absurd (h0.2.2.2.1 _ (getD_mem (show k < w.attrs.length by omega) [])) (by assumption)
                 | (have h3 := h0.2.2.2.2 _ (getD_mem (show k < w.objs.length by omega) ⟨0, []⟩)
                    unfold okObj at h3
                    have h4 := h3.2.1
                    first
                      | omega
                      | exact absurd h3.2.2 (by assumption)
                      | exact absurd h3.2.2.2 (by assumption)
                      | exact absurd (⟨by omega, h3.2.2.1⟩ : (w.objs.getD k ⟨0, []⟩).pairs.length ≤ 40 ∧ (nms (w.objs.getD k ⟨0, []⟩).pairs).Nodup) (by assumption)))
            | (rw [take_all (by omega)] at hf2
               rw [take_all (by omega)] at hf
               exact bT ⟨by first | assumption | exact ⟨hg1, hg2⟩, by omega, by omega, hf, hf2⟩)
        · try simp only [zq0, zq1, zq2, zq3, zq4, zq5, zq6, zq7, zq8, zq9, zqa, zqb, zqc, zqd, zqe, zqf] at hc4
          refine vc_skip ?_
          refine hK2 _ ?_
          refine vc_seq fun K8 hK8 => ?_
          refine vc_seq fun K9 hK9 => ?_
          refine vc_region ?_
          refine vo_assign_pv rfl rfl ?_
          refine vo_nil ?_
          refine hK9 _ ?_
          refine vc_block ?_
          refine vc_stM ?_
          refine vc_loopE [1] [3] [] _ _ (fun mz vs rs => ∃ (k : Nat), mz = w.attrs.length - k ∧ (k ≤ w.attrs.length) ∧ (∀ l ∈ w.attrs.take k, AAttrs l) ∧ vs = [i64 k] ∧ rs = []) (w.attrs.length) rfl rfl (le_len hC rfl) ⟨rfl, rfl, rfl⟩ rfl ⟨0, rfl, Nat.zero_le _, (by simp), rfl, rfl⟩ ?_
          rintro mz vs rs - - ⟨k, rfl, hk, hf, rfl, rfl⟩
          refine vc_stM ?_
          have hak := (getD_all (p := fun l : List AttrM => l.length ≤ 2000000) a2 [] (by simp) k)
          refine vc_seq fun K10 hK10 => ?_
          refine vc_seq fun K11 hK11 => ?_
          refine vc_region ?_
          refine vo_move_pv rfl rfl ?_
          refine vo_fieldAddr_ptr rfl rfl Tryz.underlying33 rfl inf30 (by rw [sz30]; decide) ?_
          try simp only [Nat.zero_add]
          refine vo_load_var rfl rfl rfl Tryz.underlying30 rfl rfl ?_
          refine vo_len_pv rfl rfl Tryz.underlying30 ?_
          refine vo_binI rfl rfl rfl rfl trivial ?_
          refine vo_nil ?_
          refine hK11 _ ?_
          refine vc_cond rfl (fun hc5 => ?_) (fun hc5 => ?_)
          · try simp only [zq0, zq1, zq2, zq3, zq4, zq5, zq6, zq7, zq8, zq9, zqa, zqb, zqc, zqd, zqe, zqf] at hc5
            refine vc_skip ?_
            refine hK10 _ ?_
            refine vc_seq fun K12 hK12 => ?_
            refine vc_block ?_
            refine vc_seq fun K13 hK13 => ?_
            refine vc_region ?_
            refine vo_fieldAddr_ptr rfl rfl Tryz.underlying33 rfl inf30 (by rw [sz30]; decide) ?_
            try simp only [Nat.zero_add]
            refine vo_load_var rfl rfl rfl Tryz.underlying30 rfl rfl ?_
            refine vo_move_pv rfl rfl ?_
            refine vo_index_pv (.sl none 3 []) rfl rfl rfl E30.und inf97 sz97 sd sd ?_
            simp only [Int.toNat_natCast, Int.toNat_zero, getD_ints, getD_intss, getD_bools, getD_bytes, PV.cells, getD_ops, getD_pairs, getD_insts, getD_attrs, getD_attrss, getD_objs]
            refine vo_load_adr rfl rfl Tryz.underlying97 rfl ?_
            refine vo_call0 Tryz.func114 rfl rfl rfl rfl (validAttrs_sat (by omega)) ?_
            rintro _ _ ⟨rfl, rfl⟩
            refine ⟨rfl, rfl, .inl rfl, ?_⟩
            refine vo_stM ?_
            refine vo_not rfl rfl ?_
            refine vo_nil ?_
            refine hK13 _ ?_
            refine vc_cond rfl (fun hc6 => ?_) (fun hc6 => ?_)
            · try simp only [zq0, zq1, zq2, zq3, zq4, zq5, zq6, zq7, zq8, zq9, zqa, zqb, zqc, zqd, zqe, zqf] at hc6
              refine vc_seq fun K14 hK14 => ?_
              refine vc_region ?_
              refine vo_assign_pv rfl rfl ?_
              refine vo_nil ?_
              refine hK14 _ ?_
              refine vc_ret ?_
              change retQ _ _ _ _ _
              refine retQ_sel [] (srows := []) (.inr rfl) hC rfl rfl rfl rfl rfl rfl rfl ?_
              refine ⟨?_, rfl⟩
              refine (congrArg (fun b => [bo b]) (?_ : _ = _) : [bo _] = [bo _])
              first
                | (refine bF fun h0 => ?_
                   have h1 := h0.2.1; have h2 := h0.2.2.1
                   first
                     | omega
                     | exact absurd h0.1 (by assumption)
                     | exact absurd h0.1.1 (by assumption)
                     | exact absurd h0.1.2 (by assumption)
                     | exact absurd (h0.2.2.2.1 _ (getD_mem (show k < w.attrs.length by omega) [])) (by assumption)
                     | (have h3 := h0.2.2.2.2 _ (getD_mem (show k < w.objs.length by omega) ⟨0, []⟩)
                        unfold okObj at h3
                        have h4 := h3.2.1
                        first
                          | omega
                          | exact absurd h3.2.2 (by assumption)
                          | exact absurd h3.2.2.2 (by assumption)
                          | exact absurd (⟨by omega, h3.2.2.1⟩ : (w.objs.getD k ⟨0, []⟩).pairs.length ≤ 40 ∧ (nms (w.objs.getD k ⟨0, []⟩).pairs).Nodup) (by assumption)))
                | (rw [take_all (by omega)] at hf2
                   rw [take_all (by omega)] at hf
                   exact bT ⟨by first | assumption | exact ⟨hg1, hg2⟩, by omega, by omega, hf, hf2⟩)
            · try simp only [zq0, zq1, zq2, zq3, zq4, zq5, zq6, zq7, zq8, zq9, zqa, zqb, zqc, zqd, zqe, zqf] at hc6
              refine vc_skip ?_
              refine hK12 _ ?_
              refine vc_region ?_
              refine vo_move_pv rfl rfl ?_
              refine vo_binI rfl rfl rfl rfl sd ?_
              refine vo_assign_pv rfl rfl ?_
              refine vo_nil ?_
              change againE _ _ _ _ _ _ _ _ _ _
              refine againE_mk rfl rfl rfl rfl rfl rfl ⟨_, ?_, k + 1, rfl, ?_, ?_, rfl, rfl⟩
              · omega
              · omega
              · exact (all_take_succ (by omega) []).2 ⟨hf, by assumption⟩
          · try simp only [zq0, zq1, zq2, zq3, zq4, zq5, zq6, zq7, zq8, zq9, zqa, zqb, zqc, zqd, zqe, zqf] at hc5
            refine vc_exit ?_
            refine hK8 _ ?_
            refine vc_seq fun K15 hK15 => ?_
            refine vc_seq fun K16 hK16 => ?_
            refine vc_region ?_
            refine vo_assign_pv rfl rfl ?_
            refine vo_nil ?_
            refine hK16 _ ?_
            refine vc_block ?_
            refine vc_stM ?_
            refine vc_loopE [1] [4] [] _ _ (fun mz vs rs => ∃ (k : Nat), mz = w.objs.length - k ∧ (k ≤ w.objs.length) ∧ (∀ o ∈ w.objs.take k, okObj w.bases.length o) ∧ vs = [i64 k] ∧ rs = []) (w.objs.length) rfl rfl (le_len hC rfl) ⟨rfl, rfl, rfl⟩ rfl ⟨0, rfl, Nat.zero_le _, (by simp), rfl, rfl⟩ ?_
            rintro mz vs rs - - ⟨k, rfl, hk, hf2, rfl, rfl⟩
            refine vc_stM ?_
            have hok := getD_all o2 ⟨0, []⟩ SO_zero k
            unfold SO at hok
            refine vc_seq fun K17 hK17 => ?_
            refine vc_seq fun K18 hK18 => ?_
            refine vc_region ?_
            refine vo_move_pv rfl rfl ?_
            refine vo_fieldAddr_ptr rfl rfl Tryz.underlying33 rfl inf31 (by rw [sz31]; decide) ?_
            try simp only [Nat.zero_add]
            refine vo_load_var rfl rfl rfl Tryz.underlying31 rfl rfl ?_
            refine vo_len_pv rfl rfl Tryz.underlying31 ?_
            refine vo_binI rfl rfl rfl rfl trivial ?_
            refine vo_nil ?_
            refine hK18 _ ?_
            refine vc_cond rfl (fun hc7 => ?_) (fun hc7 => ?_)
            · try simp only [zq0, zq1, zq2, zq3, zq4, zq5, zq6, zq7, zq8, zq9, zqa, zqb, zqc, zqd, zqe, zqf] at hc7
              refine vc_skip ?_
              refine hK17 _ ?_
              refine vc_seq fun K19 hK19 => ?_
              refine vc_block ?_
              refine vc_seq fun K20 hK20 => ?_
              refine vc_region ?_
              refine vo_fieldAddr_ptr rfl rfl Tryz.underlying33 rfl inf31 (by rw [sz31]; decide) ?_
              try simp only [Nat.zero_add]
              refine vo_load_var rfl rfl rfl Tryz.underlying31 rfl rfl ?_
              refine vo_move_pv rfl rfl ?_
              refine vo_index_pv (.agg [(.int .i64 0), (.sl none 2 [])]) rfl rfl rfl E31.und inf57 sz57 sd sd ?_
              simp only [Int.toNat_natCast, Int.toNat_zero, getD_ints, getD_intss, getD_bools, getD_bytes, PV.cells, getD_ops, getD_pairs, getD_insts, getD_attrs, getD_attrss, getD_objs]
              refine vo_load_adrS rfl rfl Tryz.underlying57 rfl inf57 sz57 rfl ?_
              refine vo_st (by (try simp only [St.put, PV.cells, PV.scal, List.drop_succ_cons, List.drop_zero, List.take_succ_cons, List.take_zero, List.map_cons, List.map_nil, Bool.or_true, Bool.or_false, Bool.false_or, Bool.true_or, opP, pairP, instP, heapP]); exact eq_refl _) ?_
              refine vo_alloc Z57 rfl ?_
              refine vo_stM ?_
              refine vo_store_varS rfl rfl rfl inf57 sz57 rfl ?_
              refine vo_stM ?_
              refine vo_nil ?_
              refine hK20 _ ?_
              refine vc_seq fun K21 hK21 => ?_
              refine vc_region ?_
              refine vo_fieldAddr_ptr rfl rfl Tryz.underlying57 rfl inf3 (by rw [sz3]; decide) ?_
              try simp only [Nat.zero_add]
              refine vo_load_var rfl rfl rfl Tryz.underlying3 rfl rfl ?_
              refine vo_fieldAddr_ptr rfl rfl Tryz.underlying33 rfl inf22 (by rw [sz22]; decide) ?_
              try simp only [Nat.zero_add]
              refine vo_load_var rfl rfl rfl Tryz.underlying22 rfl rfl ?_
              refine vo_len_pv rfl rfl Tryz.underlying22 ?_
              refine vo_binI rfl rfl rfl rfl sd ?_
              refine vo_call0 Tryz.func47 rfl rfl rfl rfl inRange_sat ?_
              rintro _ _ ⟨rfl, rfl⟩
              refine ⟨rfl, rfl, .inl rfl, ?_⟩
              refine vo_stM ?_
              refine vo_not rfl rfl ?_
              refine vo_move_pv rfl rfl ?_
              refine vo_split 65 rfl (fun hg8 => ?_) (fun hg8 => ?_)
              · try simp only [zq0, zq1, zq2, zq3, zq4, zq5, zq6, zq7, zq8, zq9, zqa, zqb, zqc, zqd, zqe, zqf] at hg8
                refine vo_guard_off rfl rfl rfl rfl rfl ?_
                refine vo_guard_off rfl rfl rfl rfl rfl ?_
                refine vo_guard_off rfl rfl rfl rfl rfl ?_
                refine vo_guard_off rfl rfl rfl rfl rfl ?_
                refine vo_pick_t rfl rfl ?_
                refine vo_move_pv rfl rfl ?_
                refine vo_guard_off rfl rfl rfl rfl rfl ?_
                refine vo_guard_off rfl rfl rfl rfl rfl ?_
                refine vo_guard_off rfl rfl rfl rfl rfl ?_
                refine vo_guard_off rfl rfl rfl rfl rfl ?_
                refine vo_pick_t rfl rfl ?_
                refine vo_move_pv rfl rfl ?_
                refine vo_guard_off rfl rfl rfl rfl rfl ?_
                refine vo_guard_off rfl rfl rfl rfl rfl ?_
                refine vo_guard_off rfl rfl rfl rfl rfl ?_
                refine vo_guard_off rfl rfl rfl rfl rfl ?_
                refine vo_pick_t rfl rfl ?_
                refine vo_nil ?_
                refine hK21 _ ?_
                refine vc_cond_t rfl ?_
                refine vc_seq fun K22 hK22 => ?_
                refine vc_region ?_
                refine vo_assign_pv rfl rfl ?_
                refine vo_nil ?_
                refine hK22 _ ?_
                refine vc_ret ?_
                change retQ _ _ _ _ _
                refine retQ_sel [] (srows := []) (.inr rfl) hC rfl rfl rfl rfl rfl rfl rfl ?_
                refine ⟨?_, rfl⟩
                refine (congrArg (fun b => [bo b]) (?_ : _ = _) : [bo _] = [bo _])
                first
                  | (refine bF fun h0 => ?_
                     have h1 := h0.2.1; have h2 := h0.2.2.1
                     first
                       | omega
                       | exact absurd h0.1 (by assumption)
                       | exact absurd h0.1.1 (by assumption)
                       | exact absurd h0.1.2 (by assumption)
                       | exact absurd (h0.2.2.2.1 _ (getD_mem (show k < w.attrs.length by omega) [])) (by assumption)
                       | (have h3 := h0.2.2.2.2 _ (getD_mem (show k < w.objs.length by omega) ⟨0, []⟩)
                          unfold okObj at h3
                          have h4 := h3.2.1
                          first
                            | omega
                            | exact absurd h3.2.2 (by assumption)
                            | exact absurd h3.2.2.2 (by assumption)
                            | exact absurd (⟨by omega, h3.2.2.1⟩ : (w.objs.getD k ⟨0, []⟩).pairs.length ≤ 40 ∧ (nms (w.objs.getD k ⟨0, []⟩).pairs).Nodup) (by assumption)))
                  | (rw [take_all (by omega)] at hf2
                     rw [take_all (by omega)] at hf
                     exact bT ⟨by first | assumption | exact ⟨hg1, hg2⟩, by omega, by omega, hf, hf2⟩)
              · try simp only [zq0, zq1, zq2, zq3, zq4, zq5, zq6, zq7, zq8, zq9, zqa, zqb, zqc, zqd, zqe, zqf] at hg8
                refine vo_guard_on rfl rfl rfl ?_
                refine vo_fieldAddr_ptr rfl rfl Tryz.underlying57 rfl inf55 (by rw [sz55]; decide) ?_
                try simp only [Nat.zero_add]
                refine vo_guard_on rfl rfl rfl ?_
                refine vo_load_var rfl rfl rfl Tryz.underlying55 rfl rfl ?_
                refine vo_guard_on rfl rfl rfl ?_
                refine vo_call0 Tryz.func115 rfl rfl rfl rfl (goodPairs_sat (by omega)) ?_
                rintro _ _ ⟨rfl, rfl⟩
                refine ⟨rfl, rfl, .inl rfl, ?_⟩
                refine vo_stM ?_
                refine vo_guard_on rfl rfl rfl ?_
                refine vo_not rfl rfl ?_
                refine vo_pick_f rfl rfl ?_
                refine vo_move_pv rfl rfl ?_
                refine vo_split 71 rfl (fun hg9 => ?_) (fun hg9 => ?_)
                · try simp only [zq0, zq1, zq2, zq3, zq4, zq5, zq6, zq7, zq8, zq9, zqa, zqb, zqc, zqd, zqe, zqf] at hg9
                  refine vo_guard_off rfl rfl rfl rfl rfl ?_
                  refine vo_guard_off rfl rfl rfl rfl rfl ?_
                  refine vo_guard_off rfl rfl rfl rfl rfl ?_
                  refine vo_guard_off rfl rfl rfl rfl rfl ?_
                  refine vo_pick_t rfl rfl ?_
                  refine vo_move_pv rfl rfl ?_
                  refine vo_guard_off rfl rfl rfl rfl rfl ?_
                  refine vo_guard_off rfl rfl rfl rfl rfl ?_
                  refine vo_guard_off rfl rfl rfl rfl rfl ?_
                  refine vo_guard_off rfl rfl rfl rfl rfl ?_
                  refine vo_pick_t rfl rfl ?_
                  refine vo_nil ?_
                  refine hK21 _ ?_
                  refine vc_cond_t rfl ?_
                  refine vc_seq fun K23 hK23 => ?_
                  refine vc_region ?_
                  refine vo_assign_pv rfl rfl ?_
                  refine vo_nil ?_
                  refine hK23 _ ?_
                  refine vc_ret ?_
                  change retQ _ _ _ _ _
                  refine retQ_sel [] (srows := []) (.inr rfl) hC rfl rfl rfl rfl rfl rfl rfl ?_
                  refine ⟨?_, rfl⟩
                  refine (congrArg (fun b => [bo b]) (?_ : _ = _) : [bo _] = [bo _])
                  first
                    | (refine bF fun h0 => ?_
                       have h1 := h0.2.1; have h2 := h0.2.2.1
                       first
                         | omega
                         | exact absurd h0.1 (by assumption)
                         | exact absurd h0.1.1 (by assumption)
                         | exact absurd h0.1.2 (by assumption)
                         | exact absurd (h0.2.2.2.1 _ (getD_mem (show k < w.attrs.length by omega) [])) (by assumption)
                         | (have h3 := h0.2.2.2.2 _ (getD_mem (show k < w.objs.length by omega) ⟨0, []⟩)
                            unfold okObj at h3
                            have h4 := h3.2.1
                            first
                              | omega
                              | exact absurd h3.2.2 (by assumption)
                              | exact absurd h3.2.2.2 (by assumption)
                              | exact absurd (⟨by omega, h3.2.2.1⟩ : (w.objs.getD k ⟨0, []⟩).pairs.length ≤ 40 ∧ (nms (w.objs.getD k ⟨0, []⟩).pairs).Nodup) (by assumption)))
                    | (rw [take_all (by omega)] at hf2
                       rw [take_all (by omega)] at hf
                       exact bT ⟨by first | assumption | exact ⟨hg1, hg2⟩, by omega, by omega, hf, hf2⟩)
                · try simp only [zq0, zq1, zq2, zq3, zq4, zq5, zq6, zq7, zq8, zq9, zqa, zqb, zqc, zqd, zqe, zqf] at hg9
                  refine vo_guard_on rfl rfl rfl ?_
                  refine vo_fieldAddr_ptr rfl rfl Tryz.underlying57 rfl inf55 (by rw [sz55]; decide) ?_
                  try simp only [Nat.zero_add]
                  refine vo_guard_on rfl rfl rfl ?_
                  refine vo_load_var rfl rfl rfl Tryz.underlying55 rfl rfl ?_
                  refine vo_guard_on rfl rfl rfl ?_
                  refine vo_call0 Tryz.func116 rfl rfl rfl rfl (validPairs_sat (by omega)) ?_
                  rintro _ _ ⟨rfl, rfl⟩
                  refine ⟨rfl, rfl, .inl rfl, ?_⟩
                  refine vo_stM ?_
                  refine vo_guard_on rfl rfl rfl ?_
                  refine vo_not rfl rfl ?_
                  refine vo_pick_f rfl rfl ?_
                  refine vo_move_pv rfl rfl ?_
                  refine vo_split 77 rfl (fun hg10 => ?_) (fun hg10 => ?_)
                  · try simp only [zq0, zq1, zq2, zq3, zq4, zq5, zq6, zq7, zq8, zq9, zqa, zqb, zqc, zqd, zqe, zqf] at hg10
                    refine vo_guard_off rfl rfl rfl rfl rfl ?_
                    refine vo_guard_off rfl rfl rfl rfl rfl ?_
                    refine vo_guard_off rfl rfl rfl rfl rfl ?_
                    refine vo_guard_off rfl rfl rfl rfl rfl ?_
                    refine vo_pick_t rfl rfl ?_
                    refine vo_nil ?_
                    refine hK21 _ ?_
                    refine vc_cond_t rfl ?_
                    refine vc_seq fun K24 hK24 => ?_
                    refine vc_region ?_
                    refine vo_assign_pv rfl rfl ?_
                    refine vo_nil ?_
                    refine hK24 _ ?_
                    refine vc_ret ?_
                    change retQ _ _ _ _ _
                    refine retQ_sel [] (srows := []) (.inr rfl) hC rfl rfl rfl rfl rfl rfl rfl ?_
                    refine ⟨?_, rfl⟩
                    refine (congrArg (fun b => [bo b]) (?_ : _ = _) : [bo _] = [bo _])
                    first
                      | (refine bF fun h0 => ?_
                         have h1 := h0.2.1; have h2 := h0.2.2.1
                         first
                           | omega
                           | exact absurd h0.1 (by assumption)
                           | exact absurd h0.1.1 (by assumption)
                           | exact absurd h0.1.2 (by assumption)
                           | exact absurd (h0.2.2.2.1 _ (getD_mem (show k < w.attrs.length by omega) [])) (by assumption)
                           | (have h3 := h0.2.2.2.2 _ (getD_mem (show k < w.objs.length by omega) ⟨0, []⟩)
                              unfold okObj at h3
                              have h4 := h3.2.1
                              first
                                | omega
                                | exact absurd h3.2.2 (by assumption)
                                | exact absurd h3.2.2.2 (by assumption)
                                | exact absurd (⟨by omega, h3.2.2.1⟩ : (w.objs.getD k ⟨0, []⟩).pairs.length ≤ 40 ∧ (nms (w.objs.getD k ⟨0, []⟩).pairs).Nodup) (by assumption)))
                      | (rw [take_all (by omega)] at hf2
                         rw [take_all (by omega)] at hf
                         exact bT ⟨by first | assumption | exact ⟨hg1, hg2⟩, by omega, by omega, hf, hf2⟩)
                  · try simp only [zq0, zq1, zq2, zq3, zq4, zq5, zq6, zq7, zq8, zq9, zqa, zqb, zqc, zqd, zqe, zqf] at hg10
                    refine vo_guard_on rfl rfl rfl ?_
                    refine vo_fieldAddr_ptr rfl rfl Tryz.underlying57 rfl inf55 (by rw [sz55]; decide) ?_
                    try simp only [Nat.zero_add]
                    refine vo_guard_on rfl rfl rfl ?_
                    refine vo_load_var rfl rfl rfl Tryz.underlying55 rfl rfl ?_
                    refine vo_guard_on rfl rfl rfl ?_
                    refine vo_len_pv rfl rfl Tryz.underlying55 ?_
                    refine vo_guard_on rfl rfl rfl ?_
                    refine vo_binI rfl rfl rfl rfl trivial ?_
                    refine vo_pick_f rfl rfl ?_
                    refine vo_nil ?_
                    refine hK21 _ ?_
                    refine vc_cond rfl (fun hc11 => ?_) (fun hc11 => ?_)
                    · try simp only [zq0, zq1, zq2, zq3, zq4, zq5, zq6, zq7, zq8, zq9, zqa, zqb, zqc, zqd, zqe, zqf] at hc11
                      refine vc_seq fun K25 hK25 => ?_
                      refine vc_region ?_
                      refine vo_assign_pv rfl rfl ?_
                      refine vo_nil ?_
                      refine hK25 _ ?_
                      refine vc_ret ?_
                      change retQ _ _ _ _ _
                      refine retQ_sel [] (srows := []) (.inr rfl) hC rfl rfl rfl rfl rfl rfl rfl ?_
                      refine ⟨?_, rfl⟩
                      refine (congrArg (fun b => [bo b]) (?_ : _ = _) : [bo _] = [bo _])
                      first
                        | (refine bF fun h0 => ?_
                           have h1 := h0.2.1; have h2 := h0.2.2.1
                           first
                             | omega
                             | exact absurd h0.1 (by assumption)
                             | exact absurd h0.1.1 (by assumption)
                             | exact absurd h0.1.2 (by assumption)
                             | exact absurd (h0.2.2.2.1 _ (getD_mem (show k < w.attrs.length by omega) [])) (by assumption)
                             | (have h3 := h0.2.2.2.2 _ (getD_mem (show k < w.objs.length by omega) ⟨0, []⟩)
                                unfold okObj at h3
                                have h4 := h3.2.1
                                first
                                  | omega
                                  | exact absurd h3.2.2 (by assumption)
                                  | exact absurd h3.2.2.2 (by assumption)
                                  | exact absurd (⟨by omega, h3.2.2.1⟩ : (w.objs.getD k ⟨0, []⟩).pairs.length ≤ 40 ∧ (nms (w.objs.getD k ⟨0, []⟩).pairs).Nodup) (by assumption)))
                        | (rw [take_all (by omega)] at hf2
                           rw [take_all (by omega)] at hf
                           exact bT ⟨by first | assumption | exact ⟨hg1, hg2⟩, by omega, by omega, hf, hf2⟩)
                    · try simp only [zq0, zq1, zq2, zq3, zq4, zq5, zq6, zq7, zq8, zq9, zqa, zqb, zqc, zqd, zqe, zqf] at hc11
                      refine vc_skip ?_
                      refine hK19 _ ?_
                      refine vc_region ?_
                      refine vo_move_pv rfl rfl ?_
                      refine vo_binI rfl rfl rfl rfl sd ?_
                      refine vo_assign_pv rfl rfl ?_
                      refine vo_nil ?_
                      change againE _ _ _ _ _ _ _ _ _ _
                      refine againE_mk rfl rfl rfl rfl rfl rfl ⟨_, ?_, k + 1, rfl, ?_, ?_, rfl, rfl⟩
                      · omega
                      · omega
                      · refine (all_take_succ (by omega) ⟨0, []⟩).2 ⟨hf2, ?_⟩
                        unfold okObj; exact ⟨by omega, by omega, by first | assumption | exact ⟨by first | assumption | exact (And.right ‹_ ∧ (nms _).Nodup›), by assumption⟩⟩
            · try simp only [zq0, zq1, zq2, zq3, zq4, zq5, zq6, zq7, zq8, zq9, zqa, zqb, zqc, zqd, zqe, zqf] at hc7
              refine vc_exit ?_
              refine hK15 _ ?_
              refine vc_seq fun K26 hK26 => ?_
              refine vc_region ?_
              refine vo_assign_pv rfl rfl ?_
              refine vo_nil ?_
              refine hK26 _ ?_
              refine vc_ret ?_
              change retQ _ _ _ _ _
              refine retQ_sel [] (srows := []) (.inr rfl) hC rfl rfl rfl rfl rfl rfl rfl ?_
              refine ⟨?_, rfl⟩
              refine (congrArg (fun b => [bo b]) (?_ : _ = _) : [bo _] = [bo _])
              first
                | (refine bF fun h0 => ?_
                   have h1 := h0.2.1; have h2 := h0.2.2.1
                   first
                     | omega
                     | exact absurd h0.1 (by assumption)
                     | exact absurd h0.1.1 (by assumption)
                     | exact absurd h0.1.2 (by assumption)
                     | exact absurd (h0.2.2.2.1 _ (getD_mem (show k < w.attrs.length by omega) [])) (by assumption)
                     | (have h3 := h0.2.2.2.2 _ (getD_mem (show k < w.objs.length by omega) ⟨0, []⟩)
                        unfold okObj at h3
                        have h4 := h3.2.1
                        first
                          | omega
                          | exact absurd h3.2.2 (by assumption)
                          | exact absurd h3.2.2.2 (by assumption)
                          | exact absurd (⟨by omega, h3.2.2.1⟩ : (w.objs.getD k ⟨0, []⟩).pairs.length ≤ 40 ∧ (nms (w.objs.getD k ⟨0, []⟩).pairs).Nodup) (by assumption)))
                | (rw [take_all (by omega)] at hf2
                   rw [take_all (by omega)] at hf
                   exact bT ⟨by first | assumption | exact ⟨hg1, hg2⟩, by omega, by omega, hf, hf2⟩)

end Go.Vl

/- Operations that read no memory come at any time, behind those that write too. -/
namespace Go.Vl
set_option linter.unusedVariables false
set_option linter.unusedSimpArgs false
open Go.RowKit
section
variable {P : Program} {C : Ctx} {s : St} {t : Nat} {ty : TypeId} {pos : String} {af : Array Edge}

theorem l0_extract {x : Operand} {vs : List SV} {i : Nat} {v : SV} (hx : getO s.env x = .tup vs) (hi : vs[i]? = some v) : Lt0 P C s ⟨some t, .extract x i, ty, pos, af, none⟩ v := by
  intro m a w hs
  have hv := hs.get x
  rw [hx] at hv
  generalize hav : a.eval x = u at hv
  cases hv with
  | tup _ us hl h =>
    have hlt : i < us.size := by rw [hl]; exact (List.getElem?_eq_some_iff.1 hi).1
    have hu : us[i]? = some us[i] := Array.getElem?_eq_getElem hlt
    exact ⟨us[i], fun _ => by simp [execOp, hav, Instr.extract, hu], h i v _ hi hu⟩
end
end Go.Vl

namespace Go.Vl
set_option linter.unusedVariables false
set_option linter.unusedSimpArgs false
open Go.Proofs

/-- The first of the classes that has a name, and the attribute. -/
def fnd (A : List (List AttrM)) (name : Int) : List Int → Int × AttrM
  | [] => (-1, ⟨0, 0, 0⟩)
  | x :: r => if 0 ≤ findM name (anms (A.getD x.toNat [])) 0 then (x, (A.getD x.toNat []).getD (findM name (anms (A.getD x.toNat [])) 0).toNat ⟨0, 0, 0⟩) else fnd A name r
theorem fnd_drop {A : List (List AttrM)} {name : Int} {o : List Int} {k : Nat} (h : k < o.length) : fnd A name (o.drop k) = if 0 ≤ findM name (anms (A.getD (o.getD k 0).toNat [])) 0 then (o.getD k 0, (A.getD (o.getD k 0).toNat []).getD (findM name (anms (A.getD (o.getD k 0).toNat [])) 0).toNat ⟨0, 0, 0⟩) else fnd A name (o.drop (k+1)) := by
  have e : o.getD k 0 = o[k] := by simp [List.getD, List.getElem?_eq_getElem h]
  rw [List.drop_eq_getElem_cons h, e]; rfl
theorem findA_lt {n : Int} {l : List AttrM} (h : 0 ≤ findM n (anms l) 0) : findM n (anms l) 0 < l.length := by
  obtain ⟨i, hi, h1, _⟩ := findM_pos_iff (n := n) (l := anms l) (k := 0) (by omega) h
  rw [anms_len] at hi; omega
def ownrs (A : List (List AttrM)) (name : Int) (o : List Int) : List Int := o.filter fun x => decide (0 ≤ findM name (anms (A.getD x.toNat [])) 0)
theorem ownrs_yes {A : List (List AttrM)} {name : Int} {o : List Int} {k : Nat} (h : k < o.length) (hp : 0 ≤ findM name (anms (A.getD (o.getD k 0).toNat [])) 0) : ownrs A name (o.take (k+1)) = ownrs A name (o.take k) ++ [o.getD k 0] := by
  have : o.take (k+1) = o.take k ++ [o.getD k 0] := by rw [List.take_add_one, List.getD, List.getElem?_eq_getElem h]; rfl
  unfold ownrs; rw [this, List.filter_append, List.filter_cons_of_pos (by simpa using hp)]; rfl
theorem ownrs_no {A : List (List AttrM)} {name : Int} {o : List Int} {k : Nat} (h : k < o.length) (hp : ¬ 0 ≤ findM name (anms (A.getD (o.getD k 0).toNat [])) 0) : ownrs A name (o.take (k+1)) = ownrs A name (o.take k) := by
  have : o.take (k+1) = o.take k ++ [o.getD k 0] := by rw [List.take_add_one, List.getD, List.getElem?_eq_getElem h]; rfl
  unfold ownrs; rw [this, List.filter_append, List.filter_cons_of_neg (by simpa using hp)]; simp
theorem fnd_ownrs (A : List (List AttrM)) (name : Int) : ∀ o : List Int, (ownrs A name o = [] → fnd A name o = (-1, ⟨0, 0, 0⟩)) ∧ ∀ x r, ownrs A name o = x :: r → fnd A name o = (x, (A.getD x.toNat []).getD (findM name (anms (A.getD x.toNat [])) 0).toNat ⟨0, 0, 0⟩) ∧ 0 ≤ findM name (anms (A.getD x.toNat [])) 0 ∧ x ∈ o
  | [] => ⟨fun _ => rfl, fun x r h => by simp [ownrs] at h⟩
  | y :: o => by
    obtain ⟨h1, h2⟩ := fnd_ownrs A name o
    by_cases hp : 0 ≤ findM name (anms (A.getD y.toNat [])) 0
    · have e : ownrs A name (y :: o) = y :: ownrs A name o := by unfold ownrs; rw [List.filter_cons_of_pos (by simpa using hp)]
      have e2 : fnd A name (y :: o) = (y, (A.getD y.toNat []).getD (findM name (anms (A.getD y.toNat [])) 0).toNat ⟨0, 0, 0⟩) := by unfold fnd; rw [if_pos hp]
      refine ⟨fun h => (by rw [e] at h; cases h), fun x r h => ?_⟩
      rw [e] at h
      cases h
      exact ⟨e2, hp, by simp⟩
    · have e : ownrs A name (y :: o) = ownrs A name o := by unfold ownrs; rw [List.filter_cons_of_neg (by simpa using hp)]
      have e2 : fnd A name (y :: o) = fnd A name o := by rw [fnd, if_neg hp]
      refine ⟨fun h => by rw [e2]; exact h1 (by rw [← e]; exact h), fun x r h => ?_⟩
      obtain ⟨g1, g2, g3⟩ := h2 x r (by rw [← e]; exact h)
      exact ⟨by rw [e2]; exact g1, g2, by simp [g3]⟩
/-- Classes of an order are classes. -/
def OrdIn (n : Nat) (o : List Int) : Prop := o.length < 1000000000 ∧ ∀ x ∈ o, 0 ≤ x ∧ x < n
def fndM (w : WorldM) (c name : Int) : Int × AttrM := if VWorld w ∧ 0 ≤ c ∧ c ≤ (w.bases.length : Int) - 1 then fnd w.attrs name (ordM w.bases c.toNat) else (-1, ⟨0, 0, 0⟩)

theorem findFrom_sat {w : WorldM} {nl1 : Option Bool} {order : List Int} {fr : Int} {name : Int}  (hfr : fr = 0) (hA0 : w.attrs.length ≤ 2000000) (hA : ∀ l ∈ w.attrs, l.length ≤ 2000000) (ho : OrdIn w.attrs.length order) : SatAt Tryz.prog 118 [.pv false (worldP w), .pv false (.sl nl1 1 (order.map intP)), i64 fr, i64 name] [] (fun res rows => res = [i64 (fnd w.attrs name order).1, .pv true (attrP (fnd w.attrs name order).2)] ∧ rows = []) := by
 subst hfr
 obtain ⟨ho1, ho2⟩ := ho
 refine sat_entry_G (rs := [(8, none), (9, some (52, 3))]) Tryz.func118 rfl rfl (Nat.le_of_ble_eq_true rfl) (Nat.le_of_ble_eq_true rfl) (resTs2 trivial ⟨_, _, Tryz.underlying52, rfl, inf52, sz52⟩) fun C hC => ?_
 rw [Tryz.ntmps118]
 replace hC : C.nb = 0 := hC
 refine vc_seq fun K1 hK1 => ?_
 refine vc_region ?_
 refine vo_box rfl rfl ?_
 refine vo_stM ?_
 refine vo_assign_pv rfl rfl ?_
 refine vo_alloc Z52 rfl ?_
 refine vo_stM ?_
 refine vo_nil ?_
 refine hK1 _ ?_
 refine vc_seq fun K2 hK2 => ?_
 refine vc_seq fun K3 hK3 => ?_
 refine vc_region ?_
 refine vo_move_pv rfl rfl ?_
 refine vo_assign_pv rfl rfl ?_
 refine vo_nil ?_
 refine hK3 _ ?_
 refine vc_block ?_
 refine vc_stM ?_
 refine vc_loopE [1, 3, 4, 9] [10] [] _ _ (fun mz vs rs => ∃ (k : Nat), mz = order.length - k ∧ (k ≤ order.length) ∧ (fnd w.attrs name order = fnd w.attrs name (order.drop k)) ∧ vs = [i64 k] ∧ rs = []) (order.length) rfl rfl (le_len hC rfl) ⟨rfl, rfl, rfl⟩ rfl ⟨0, rfl, Nat.zero_le _, rfl, rfl, rfl⟩ ?_
 rintro mz vs rs - - ⟨k, rfl, hk, hf, rfl, rfl⟩
 refine vc_stM ?_
 refine vc_seq fun K4 hK4 => ?_
 refine vc_seq fun K5 hK5 => ?_
 refine vc_region ?_
 refine vo_move_pv rfl rfl ?_
 refine vo_move_pv rfl rfl ?_
 refine vo_len_pv rfl rfl Tryz.underlying28 ?_
 refine vo_binI rfl rfl rfl rfl trivial ?_
 refine vo_nil ?_
 refine hK5 _ ?_
 refine vc_cond rfl (fun hc1 => ?_) (fun hc1 => ?_)
 ·try simp only [zq0, zq1, zq2, zq3, zq4, zq5, zq6, zq7, zq8, zq9, zqa, zqb, zqc, zqd, zqe, zqf] at hc1
  have hin := ho2 _ (getD_mem (show k < order.length by omega) 0)
  have hak := (getD_all (p := fun l : List AttrM => l.length ≤ 2000000) hA [] (by simp) (order.getD k 0).toNat)
  refine vc_skip ?_
  refine hK4 _ ?_
  refine vc_seq fun K6 hK6 => ?_
  refine vc_block ?_
  refine vc_seq fun K7 hK7 => ?_
  refine vc_draw (by kernel_rfl) ?_
  change VD _ _ _ 11 _ _ _
  refine vd_light 0 rfl rfl rfl (by kernel_rfl) (by kernel_rfl) (by kernel_rfl) (wnt_none rfl) (lt_fieldAddr_ptr rfl Tryz.underlying33 rfl inf30 (by rw [sz30]; decide)) ?_
  try simp only [Nat.zero_add]
  refine vd_light 1 rfl rfl rfl (by kernel_rfl) (by kernel_rfl) (by kernel_rfl) (wnt_none rfl) (lt_load_var rfl rfl Tryz.underlying30 rfl rfl) ?_
  refine vd_light 2 rfl rfl rfl (by kernel_rfl) (by kernel_rfl) (by kernel_rfl) (wnt_none rfl) (lt_move_pv rfl) ?_
  refine vd_light 3 rfl rfl rfl (by kernel_rfl) (by kernel_rfl) (by kernel_rfl) (wnt_none rfl) (lt_move_pv rfl) ?_
  refine vd_light 4 rfl rfl rfl (by kernel_rfl) (by kernel_rfl) (by kernel_rfl) (wnt_none rfl) (lt_index_pv (.int .i64 0) rfl rfl E28.und inf3 sz3 sd sd) ?_
  simp only [Int.toNat_natCast, Int.toNat_zero, getD_ints, getD_intss, getD_bools, getD_bytes, PV.cells, getD_ops, getD_pairs, getD_insts, getD_attrs, getD_attrss, getD_objs]
  refine vd_light 5 rfl rfl rfl (by kernel_rfl) (by kernel_rfl) (by kernel_rfl) (wnt_none rfl) (lt_load_adr rfl Tryz.underlying3 rfl) ?_
  refine vd_light 6 rfl rfl rfl (by kernel_rfl) (by kernel_rfl) (by kernel_rfl) (wnt_none rfl) (lt_index_pv (.sl none 3 []) rfl rfl E30.und inf97 sz97 sd sd) ?_
  simp only [Int.toNat_natCast, Int.toNat_zero, getD_ints, getD_intss, getD_bools, getD_bytes, PV.cells, getD_ops, getD_pairs, getD_insts, getD_attrs, getD_attrss, getD_objs]
  refine vd_light 7 rfl rfl rfl (by kernel_rfl) (by kernel_rfl) (by kernel_rfl) (wnt_none rfl) (lt_load_adr rfl Tryz.underlying97 rfl) ?_
  refine vd_light 8 rfl rfl rfl (by kernel_rfl) (by kernel_rfl) (by kernel_rfl) (wnt_none rfl) (lt_move_pv rfl) ?_
  refine vd_call 9 rfl (by kernel_rfl) (wnt_none rfl) Tryz.func94 rfl rfl rfl rfl (attrAt_sat (by omega)) ?_
  rintro _ _ ⟨rfl, rfl⟩
  refine ⟨rfl, rfl, .inl rfl, ?_⟩
  refine vd_stM ?_
  refine vd_light 10 rfl rfl rfl (by kernel_rfl) (by kernel_rfl) (by kernel_rfl) (wnt_none rfl) (lt_assign_pv rfl) ?_
  refine vd_nil (by kernel_rfl) ?_
  refine hK7 _ ?_
  refine vc_seq fun K8 hK8 => ?_
  refine vc_region ?_
  refine vo_move_pv rfl rfl ?_
  refine vo_binI rfl rfl rfl rfl trivial ?_
  refine vo_nil ?_
  refine hK8 _ ?_
  refine vc_cond rfl (fun hc2 => ?_) (fun hc2 => ?_)
  ·try simp only [zq0, zq1, zq2, zq3, zq4, zq5, zq6, zq7, zq8, zq9, zqa, zqb, zqc, zqd, zqe, zqf] at hc2
   have hlt := findA_lt hc2
   refine vc_seq fun K9 hK9 => ?_
   refine vc_drawLD [16] [0, 1, 2, 3, 4, 5, 6, 7, 8, 9, 10, 11, 12, 13, 14, 15, 16] [0, 1, 2, 3, 15, 4, 5, 6, 7, 8, 9, 10, 11, 12, 13, 14, 16] (by kernel_rfl) (by kernel_rfl) (by kernel_rfl) (by kernel_rfl) ?_
   change VL [16] _ _ _ 17 _ _ _
   refine vl_light 0 [1, 4, 5, 6, 7, 8, 9, 10, 11, 12, 13, 14] rfl rfl rfl (by kernel_rfl) (by kernel_rfl) (by kernel_rfl) (by kernel_rfl) (by kernel_rfl) (wnt_none rfl) (lt_move_pv rfl) ?_
   refine vl_light 1 [0, 4, 5, 6, 7, 8, 9, 10, 11, 12, 13, 14] rfl rfl rfl (by kernel_rfl) (by kernel_rfl) (by kernel_rfl) (by kernel_rfl) (by kernel_rfl) (wnt_none rfl) (lt_move_pv rfl) ?_
   refine vl_light 2 [0, 1, 4, 5, 6, 7, 8, 9, 10, 11, 12, 13, 14] rfl rfl rfl (by kernel_rfl) (by kernel_rfl) (by kernel_rfl) (by kernel_rfl) (by kernel_rfl) (wnt_none rfl) (lt_index_pv (.int .i64 0) rfl rfl E28.und inf3 sz3 sd sd) ?_
   simp only [Int.toNat_natCast, Int.toNat_zero, getD_ints, getD_intss, getD_bools, getD_bytes, PV.cells, getD_ops, getD_pairs, getD_insts, getD_attrs, getD_attrss, getD_objs]
   refine vl_light 3 [0, 1, 2, 4, 5, 6, 7, 8, 9, 10, 11, 12, 13, 14] rfl rfl rfl (by kernel_rfl) (by kernel_rfl) (by kernel_rfl) (by kernel_rfl) (by kernel_rfl) (wnt_none rfl) (lt_load_adr rfl Tryz.underlying3 rfl) ?_
   refine vl_light 4 [0, 1, 2, 3, 6, 7, 8, 9, 12, 15] rfl rfl rfl (by kernel_rfl) (by kernel_rfl) (by kernel_rfl) (by kernel_rfl) (by kernel_rfl) (wnt_none rfl) (lt_fieldAddr_ptr rfl Tryz.underlying33 rfl inf30 (by rw [sz30]; decide)) ?_
   try simp only [Nat.zero_add]
   refine vl_light 5 [0, 1, 2, 3, 4, 6, 7, 8, 9, 12, 15] rfl rfl rfl (by kernel_rfl) (by kernel_rfl) (by kernel_rfl) (by kernel_rfl) (by kernel_rfl) (wnt_none rfl) (lt_load_var rfl rfl Tryz.underlying30 rfl rfl) ?_
   refine vl_light 6 [0, 1, 2, 3, 4, 5, 7, 12, 15] rfl rfl rfl (by kernel_rfl) (by kernel_rfl) (by kernel_rfl) (by kernel_rfl) (by kernel_rfl) (wnt_none rfl) (lt_move_pv rfl) ?_
   refine vl_light 7 [0, 1, 2, 3, 4, 5, 6, 12, 15] rfl rfl rfl (by kernel_rfl) (by kernel_rfl) (by kernel_rfl) (by kernel_rfl) (by kernel_rfl) (wnt_none rfl) (lt_move_pv rfl) ?_
   refine vl_light 8 [0, 1, 2, 3, 4, 5, 6, 7, 12, 15] rfl rfl rfl (by kernel_rfl) (by kernel_rfl) (by kernel_rfl) (by kernel_rfl) (by kernel_rfl) (wnt_none rfl) (lt_index_pv (.int .i64 0) rfl rfl E28.und inf3 sz3 sd sd) ?_
   simp only [Int.toNat_natCast, Int.toNat_zero, getD_ints, getD_intss, getD_bools, getD_bytes, PV.cells, getD_ops, getD_pairs, getD_insts, getD_attrs, getD_attrss, getD_objs]
   refine vl_light 9 [0, 1, 2, 3, 4, 5, 6, 7, 8, 12, 15] rfl rfl rfl (by kernel_rfl) (by kernel_rfl) (by kernel_rfl) (by kernel_rfl) (by kernel_rfl) (wnt_none rfl) (lt_load_adr rfl Tryz.underlying3 rfl) ?_
   refine vl_light 10 [0, 1, 2, 3, 4, 5, 6, 7, 8, 9, 12, 15] rfl rfl rfl (by kernel_rfl) (by kernel_rfl) (by kernel_rfl) (by kernel_rfl) (by kernel_rfl) (wnt_none rfl) (lt_index_pv (.sl none 3 []) rfl rfl E30.und inf97 sz97 sd sd) ?_
   simp only [Int.toNat_natCast, Int.toNat_zero, getD_ints, getD_intss, getD_bools, getD_bytes, PV.cells, getD_ops, getD_pairs, getD_insts, getD_attrs, getD_attrss, getD_objs]
   refine vl_light 11 [0, 1, 2, 3, 4, 5, 6, 7, 8, 9, 10, 12, 15] rfl rfl rfl (by kernel_rfl) (by kernel_rfl) (by kernel_rfl) (by kernel_rfl) (by kernel_rfl) (wnt_none rfl) (lt_load_adr rfl Tryz.underlying97 rfl) ?_
   refine vl_light 12 [0, 1, 2, 3, 4, 5, 6, 7, 8, 9, 10, 11, 15] rfl rfl rfl (by kernel_rfl) (by kernel_rfl) (by kernel_rfl) (by kernel_rfl) (by kernel_rfl) (wnt_none rfl) (lt_move_pv rfl) ?_
   refine vl_light 13 [0, 1, 2, 3, 4, 5, 6, 7, 8, 9, 10, 11, 12, 15] rfl rfl rfl (by kernel_rfl) (by kernel_rfl) (by kernel_rfl) (by kernel_rfl) (by kernel_rfl) (wnt_none rfl) (lt_index_pv (.agg [(.int .i64 0), (.int .i64 0), (.int .i64 0)]) rfl rfl E97.und inf52 sz52 sd sd) ?_
   simp only [Int.toNat_natCast, Int.toNat_zero, getD_ints, getD_intss, getD_bools, getD_bytes, PV.cells, getD_ops, getD_pairs, getD_insts, getD_attrs, getD_attrss, getD_objs]
   refine vl_light 14 [0, 1, 2, 3, 4, 5, 6, 7, 8, 9, 10, 11, 12, 13, 15] rfl rfl rfl (by kernel_rfl) (by kernel_rfl) (by kernel_rfl) (by kernel_rfl) (by kernel_rfl) (wnt_none rfl) (lt_load_adrS rfl Tryz.underlying52 rfl inf52 sz52 rfl) ?_
   refine vl_st (by (try simp only [St.put, PV.cells, PV.scal, List.drop_succ_cons, List.drop_zero, List.take_succ_cons, List.take_zero, List.map_cons, List.map_nil, Bool.or_true, Bool.or_false, Bool.false_or, Bool.true_or, opP, pairP, instP, heapP]); exact eq_refl _) ?_
   refine vl_light 15 [0, 1, 2, 3, 4, 5, 6, 7, 8, 9, 10, 11, 12, 13, 14] rfl rfl rfl (by kernel_rfl) (by kernel_rfl) (by kernel_rfl) (by kernel_rfl) (by kernel_rfl) (wnt_none rfl) (lt_assign_pv rfl) ?_
   refine vl_one 16 rfl (by kernel_rfl) rfl ?_
   refine vo_store_varS rfl rfl rfl inf52 sz52 rfl ?_
   refine vo_stM ?_
   refine vo_done ⟨rfl, ?_⟩
   refine vl_nil (by kernel_rfl) ?_
   refine hK9 _ ?_
   refine vc_ret ?_
   change retQ _ _ _ _ _
   refine retQ_sel [] (srows := []) (.inr rfl) hC rfl rfl rfl rfl rfl rfl rfl ?_
   rw [hf, fnd_drop (by omega), if_pos (by omega)]; exact ⟨rfl, rfl⟩
  ·try simp only [zq0, zq1, zq2, zq3, zq4, zq5, zq6, zq7, zq8, zq9, zqa, zqb, zqc, zqd, zqe, zqf] at hc2
   refine vc_skip ?_
   refine hK6 _ ?_
   refine vc_region ?_
   refine vo_move_pv rfl rfl ?_
   refine vo_binI rfl rfl rfl rfl sd ?_
   refine vo_assign_pv rfl rfl ?_
   refine vo_nil ?_
   change againE _ _ _ _ _ _ _ _ _ _
   refine againE_mk rfl rfl rfl rfl rfl rfl ⟨_, ?_, k + 1, rfl, ?_, ?_, rfl, rfl⟩
   ·omega
   ·omega
   ·rw [hf, fnd_drop (by omega), if_neg (by omega)]
 ·try simp only [zq0, zq1, zq2, zq3, zq4, zq5, zq6, zq7, zq8, zq9, zqa, zqb, zqc, zqd, zqe, zqf] at hc1
  refine vc_exit ?_
  refine hK2 _ ?_
  refine vc_seq fun K10 hK10 => ?_
  refine vc_region ?_
  refine vo_build S52 rfl rfl rfl ?_
  refine vo_stM ?_
  refine vo_assign_pv rfl rfl ?_
  refine vo_store_varS rfl rfl rfl inf52 sz52 rfl ?_
  refine vo_stM ?_
  refine vo_nil ?_
  refine hK10 _ ?_
  refine vc_ret ?_
  change retQ _ _ _ _ _
  refine retQ_sel [] (srows := []) (.inr rfl) hC rfl rfl rfl rfl rfl rfl rfl ?_
  rw [hf, show k = order.length by omega, List.drop_length]; exact ⟨rfl, rfl⟩

theorem ordIn_of {w : WorldM} {c : Int} (hv : VWorld w) (h0 : 0 ≤ c) (h1 : c ≤ (w.bases.length : Int) - 1) : OrdIn w.attrs.length (ordM w.bases c.toNat) := by
  have hc : c.toNat < w.bases.length := by omega
  have hl := ordM_len hv.1.1 hc
  refine ⟨by omega, fun x hx => ?_⟩
  have := (ordM_ok hv.1.1 _ hc)
  have h2 := this.2 x hx
  have := hv.2.1
  omega


theorem find_sat {w : WorldM} {c : Int} {name : Int}  (hw : SW w) (hV : VWorld w) (h0 : 0 ≤ c) (h1 : c ≤ (w.bases.length : Int) - 1) : SatAt Tryz.prog 83 [.pv false (worldP w), i64 c, i64 name] [] (fun res rows => res = [i64 (fnd w.attrs name (ordM w.bases c.toNat)).1, .pv true (attrP (fnd w.attrs name (ordM w.bases c.toNat)).2)] ∧ rows = []) := by
 obtain ⟨⟨b1, b2⟩, ⟨a1, a2⟩, o1, o2⟩ := hw
 obtain ⟨n, rfl⟩ := Int.eq_ofNat_of_zero_le h0
 have hoi := ordIn_of hV h0 h1
 refine sat_entry_G (rs := [(6, none), (7, some (52, 3))]) Tryz.func83 rfl rfl (Nat.le_of_ble_eq_true rfl) (Nat.le_of_ble_eq_true rfl) (resTs2 trivial ⟨_, _, Tryz.underlying52, rfl, inf52, sz52⟩) fun C hC => ?_
 rw [Tryz.ntmps83]
 replace hC : C.nb = 0 := hC
 refine vc_seq fun K1 hK1 => ?_
 refine vc_region ?_
 refine vo_box rfl rfl ?_
 refine vo_stM ?_
 refine vo_assign_pv rfl rfl ?_
 refine vo_alloc Z52 rfl ?_
 refine vo_stM ?_
 refine vo_nil ?_
 refine hK1 _ ?_
 refine vc_seq fun K2 hK2 => ?_
 refine vc_drawL [6, 9, 10] (by kernel_rfl) ?_
 change VL [6, 9, 10] _ _ _ 11 _ _ _
 refine vl_light 0 [1, 2, 3, 4, 5] rfl rfl rfl (by kernel_rfl) (by kernel_rfl) (by kernel_rfl) (by kernel_rfl) (by kernel_rfl) (wnt_none rfl) (lt_load_varS rfl rfl Tryz.underlying33 rfl inf33 sz33 rfl rfl) ?_
 refine vl_light 1 [0, 3, 5] rfl rfl rfl (by kernel_rfl) (by kernel_rfl) (by kernel_rfl) (by kernel_rfl) (by kernel_rfl) (wnt_none rfl) (lt_fieldAddr_ptr rfl Tryz.underlying33 rfl inf22 (by rw [sz22]; decide)) ?_
 try simp only [Nat.zero_add]
 refine vl_light 2 [0, 1, 3, 5] rfl rfl rfl (by kernel_rfl) (by kernel_rfl) (by kernel_rfl) (by kernel_rfl) (by kernel_rfl) (wnt_none rfl) (lt_load_var rfl rfl Tryz.underlying22 rfl rfl) ?_
 refine vl_light 3 [0, 1, 2, 5] rfl rfl rfl (by kernel_rfl) (by kernel_rfl) (by kernel_rfl) (by kernel_rfl) (by kernel_rfl) (wnt_none rfl) (lt_move_pv rfl) ?_
 refine vl_light 5 [0, 1, 2, 3, 4] rfl rfl rfl (by kernel_rfl) (by kernel_rfl) (by kernel_rfl) (by kernel_rfl) (by kernel_rfl) (wnt_none rfl) (lt_move_pv rfl) ?_
 refine vl_callR 4 [] rfl rfl (by kernel_rfl) (wnt_none rfl) Tryz.func119 rfl rfl rfl rfl (orderOf_sat (by omega) (fun l hl => by have := b2 l hl; omega) hV.1.1 n (by omega)) rfl rfl rfl ?_
 rintro _ _ ⟨nlo, rfl, rfl⟩
 refine ⟨Nat.le_of_ble_eq_true rfl, ⟨rfl, rfl, rfl, rfl⟩, .inl rfl, ?_⟩
 refine vl_stM ?_
 refine vl_one 6 rfl (by kernel_rfl) rfl ?_
 refine vo_expose 2 (by omega) rfl ?_
 refine vo_stM ?_
 refine vo_weaken 12 rfl ?_
 refine vo_stM ?_
 refine vo_call0 Tryz.func118 rfl rfl rfl rfl (findFrom_sat (order := ordM w.bases n) rfl a1 a2 hoi) ?_
 rintro _ _ ⟨rfl, rfl⟩
 refine ⟨rfl, rfl, .inl rfl, ?_⟩
 refine vo_stM ?_
 refine vo_done ⟨rfl, ?_⟩
 refine vl_light0 7 rfl rfl rfl (by kernel_rfl) (by kernel_rfl) (by kernel_rfl) (wnt_none rfl) (l0_extract rfl rfl) ?_
 refine vl_light0 8 rfl rfl rfl (by kernel_rfl) (by kernel_rfl) (by kernel_rfl) (wnt_none rfl) (l0_extract rfl rfl) ?_
 refine vl_one 9 rfl (by kernel_rfl) rfl ?_
 refine vo_assign_pv rfl rfl ?_
 refine vo_done ⟨rfl, ?_⟩
 refine vl_one 10 rfl (by kernel_rfl) rfl ?_
 refine vo_store_varS rfl rfl rfl inf52 sz52 rfl ?_
 refine vo_stM ?_
 refine vo_done ⟨rfl, ?_⟩
 refine vl_nil (by kernel_rfl) ?_
 refine hK2 _ ?_
 refine vc_ret ?_
 change retQ _ _ _ _ _
 refine retQ_sel [] (srows := []) (.inr rfl) hC rfl rfl rfl rfl rfl rfl rfl ?_
 exact ⟨rfl, rfl⟩

end Go.Vl

namespace Go.Vl
set_option linter.unusedVariables false
set_option linter.unusedSimpArgs false
open Go.Proofs

def ownM (w : WorldM) (c name : Int) : List Int := if VWorld w ∧ 0 ≤ c ∧ c ≤ (w.bases.length : Int) - 1 then ownrs w.attrs name (ordM w.bases c.toNat) else []
theorem ownrs_len (A : List (List AttrM)) (name : Int) (o : List Int) : (ownrs A name o).length ≤ o.length := List.length_filter_le _ _
theorem ownM_cons {w : WorldM} {c name x : Int} {r : List Int} (h : ownM w c name = x :: r) : fndM w c name = (x, (w.attrs.getD x.toNat []).getD (findM name (anms (w.attrs.getD x.toNat [])) 0).toNat ⟨0, 0, 0⟩) ∧ 0 ≤ findM name (anms (w.attrs.getD x.toNat [])) 0 ∧ 0 ≤ x ∧ x < w.attrs.length := by
  unfold ownM at h
  split at h
  · rename_i hv
    obtain ⟨h1, h2, h3⟩ := (fnd_ownrs w.attrs name (ordM w.bases c.toNat)).2 x r h
    have := (ordIn_of hv.1 hv.2.1 hv.2.2).2 x h3
    unfold fndM; rw [if_pos hv]
    exact ⟨h1, h2, this.1, this.2⟩
  · cases h
theorem ownM_nil {w : WorldM} {c name : Int} (h : ownM w c name = []) : fndM w c name = (-1, ⟨0, 0, 0⟩) := by
  unfold fndM
  split
  · rename_i hv
    unfold ownM at h; rw [if_pos hv] at h
    exact (fnd_ownrs w.attrs name (ordM w.bases c.toNat)).1 h
  · rfl
theorem ownM_in {w : WorldM} {c name : Int} : OrdIn w.attrs.length (ownM w c name) := by
  unfold ownM
  split
  · rename_i hv
    have := ordIn_of hv.1 hv.2.1 hv.2.2
    exact ⟨Nat.lt_of_le_of_lt (ownrs_len _ _ _) this.1, fun x hx => this.2 x ((List.mem_filter.1 hx).1)⟩
  · exact ⟨by simp, fun x hx => by cases hx⟩
theorem fnd_ownM {w : WorldM} {c name : Int} : fnd w.attrs name (ownM w c name) = fndM w c name := by
  cases h : ownM w c name with
  | nil => rw [ownM_nil h]; rfl
  | cons x r =>
    obtain ⟨h1, h2, _⟩ := ownM_cons h
    rw [h1]
    show (if _ then _ else _) = _
    rw [if_pos h2]
theorem ownM_len {w : WorldM} {c name : Int} : (ownM w c name).length ≤ 12 := by
  unfold ownM
  split
  · rename_i hv
    have := ownrs_len w.attrs name (ordM w.bases c.toNat)
    have := ordM_len hv.1.1.1 (show c.toNat < w.bases.length by omega)
    omega
  · simp

theorem attrPlace_sat {nl0 : Option Bool} {list : List AttrM} {name : Int} (hlist : list.length < 1000000000)  : SatAt Tryz.prog 76 [.pv false (.sl nl0 3 (list.map attrP)), i64 name] [] (fun res rows => res = [i64 (findM name (anms list) 0)] ∧ rows = []) := by
 refine sat_entry_G (rs := [(4, none)]) Tryz.func76 rfl rfl (Nat.le_of_ble_eq_true rfl) (Nat.le_of_ble_eq_true rfl) (resTs1 trivial) fun C hC => ?_
 rw [Tryz.ntmps76]
 replace hC : C.nb = 0 := hC
 refine vc_seq fun K1 hK1 => ?_
 refine vc_region ?_
 refine vo_assign_pv rfl rfl ?_
 refine vo_nil ?_
 refine hK1 _ ?_
 refine vc_seq fun K2 hK2 => ?_
 refine vc_region ?_
 refine vo_move_pv rfl rfl ?_
 refine vo_call0 Tryz.func107 rfl rfl rfl rfl (attrNames_sat hlist) ?_
 rintro _ _ ⟨nl9, rfl, rfl⟩
 refine ⟨rfl, rfl, .inl rfl, ?_⟩
 refine vo_stM ?_
 refine vo_move_pv rfl rfl ?_
 refine vo_call0 Tryz.func100 rfl rfl rfl rfl (Index_sat (s := anms list) (by rw [anms_len]; omega)) ?_
 rintro _ _ ⟨rfl, rfl⟩
 refine ⟨rfl, rfl, .inl rfl, ?_⟩
 refine vo_stM ?_
 refine vo_assign_pv rfl rfl ?_
 refine vo_nil ?_
 refine hK2 _ ?_
 refine vc_ret ?_
 change retQ _ _ _ _ _
 refine retQ_sel [] (srows := []) (.inr rfl) hC rfl rfl rfl rfl rfl rfl rfl ?_
 refine ⟨?_, rfl⟩
 refine (congrArg (fun b => [i64 b]) (?_ : _ = _) : [i64 _] = [i64 _])
 rfl


theorem hasClassIn_sat {w : WorldM} {c : Int}  (hw : SW w) : SatAt Tryz.prog 74 [.pv false (worldP w), i64 c] [] (fun res rows => res = [bo (decide (VWorld w ∧ 0 ≤ c ∧ c ≤ (w.bases.length : Int) - 1))] ∧ rows = []) := by
 have hw0 := hw
 obtain ⟨⟨b1, b2⟩, ⟨a1, a2⟩, o1, o2⟩ := hw
 refine sat_entry_G (rs := [(4, none)]) Tryz.func74 rfl rfl (Nat.le_of_ble_eq_true rfl) (Nat.le_of_ble_eq_true rfl) (resTs1 trivial) fun C hC => ?_
 rw [Tryz.ntmps74]
 replace hC : C.nb = 0 := hC
 refine vc_seq fun K1 hK1 => ?_
 refine vc_region ?_
 refine vo_box rfl rfl ?_
 refine vo_stM ?_
 refine vo_assign_pv rfl rfl ?_
 refine vo_nil ?_
 refine hK1 _ ?_
 refine vc_seq fun K2 hK2 => ?_
 refine vc_region ?_
 refine vo_load_varS rfl rfl rfl Tryz.underlying33 rfl inf33 sz33 rfl rfl ?_
 refine vo_call0 Tryz.func28 rfl rfl rfl rfl (implValidWorld_sat hw0) ?_
 rintro _ _ ⟨rfl, rfl⟩
 refine ⟨rfl, rfl, .inl rfl, ?_⟩
 refine vo_stM ?_
 refine vo_move_pv rfl rfl ?_
 refine vo_split 7 rfl (fun hg1 => ?_) (fun hg1 => ?_)
 ·try simp only [zq0, zq1, zq2, zq3, zq4, zq5, zq6, zq7, zq8, zq9, zqa, zqb, zqc, zqd, zqe, zqf] at hg1
  refine vo_guard_on rfl rfl rfl ?_
  refine vo_move_pv rfl rfl ?_
  refine vo_guard_on rfl rfl rfl ?_
  refine vo_fieldAddr_ptr rfl rfl Tryz.underlying33 rfl inf22 (by rw [sz22]; decide) ?_
  try simp only [Nat.zero_add]
  refine vo_guard_on rfl rfl rfl ?_
  refine vo_load_var rfl rfl rfl Tryz.underlying22 rfl rfl ?_
  refine vo_guard_on rfl rfl rfl ?_
  refine vo_len_pv rfl rfl Tryz.underlying22 ?_
  refine vo_guard_on rfl rfl rfl ?_
  refine vo_binI rfl rfl rfl rfl sd ?_
  refine vo_guard_on rfl rfl rfl ?_
  refine vo_call0 Tryz.func70 rfl rfl rfl rfl isUpTo_sat ?_
  rintro _ _ ⟨rfl, rfl⟩
  refine ⟨rfl, rfl, .inl rfl, ?_⟩
  refine vo_stM ?_
  refine vo_pick_t rfl rfl ?_
  refine vo_assign_pv rfl rfl ?_
  refine vo_nil ?_
  refine hK2 _ ?_
  refine vc_ret ?_
  change retQ _ _ _ _ _
  refine retQ_sel [] (srows := []) (.inr rfl) hC rfl rfl rfl rfl rfl rfl rfl ?_
  refine ⟨?_, rfl⟩
  refine (congrArg (fun b => [bo b]) (?_ : _ = _) : [bo _] = [bo _])
  first
   | exact bF fun h0 => absurd h0.1 (by assumption)
   | exact decide_eq_decide.2 ⟨fun h0 => ⟨by assumption, by omega, by simp only [List.length_map] at h0; omega⟩, fun h0 => by simp only [List.length_map]; omega⟩
 ·try simp only [zq0, zq1, zq2, zq3, zq4, zq5, zq6, zq7, zq8, zq9, zqa, zqb, zqc, zqd, zqe, zqf] at hg1
  refine vo_guard_off rfl rfl rfl rfl rfl ?_
  refine vo_guard_off rfl rfl rfl rfl rfl ?_
  refine vo_guard_off rfl rfl rfl rfl rfl ?_
  refine vo_guard_off rfl rfl rfl rfl rfl ?_
  refine vo_guard_off rfl rfl rfl rfl rfl ?_
  refine vo_guard_off rfl rfl rfl rfl rfl ?_
  refine vo_pick_f rfl rfl ?_
  refine vo_assign_pv rfl rfl ?_
  refine vo_nil ?_
  refine hK2 _ ?_
  refine vc_ret ?_
  change retQ _ _ _ _ _
  refine retQ_sel [] (srows := []) (.inr rfl) hC rfl rfl rfl rfl rfl rfl rfl ?_
  refine ⟨?_, rfl⟩
  refine (congrArg (fun b => [bo b]) (?_ : _ = _) : [bo _] = [bo _])
  first
   | exact bF fun h0 => absurd h0.1 (by assumption)
   | exact decide_eq_decide.2 ⟨fun h0 => ⟨by assumption, by omega, by simp only [List.length_map] at h0; omega⟩, fun h0 => by simp only [List.length_map]; omega⟩


theorem ownersOf_sat {w : WorldM} {c : Int} {name : Int}  (hw : SW w) : SatAt Tryz.prog 67 [.pv false (worldP w), i64 c, i64 name] [] (fun res rows => ∃ nl, res = [.pv true (.sl nl 1 ((ownM w c name).map intP))] ∧ rows = []) := by
 have hw0 := hw
 obtain ⟨⟨b1, b2⟩, ⟨a1, a2⟩, o1, o2⟩ := hw
 refine sat_entry_G (rs := [(6, none)]) Tryz.func67 rfl rfl (Nat.le_of_ble_eq_true rfl) (Nat.le_of_ble_eq_true rfl) (resTs1 trivial) fun C hC => ?_
 rw [Tryz.ntmps67]
 replace hC : C.nb = 0 := hC
 refine vc_seq fun K1 hK1 => ?_
 refine vc_region ?_
 refine vo_box rfl rfl ?_
 refine vo_stM ?_
 refine vo_assign_pv rfl rfl ?_
 refine vo_own_nil 6 E28 rfl ?_
 refine vo_nil ?_
 refine hK1 _ ?_
 refine vc_seq fun K2 hK2 => ?_
 refine vc_seq fun K3 hK3 => ?_
 refine vc_region ?_
 refine vo_load_varS rfl rfl rfl Tryz.underlying33 rfl inf33 sz33 rfl rfl ?_
 refine vo_move_pv rfl rfl ?_
 refine vo_call0 Tryz.func74 rfl rfl rfl rfl (hasClassIn_sat hw0) ?_
 rintro _ _ ⟨rfl, rfl⟩
 refine ⟨rfl, rfl, .inl rfl, ?_⟩
 refine vo_stM ?_
 refine vo_not rfl rfl ?_
 refine vo_nil ?_
 refine hK3 _ ?_
 refine vc_cond rfl (fun hc1 => ?_) (fun hc1 => ?_)
 ·try simp only [zq0, zq1, zq2, zq3, zq4, zq5, zq6, zq7, zq8, zq9, zqa, zqb, zqc, zqd, zqe, zqf] at hc1
  refine vc_seq fun K4 hK4 => ?_
  refine vc_region ?_
  refine vo_assign_pv rfl rfl ?_
  refine vo_own_nil 6 E28 rfl ?_
  refine vo_nil ?_
  refine hK4 _ ?_
  refine vc_expose 2 (by omega) rfl ?_
  refine vc_stM ?_
  refine vc_ret ?_
  change retQ _ _ _ _ _
  refine retQ_sel [] (srows := []) (.inr rfl) hC rfl rfl rfl rfl rfl rfl rfl ?_
  have e : ownM w c name = [] := by unfold ownM; rw [if_neg (by assumption)]
  rw [e]; exact ⟨_, rfl, rfl⟩
 ·try simp only [zq0, zq1, zq2, zq3, zq4, zq5, zq6, zq7, zq8, zq9, zqa, zqb, zqc, zqd, zqe, zqf] at hc1
  have htl := ordT_len w.bases (c.toNat + 1)
  have hoi := ordIn_of hc1.1 hc1.2.1 hc1.2.2
  have hol := ordM_len hc1.1.1.1 (show c.toNat < w.bases.length by omega)
  refine vc_skip ?_
  refine hK2 _ ?_
  refine vc_seq fun K5 hK5 => ?_
  refine vc_region ?_
  refine vo_assign_pv rfl rfl ?_
  refine vo_nil ?_
  refine hK5 _ ?_
  refine vc_seq fun K6 hK6 => ?_
  refine vc_seq fun K7 hK7 => ?_
  refine vc_region ?_
  refine vo_fieldAddr_ptr rfl rfl Tryz.underlying33 rfl inf22 (by rw [sz22]; decide) ?_
  try simp only [Nat.zero_add]
  refine vo_load_var rfl rfl rfl Tryz.underlying22 rfl rfl ?_
  refine vo_move_pv rfl rfl ?_
  refine vo_call [] Tryz.func104 rfl rfl rfl rfl rfl rfl rfl (ordersUpTo_satI (by omega) (fun l hl => by have := b2 l hl; omega) hc1.1.1.1 hc1.2.1 (by have := hc1.2.2; omega)) ?_
  rintro _ _ ⟨rfl, rfl⟩
  refine ⟨Nat.le_of_ble_eq_true rfl, ⟨rfl, rfl, rfl, rfl⟩, .inl rfl, ?_⟩
  refine vo_stM ?_
  refine vo_treeown 2 (by omega) rfl ?_
  refine vo_stM ?_
  refine vo_expose 2 (by omega) rfl ?_
  refine vo_stM ?_
  refine vo_weaken 17 rfl ?_
  refine vo_stM ?_
  refine vo_move_pv rfl rfl ?_
  refine vo_index_pv (.sl (some true) 1 []) rfl rfl rfl E22.und inf28 sz28 sd sd ?_
  simp only [Int.toNat_natCast, Int.toNat_zero, getD_ints, getD_intss, getD_bools, getD_bytes, PV.cells, getD_ops, getD_pairs, getD_insts, getD_attrs, getD_attrss, getD_objs, getD_ordP]
  refine vo_load_adr rfl rfl Tryz.underlying28 rfl ?_
  rw [ordT_get w.bases (c.toNat + 1) c.toNat (by omega)]
  refine vo_stM ?_
  refine vo_len_pv rfl rfl Tryz.underlying28 ?_
  refine vo_move_pv rfl rfl ?_
  refine vo_nil ?_
  refine hK7 _ ?_
  refine vc_block ?_
  refine vc_own_nil 7 E28 rfl ?_
  refine vc_stM ?_
  refine vc_loopE [2, 3, 20, 21] [7, 22] [3] _ _ (fun mz vs rs => ∃ (k : Nat), mz = (ordM w.bases c.toNat).length - k ∧ (k ≤ (ordM w.bases c.toNat).length) ∧ vs = [.ref 3, i64 k] ∧ rs = [Row.own 3 1 none true ((ownrs w.attrs name ((ordM w.bases c.toNat).take k)).map intP)]) ((ordM w.bases c.toNat).length) rfl rfl (le_len hC rfl) ⟨rfl, rfl, rfl⟩ rfl ⟨0, rfl, Nat.zero_le _, rfl, rfl⟩ ?_
  rintro mz vs rs - - ⟨k, rfl, hk, rfl, rfl⟩
  refine vc_stM ?_
  have hrl := ownrs_len w.attrs name ((ordM w.bases c.toNat).take k)
  rw [List.length_take] at hrl
  refine vc_seq fun K8 hK8 => ?_
  refine vc_region ?_
  refine vo_binI rfl rfl rfl rfl trivial ?_
  refine vo_nil ?_
  refine hK8 _ ?_
  refine vc_seq fun K9 hK9 => ?_
  refine vc_cond rfl (fun hc2 => ?_) (fun hc2 => ?_)
  ·try simp only [zq0, zq1, zq2, zq3, zq4, zq5, zq6, zq7, zq8, zq9, zqa, zqb, zqc, zqd, zqe, zqf] at hc2
   have hin := hoi.2 _ (getD_mem (show k < (ordM w.bases c.toNat).length by omega) 0)
   have hak := (getD_all (p := fun l : List AttrM => l.length ≤ 2000000) a2 [] (by simp) ((ordM w.bases c.toNat).getD k 0).toNat)
   refine vc_skip ?_
   refine hK9 _ ?_
   refine vc_seq fun K10 hK10 => ?_
   refine vc_block ?_
   refine vc_seq fun K11 hK11 => ?_
   refine vc_region ?_
   refine vo_index_pv (.int .i64 0) rfl rfl rfl E28.und inf3 sz3 sd sd ?_
   simp only [Int.toNat_natCast, Int.toNat_zero, getD_ints, getD_intss, getD_bools, getD_bytes, PV.cells, getD_ops, getD_pairs, getD_insts, getD_attrs, getD_attrss, getD_objs, getD_ordP]
   refine vo_load_adr rfl rfl Tryz.underlying3 rfl ?_
   refine vo_assign_pv rfl rfl ?_
   refine vo_nil ?_
   refine hK11 _ ?_
   refine vc_seq fun K12 hK12 => ?_
   refine vc_region ?_
   refine vo_fieldAddr_ptr rfl rfl Tryz.underlying33 rfl inf30 (by rw [sz30]; decide) ?_
   try simp only [Nat.zero_add]
   refine vo_load_var rfl rfl rfl Tryz.underlying30 rfl rfl ?_
   refine vo_move_pv rfl rfl ?_
   refine vo_index_pv (.sl none 3 []) rfl rfl rfl E30.und inf97 sz97 sd sd ?_
   simp only [Int.toNat_natCast, Int.toNat_zero, getD_ints, getD_intss, getD_bools, getD_bytes, PV.cells, getD_ops, getD_pairs, getD_insts, getD_attrs, getD_attrss, getD_objs, getD_ordP]
   refine vo_load_adr rfl rfl Tryz.underlying97 rfl ?_
   refine vo_move_pv rfl rfl ?_
   refine vo_call0 Tryz.func76 rfl rfl rfl rfl (attrPlace_sat (by omega)) ?_
   rintro _ _ ⟨rfl, rfl⟩
   refine ⟨rfl, rfl, .inl rfl, ?_⟩
   refine vo_stM ?_
   refine vo_binI rfl rfl rfl rfl trivial ?_
   refine vo_nil ?_
   refine hK12 _ ?_
   refine vc_cond rfl (fun hc3 => ?_) (fun hc3 => ?_)
   ·try simp only [zq0, zq1, zq2, zq3, zq4, zq5, zq6, zq7, zq8, zq9, zqa, zqb, zqc, zqd, zqe, zqf] at hc3
    refine vc_region ?_
    refine vo_move_ref rfl rfl ?_
    refine vo_move_pv rfl rfl ?_
    refine vo_buildSlice E28 rfl rfl rfl rfl rfl ?_
    refine vo_stM ?_
    refine vo_append E28 rfl (by omega) rfl rfl rfl sd sd ?_
    refine vo_stM ?_
    try simp only [app_ints, app_intss, app_bools]
    refine vo_assign_ref rfl rfl ?_
    refine vo_nil ?_
    refine hK10 _ ?_
    refine vc_region ?_
    refine vo_binI rfl rfl rfl rfl sd ?_
    refine vo_move_pv rfl rfl ?_
    refine vo_nil ?_
    change againE _ _ _ _ _ _ _ _ _ _
    refine againE_mk rfl rfl rfl rfl rfl rfl ⟨_, ?_, k + 1, rfl, ?_, rfl, (by rw [ownrs_yes (by omega) (by omega)]; rfl)⟩
    ·omega
    ·omega
   ·try simp only [zq0, zq1, zq2, zq3, zq4, zq5, zq6, zq7, zq8, zq9, zqa, zqb, zqc, zqd, zqe, zqf] at hc3
    refine vc_skip ?_
    refine hK10 _ ?_
    refine vc_region ?_
    refine vo_binI rfl rfl rfl rfl sd ?_
    refine vo_move_pv rfl rfl ?_
    refine vo_nil ?_
    change againE _ _ _ _ _ _ _ _ _ _
    refine againE_mk rfl rfl rfl rfl rfl rfl ⟨_, ?_, k + 1, rfl, ?_, rfl, (by rw [ownrs_no (by omega) (by omega)]; rfl)⟩
    ·omega
    ·omega
  ·try simp only [zq0, zq1, zq2, zq3, zq4, zq5, zq6, zq7, zq8, zq9, zqa, zqb, zqc, zqd, zqe, zqf] at hc2
   refine vc_exit ?_
   refine hK6 _ ?_
   refine vc_seq fun K13 hK13 => ?_
   refine vc_region ?_
   refine vo_move_ref rfl rfl ?_
   refine vo_assign_ref rfl rfl ?_
   refine vo_nil ?_
   refine hK13 _ ?_
   refine vc_expose 3 (by omega) rfl ?_
   refine vc_stM ?_
   refine vc_ret ?_
   change retQ _ _ _ _ _
   refine retQ_sel [] (srows := []) (.inr rfl) hC rfl rfl rfl rfl rfl rfl rfl ?_
   have e : ownM w c name = ownrs w.attrs name ((ordM w.bases c.toNat).take k) := by unfold ownM; rw [if_pos (by assumption), show (ordM w.bases c.toNat).take k = (ordM w.bases c.toNat) from take_all (by omega)]
   rw [e]; exact ⟨_, rfl, rfl⟩


theorem firstIn_sat {w : WorldM} {nl1 : Option Bool} {classes : List Int} {name : Int}  (hA0 : w.attrs.length ≤ 2000000) (hA : ∀ l ∈ w.attrs, l.length ≤ 2000000) (ho : OrdIn w.attrs.length classes) : SatAt Tryz.prog 66 [.pv false (worldP w), .pv false (.sl nl1 1 (classes.map intP)), i64 name] [] (fun res rows => res = [i64 (fnd w.attrs name classes).1, .pv true (attrP (fnd w.attrs name classes).2)] ∧ rows = []) := by
 obtain ⟨ho1, ho2⟩ := ho
 refine sat_entry_G (rs := [(6, none), (7, some (52, 3))]) Tryz.func66 rfl rfl (Nat.le_of_ble_eq_true rfl) (Nat.le_of_ble_eq_true rfl) (resTs2 trivial ⟨_, _, Tryz.underlying52, rfl, inf52, sz52⟩) fun C hC => ?_
 rw [Tryz.ntmps66]
 replace hC : C.nb = 0 := hC
 refine vc_seq fun K1 hK1 => ?_
 refine vc_region ?_
 refine vo_box rfl rfl ?_
 refine vo_stM ?_
 refine vo_assign_pv rfl rfl ?_
 refine vo_alloc Z52 rfl ?_
 refine vo_stM ?_
 refine vo_nil ?_
 refine hK1 _ ?_
 refine vc_seq fun K2 hK2 => ?_
 refine vc_seq fun K3 hK3 => ?_
 refine vc_region ?_
 refine vo_move_pv rfl rfl ?_
 refine vo_len_pv rfl rfl Tryz.underlying28 ?_
 refine vo_move_pv rfl rfl ?_
 refine vo_nil ?_
 refine hK3 _ ?_
 refine vc_block ?_
 refine vc_stM ?_
 refine vc_loopE [2, 3, 7, 11, 12] [13] [] _ _ (fun mz vs rs => ∃ (k : Nat), mz = classes.length - k ∧ (k ≤ classes.length) ∧ (fnd w.attrs name classes = fnd w.attrs name (classes.drop k)) ∧ vs = [i64 k] ∧ rs = []) (classes.length) rfl rfl (le_len hC rfl) ⟨rfl, rfl, rfl⟩ rfl ⟨0, rfl, Nat.zero_le _, rfl, rfl, rfl⟩ ?_
 rintro mz vs rs - - ⟨k, rfl, hk, hf, rfl, rfl⟩
 refine vc_stM ?_
 refine vc_seq fun K4 hK4 => ?_
 refine vc_region ?_
 refine vo_binI rfl rfl rfl rfl trivial ?_
 refine vo_nil ?_
 refine hK4 _ ?_
 refine vc_seq fun K5 hK5 => ?_
 refine vc_cond rfl (fun hc1 => ?_) (fun hc1 => ?_)
 ·try simp only [zq0, zq1, zq2, zq3, zq4, zq5, zq6, zq7, zq8, zq9, zqa, zqb, zqc, zqd, zqe, zqf] at hc1
  have hin := ho2 _ (getD_mem (show k < classes.length by omega) 0)
  have hak := (getD_all (p := fun l : List AttrM => l.length ≤ 2000000) hA [] (by simp) (classes.getD k 0).toNat)
  refine vc_skip ?_
  refine hK5 _ ?_
  refine vc_seq fun K6 hK6 => ?_
  refine vc_block ?_
  refine vc_seq fun K7 hK7 => ?_
  refine vc_region ?_
  refine vo_index_pv (.int .i64 0) rfl rfl rfl E28.und inf3 sz3 sd sd ?_
  simp only [Int.toNat_natCast, Int.toNat_zero, getD_ints, getD_intss, getD_bools, getD_bytes, PV.cells, getD_ops, getD_pairs, getD_insts, getD_attrs, getD_attrss, getD_objs, getD_ordP]
  refine vo_load_adr rfl rfl Tryz.underlying3 rfl ?_
  refine vo_assign_pv rfl rfl ?_
  refine vo_nil ?_
  refine hK7 _ ?_
  refine vc_seq fun K8 hK8 => ?_
  refine vc_region ?_
  refine vo_fieldAddr_ptr rfl rfl Tryz.underlying33 rfl inf30 (by rw [sz30]; decide) ?_
  try simp only [Nat.zero_add]
  refine vo_load_var rfl rfl rfl Tryz.underlying30 rfl rfl ?_
  refine vo_move_pv rfl rfl ?_
  refine vo_index_pv (.sl none 3 []) rfl rfl rfl E30.und inf97 sz97 sd sd ?_
  simp only [Int.toNat_natCast, Int.toNat_zero, getD_ints, getD_intss, getD_bools, getD_bytes, PV.cells, getD_ops, getD_pairs, getD_insts, getD_attrs, getD_attrss, getD_objs, getD_ordP]
  refine vo_load_adr rfl rfl Tryz.underlying97 rfl ?_
  refine vo_move_pv rfl rfl ?_
  refine vo_call0 Tryz.func76 rfl rfl rfl rfl (attrPlace_sat (by omega)) ?_
  rintro _ _ ⟨rfl, rfl⟩
  refine ⟨rfl, rfl, .inl rfl, ?_⟩
  refine vo_stM ?_
  refine vo_assign_pv rfl rfl ?_
  refine vo_nil ?_
  refine hK8 _ ?_
  refine vc_seq fun K9 hK9 => ?_
  refine vc_region ?_
  refine vo_move_pv rfl rfl ?_
  refine vo_binI rfl rfl rfl rfl trivial ?_
  refine vo_nil ?_
  refine hK9 _ ?_
  refine vc_cond rfl (fun hc2 => ?_) (fun hc2 => ?_)
  ·try simp only [zq0, zq1, zq2, zq3, zq4, zq5, zq6, zq7, zq8, zq9, zqa, zqb, zqc, zqd, zqe, zqf] at hc2
   have hlt := findA_lt hc2
   refine vc_seq fun K10 hK10 => ?_
   refine vc_drawLD [10] [0, 1, 2, 3, 4, 5, 6, 7, 8, 9, 10] [0, 9, 1, 2, 3, 4, 5, 6, 7, 8, 10] (by kernel_rfl) (by kernel_rfl) (by kernel_rfl) (by kernel_rfl) ?_
   change VL [10] _ _ _ 11 _ _ _
   refine vl_light 0 [1, 2, 3, 4, 5, 6, 7, 8] rfl rfl rfl (by kernel_rfl) (by kernel_rfl) (by kernel_rfl) (by kernel_rfl) (by kernel_rfl) (wnt_none rfl) (lt_move_pv rfl) ?_
   refine vl_light 1 [0, 3, 6, 9] rfl rfl rfl (by kernel_rfl) (by kernel_rfl) (by kernel_rfl) (by kernel_rfl) (by kernel_rfl) (wnt_none rfl) (lt_fieldAddr_ptr rfl Tryz.underlying33 rfl inf30 (by rw [sz30]; decide)) ?_
   try simp only [Nat.zero_add]
   refine vl_light 2 [0, 1, 3, 6, 9] rfl rfl rfl (by kernel_rfl) (by kernel_rfl) (by kernel_rfl) (by kernel_rfl) (by kernel_rfl) (wnt_none rfl) (lt_load_var rfl rfl Tryz.underlying30 rfl rfl) ?_
   refine vl_light 3 [0, 1, 2, 6, 9] rfl rfl rfl (by kernel_rfl) (by kernel_rfl) (by kernel_rfl) (by kernel_rfl) (by kernel_rfl) (wnt_none rfl) (lt_move_pv rfl) ?_
   refine vl_light 4 [0, 1, 2, 3, 6, 9] rfl rfl rfl (by kernel_rfl) (by kernel_rfl) (by kernel_rfl) (by kernel_rfl) (by kernel_rfl) (wnt_none rfl) (lt_index_pv (.sl none 3 []) rfl rfl E30.und inf97 sz97 sd sd) ?_
   simp only [Int.toNat_natCast, Int.toNat_zero, getD_ints, getD_intss, getD_bools, getD_bytes, PV.cells, getD_ops, getD_pairs, getD_insts, getD_attrs, getD_attrss, getD_objs, getD_ordP]
   refine vl_light 5 [0, 1, 2, 3, 4, 6, 9] rfl rfl rfl (by kernel_rfl) (by kernel_rfl) (by kernel_rfl) (by kernel_rfl) (by kernel_rfl) (wnt_none rfl) (lt_load_adr rfl Tryz.underlying97 rfl) ?_
   refine vl_light 6 [0, 1, 2, 3, 4, 5, 9] rfl rfl rfl (by kernel_rfl) (by kernel_rfl) (by kernel_rfl) (by kernel_rfl) (by kernel_rfl) (wnt_none rfl) (lt_move_pv rfl) ?_
   refine vl_light 7 [0, 1, 2, 3, 4, 5, 6, 9] rfl rfl rfl (by kernel_rfl) (by kernel_rfl) (by kernel_rfl) (by kernel_rfl) (by kernel_rfl) (wnt_none rfl) (lt_index_pv (.agg [(.int .i64 0), (.int .i64 0), (.int .i64 0)]) rfl rfl E97.und inf52 sz52 sd sd) ?_
   simp only [Int.toNat_natCast, Int.toNat_zero, getD_ints, getD_intss, getD_bools, getD_bytes, PV.cells, getD_ops, getD_pairs, getD_insts, getD_attrs, getD_attrss, getD_objs, getD_ordP]
   refine vl_light 8 [0, 1, 2, 3, 4, 5, 6, 7, 9] rfl rfl rfl (by kernel_rfl) (by kernel_rfl) (by kernel_rfl) (by kernel_rfl) (by kernel_rfl) (wnt_none rfl) (lt_load_adrS rfl Tryz.underlying52 rfl inf52 sz52 rfl) ?_
   refine vl_st (by (try simp only [St.put, PV.cells, PV.scal, List.drop_succ_cons, List.drop_zero, List.take_succ_cons, List.take_zero, List.map_cons, List.map_nil, Bool.or_true, Bool.or_false, Bool.false_or, Bool.true_or, opP, pairP, instP, heapP]); exact eq_refl _) ?_
   refine vl_light 9 [0, 1, 2, 3, 4, 5, 6, 7, 8] rfl rfl rfl (by kernel_rfl) (by kernel_rfl) (by kernel_rfl) (by kernel_rfl) (by kernel_rfl) (wnt_none rfl) (lt_assign_pv rfl) ?_
   refine vl_one 10 rfl (by kernel_rfl) rfl ?_
   refine vo_store_varS rfl rfl rfl inf52 sz52 rfl ?_
   refine vo_stM ?_
   refine vo_done ⟨rfl, ?_⟩
   refine vl_nil (by kernel_rfl) ?_
   refine hK10 _ ?_
   refine vc_ret ?_
   change retQ _ _ _ _ _
   refine retQ_sel [] (srows := []) (.inr rfl) hC rfl rfl rfl rfl rfl rfl rfl ?_
   rw [hf, fnd_drop (by omega), if_pos (by omega)]; exact ⟨rfl, rfl⟩
  ·try simp only [zq0, zq1, zq2, zq3, zq4, zq5, zq6, zq7, zq8, zq9, zqa, zqb, zqc, zqd, zqe, zqf] at hc2
   refine vc_skip ?_
   refine hK6 _ ?_
   refine vc_region ?_
   refine vo_binI rfl rfl rfl rfl sd ?_
   refine vo_move_pv rfl rfl ?_
   refine vo_nil ?_
   change againE _ _ _ _ _ _ _ _ _ _
   refine againE_mk rfl rfl rfl rfl rfl rfl ⟨_, ?_, k + 1, rfl, ?_, ?_, rfl, rfl⟩
   ·omega
   ·omega
   ·rw [hf, fnd_drop (by omega), if_neg (by omega)]
 ·try simp only [zq0, zq1, zq2, zq3, zq4, zq5, zq6, zq7, zq8, zq9, zqa, zqb, zqc, zqd, zqe, zqf] at hc1
  refine vc_exit ?_
  refine hK2 _ ?_
  refine vc_seq fun K11 hK11 => ?_
  refine vc_region ?_
  refine vo_build S52 rfl rfl rfl ?_
  refine vo_stM ?_
  refine vo_assign_pv rfl rfl ?_
  refine vo_store_varS rfl rfl rfl inf52 sz52 rfl ?_
  refine vo_stM ?_
  refine vo_nil ?_
  refine hK11 _ ?_
  refine vc_ret ?_
  change retQ _ _ _ _ _
  refine retQ_sel [] (srows := []) (.inr rfl) hC rfl rfl rfl rfl rfl rfl rfl ?_
  rw [hf, show k = classes.length by omega, List.drop_length]; exact ⟨rfl, rfl⟩


theorem implFindIn_sat {w : WorldM} {c : Int} {name : Int}  (hw : SW w) : SatAt Tryz.prog 27 [.pv false (worldP w), i64 c, i64 name] [] (fun res rows => res = [i64 (fndM w c name).1, .pv true (attrP (fndM w c name).2)] ∧ rows = []) := by
 have hw0 := hw
 obtain ⟨⟨b1, b2⟩, ⟨a1, a2⟩, o1, o2⟩ := hw
 have hol := ownM_len (w := w) (c := c) (name := name)
 refine sat_entry_G (rs := [(6, none), (7, some (52, 3))]) Tryz.func27 rfl rfl (Nat.le_of_ble_eq_true rfl) (Nat.le_of_ble_eq_true rfl) (resTs2 trivial ⟨_, _, Tryz.underlying52, rfl, inf52, sz52⟩) fun C hC => ?_
 rw [Tryz.ntmps27]
 replace hC : C.nb = 0 := hC
 refine vc_seq fun K1 hK1 => ?_
 refine vc_region ?_
 refine vo_box rfl rfl ?_
 refine vo_stM ?_
 refine vo_assign_pv rfl rfl ?_
 refine vo_alloc Z52 rfl ?_
 refine vo_stM ?_
 refine vo_nil ?_
 refine hK1 _ ?_
 refine vc_seq fun K2 hK2 => ?_
 refine vc_drawL [10] (by kernel_rfl) ?_
 change VL [10] _ _ _ 11 _ _ _
 refine vl_light 0 [1, 2, 3, 4, 5] rfl rfl rfl (by kernel_rfl) (by kernel_rfl) (by kernel_rfl) (by kernel_rfl) (by kernel_rfl) (wnt_none rfl) (lt_load_varS rfl rfl Tryz.underlying33 rfl inf33 sz33 rfl rfl) ?_
 refine vl_light 1 [0, 2, 3, 5] rfl rfl rfl (by kernel_rfl) (by kernel_rfl) (by kernel_rfl) (by kernel_rfl) (by kernel_rfl) (wnt_none rfl) (lt_load_varS rfl rfl Tryz.underlying33 rfl inf33 sz33 rfl rfl) ?_
 refine vl_light 2 [0, 1, 3, 5] rfl rfl rfl (by kernel_rfl) (by kernel_rfl) (by kernel_rfl) (by kernel_rfl) (by kernel_rfl) (wnt_none rfl) (lt_move_pv rfl) ?_
 refine vl_light 3 [0, 1, 2, 5] rfl rfl rfl (by kernel_rfl) (by kernel_rfl) (by kernel_rfl) (by kernel_rfl) (by kernel_rfl) (wnt_none rfl) (lt_move_pv rfl) ?_
 refine vl_light 5 [0, 1, 2, 3, 4] rfl rfl rfl (by kernel_rfl) (by kernel_rfl) (by kernel_rfl) (by kernel_rfl) (by kernel_rfl) (wnt_none rfl) (lt_move_pv rfl) ?_
 refine vl_callR 4 [] rfl rfl (by kernel_rfl) (wnt_none rfl) Tryz.func67 rfl rfl rfl rfl (ownersOf_sat hw0) rfl rfl rfl ?_
 rintro _ _ ⟨nlo, rfl, rfl⟩
 refine ⟨Nat.le_of_ble_eq_true rfl, ⟨rfl, rfl, rfl, rfl⟩, .inl rfl, ?_⟩
 refine vl_stM ?_
 refine vl_stM ?_
 refine vl_callR 6 [] rfl rfl (by kernel_rfl) (wnt_none rfl) Tryz.func66 rfl rfl rfl rfl (firstIn_sat (classes := ownM w c name) a1 a2 ownM_in) rfl rfl rfl ?_
 rintro _ _ ⟨rfl, rfl⟩
 refine ⟨Nat.le_of_ble_eq_true rfl, ⟨rfl, rfl, rfl, rfl⟩, .inl rfl, ?_⟩
 refine vl_stM ?_
 refine vl_stM ?_
 refine vl_light 7 [0, 1, 2, 3, 4, 5, 6, 8] rfl rfl rfl (by kernel_rfl) (by kernel_rfl) (by kernel_rfl) (by kernel_rfl) (by kernel_rfl) (wnt_none rfl) (lt_extract rfl rfl) ?_
 refine vl_light 8 [0, 1, 2, 3, 4, 5, 6, 7] rfl rfl rfl (by kernel_rfl) (by kernel_rfl) (by kernel_rfl) (by kernel_rfl) (by kernel_rfl) (wnt_none rfl) (lt_extract rfl rfl) ?_
 refine vl_light 9 [0, 1, 2, 3, 4, 5, 6, 7, 8] rfl rfl rfl (by kernel_rfl) (by kernel_rfl) (by kernel_rfl) (by kernel_rfl) (by kernel_rfl) (wnt_none rfl) (lt_assign_pv rfl) ?_
 refine vl_one 10 rfl (by kernel_rfl) rfl ?_
 refine vo_store_varS rfl rfl rfl inf52 sz52 rfl ?_
 refine vo_stM ?_
 refine vo_done ⟨rfl, ?_⟩
 refine vl_nil (by kernel_rfl) ?_
 refine hK2 _ ?_
 refine vc_ret ?_
 change retQ _ _ _ _ _
 refine retQ_sel [] (srows := []) (.inr rfl) hC rfl rfl rfl rfl rfl rfl rfl ?_
 rw [fnd_ownM]; exact ⟨rfl, rfl⟩

end Go.Vl

/- Cells of rows whose slices are their own: a plain one is written; a slice in one is lent to a function, which may write it. -/
namespace Go.Vl
set_option linter.unusedVariables false
set_option linter.unusedSimpArgs false
open Go.RowKit

theorem fits_set {p p' c : PV} {e o : Nat} (hf : p.fits e) (hc : c.isAgg = false) (hp' : p'.cells = p.cells.set o c) : p'.fits e := by
  refine ⟨by rw [hp', List.length_set]; exact hf.1, fun j d hd => ?_⟩
  rw [hp', List.getElem?_set] at hd
  split at hd
  · split at hd
    · cases hd; exact hc
    · cases hd
  · exact hf.2 j d hd

theorem idx_ne {e k j i o : Nat} (hj : j < e) (ho : o < e) (h : ¬ (k = i ∧ j = o)) : k * e + j ≠ i * e + o := by
  intro h9
  have e2 : (k * e + j) / e = (i * e + o) / e := by rw [h9]
  rw [Nat.mul_comm i e, Nat.mul_comm k e, Nat.mul_add_div (by omega), Nat.mul_add_div (by omega), Nat.div_eq_of_lt hj, Nat.div_eq_of_lt ho] at e2
  have : k = i := by omega
  subst this
  exact h ⟨rfl, by omega⟩

section
variable {P : Program} {C : Ctx} {Q : Go.Exit → St → Prop} {s : St} {ops : Array Oper} {rest : List Oper} {t : Nat} {ty : TypeId} {pos : String} {af : Array Edge}

/-- A plain cell of an element is written. -/
theorem vo_store_treeC {x y : Operand} {T id R e i o : Nat} {nl : Option Bool} {f : Bool} {xs : List PV} {p p' c c0 : PV} {inf : TypeInfo} (hx : getO s.env x = .ptr id e i o) (hrow : s.rows[id]? = some (.tree R e nl none xs))
    (hy : getO s.env y = .pv f c) (hsc : c.scal = true) (hinf : P.info? T = some inf) (hsz : inf.size = 1) (hget : xs[i]? = some p) (hc0 : p.cells[o]? = some c0) (hsc0 : c0.scal = true) (hp' : p'.cells = p.cells.set o c)
    (next : VO P C ops rest Q ⟨s.n, s.env, s.rows.set id (.tree R e nl none (xs.set i p'))⟩) :
    VO P C ops (⟨none, .store T x y, ty, pos, af, none⟩ :: rest) Q s := by
  refine vo_unit (s1 := { s with rows := s.rows.set id (.tree R e nl none (xs.set i p')) }) (fun m a w hs => ?_) next
  obtain ⟨b, vals, Sf, hv, hb, hown, hf, hcell, hr, hd, hn, hz, hS, h1, h2, hw, cap, cur, hV, hheap, hle, hmx, hcs, htk⟩ := hs.elemT hx hrow hget
  have ho : o < e := by rw [← hf.1]; exact (List.getElem?_eq_some_iff.1 hc0).1
  have hna : c.isAgg = false := by cases c <;> simp_all [PV.scal, PV.isAgg]
  have hvy := hs.get y
  rw [hy] at hvy
  have hvy := hvy.pv_inv
  have hone := hvy.oneCell hna
  have hlive : liveAt s.rows id := ⟨_, hrow, rfl⟩
  have hi : i < xs.length := (List.getElem?_eq_some_iff.1 hget).1
  have hvl : vals.length = xs.length * e := hown.1
  have hlt : i * e + o < xs.length * e := by
    have := Nat.mul_le_mul_right e (show i + 1 ≤ xs.length by omega)
    rw [Nat.add_mul] at this
    omega
  have hle2 : xs.length * e ≤ cap * e := Nat.mul_le_mul_right e hle
  have hcur : i * e + o < cur.size := by omega
  have hcell2 : w.cell? ⟨b, i * e + o, none⟩ = some cur[i * e + o] := by
    rw [cell_of_row w b _ cur R (0, 0) hheap]; exact Array.getElem?_eq_getElem hcur
  have hfz : w.frozen? ⟨b, i * e + o, none⟩ = false := by simp [World.frozen?, hheap]
  have hcells : (a.eval y).cells.toList = [a.eval y] := oneCell_cells hone
  have hcs1 : (a.eval y).cells.size = 1 := by
    have := congrArg List.length hcells
    simpa using this
  let w' := w.setCell ⟨b, i * e + o, none⟩ (a.eval y)
  have hst : (store (⟨b, i * e + o, none⟩ : Addr) (a.eval y)).run P w = .ok () w' := by
    rw [run_store P w _ _ _ hone, hcell2]
    simp [hfz, w']
  have hheap' : w'.heap[b]? = some (.cells (cur.setIfInBounds (i * e + o) (a.eval y)) R (0, 0)) := heap_setCell_same w b (i * e + o) cur R _ hheap
  have hoth : ∀ k, k ≠ b → w'.heap[k]? = w.heap[k]? := fun k hk => heap_setCell_other w ⟨b, i * e + o, none⟩ k _ (fun e => hk e)
  have hg : w.grownBy w' (some b) := ⟨rfl, rfl, rfl, by simp [w', World.setCell], fun k _ hk => hoth k (fun e => hk (by rw [e]))⟩
  have hblk : (m id).S b := (hS b).2 (.inl hb)
  have hSfb : ∀ q b', Sf q b' → b' ≠ b := fun q b' h e => hn q b' h (by rw [e]; exact hb)
  have hu0 := List.getElem?_eq_getElem (show i * e + o < vals.length by omega)
  have hE : ∀ b', ¬ Sf (i * e + o) b' := by
    have hT := hr i p o c0 _ hget hc0 hu0
    cases hT with
    | scal _ _ _ _ _ h => exact h
    | gone _ _ _ h => exact h
    | sl => cases hsc0
  refine ⟨w', m, ?_, ?_⟩
  · have hadd : (⟨b, i * e + o, none⟩ : Addr).add 0 = ⟨b, i * e + o, none⟩ := rfl
    simp [execOp, Instr.storeAt, hv, Instr.sureAddr, storeVar, sizeOf, typeInfo, hinf, hsz, hcs1, hcells, storeCells, hadd, hst]
  · refine hs.storeRow hlive (fun b' e => by cases e; exact hblk) hg _ (fun hG => ?_)
    refine .tree (m id) R e nl none (xs.set i p') (vals.set (i * e + o) (a.eval y)) Sf ⟨by simp [hvl], .inr ⟨b, cap, _, by rw [List.length_set]; exact hV, Nat.zero_le _, hheap', by rw [List.length_set]; exact hle, hmx, by simp [hcs], ?_⟩⟩
      h1 h2 (fun k z hz9 => ?_) (fun k z j d u hz9 hd9 hu => .inl ?_) hd hn (by rw [List.length_set]; exact hz) hS (fun _ _ h => by cases h)
    · rw [List.length_set, Array.toList_setIfInBounds, List.take_set, htk]
    · rw [List.getElem?_set] at hz9
      split at hz9
      · cases hz9; exact fits_set hf hna hp'
      · exact hw k z hz9
    · have hkz : z.fits e := by
        rw [List.getElem?_set] at hz9
        split at hz9
        · cases hz9; exact fits_set hf hna hp'
        · exact hw k z hz9
      have hj : j < e := by rw [← hkz.1]; exact (List.getElem?_eq_some_iff.1 hd9).1
      by_cases hkj : k = i ∧ j = o
      · obtain ⟨rfl, rfl⟩ := hkj
        rw [List.getElem?_set_self hi] at hz9
        cases hz9
        rw [hp', List.getElem?_set_self (by rw [hf.1]; exact ho)] at hd9
        cases hd9
        rw [List.getElem?_set_self (by omega)] at hu
        cases hu
        exact .scal _ _ _ hsc (hvy.scal_any hsc) hE
      · rw [List.getElem?_set_ne (Ne.symm (idx_ne hj ho hkj))] at hu
        have key : ∃ z0, xs[k]? = some z0 ∧ z0.cells[j]? = some d := by
          rw [List.getElem?_set] at hz9
          split at hz9
          · rename_i e1
            subst e1
            cases hz9
            refine ⟨p, hget, ?_⟩
            rw [hp', List.getElem?_set_ne (fun e => hkj ⟨rfl, e.symm⟩)] at hd9
            exact hd9
          · exact ⟨z, hz9, hd9⟩
        obtain ⟨z0, g1, g2⟩ := key
        exact (hr k z0 j d u g1 g2 hu).mono fun b' h => hoth b' (hSfb _ b' h)

/-- A slice in a cell is read: the row remembers what the cell holds. -/
theorem vo_load_subG {x : Operand} {T id R e i o : Nat} {nl : Option Bool} {xs : List PV} {p c : PV} {D : TypeDesc} (ht : Nat.blt t s.n = true) (hx : getO s.env x = .ptr id e i o) (hrow : s.rows[id]? = some (.tree R e nl none xs))
    (hT : P.underlying T = some D) (hD : D.isRow = false) (hget : xs[i]? = some p) (hc : p.cells[o]? = some c)
    (next : ∀ u : Value, VO P C ops rest Q ⟨s.n, (t, .val u) :: s.env, s.rows.set id (.tree R e nl (some (i * e + o, some u)) xs)⟩) : VO P C ops (⟨some t, .load T x, ty, pos, af, none⟩ :: rest) Q s := by
  refine vo_valueX' (fun m a w hs => ?_) next
  obtain ⟨b, vals, Sf, hv, hb, hown, hf, hcell, hr, hd, hn, hz, hS, h1, h2, hw, cap, cur, hV, hheap, hle, hmx, hcs, htk⟩ := hs.elemT hx hrow hget
  have hlid : liveAt s.rows id := ⟨_, hrow, rfl⟩
  have ho : o < e := by rw [← hf.1]; exact (List.getElem?_eq_some_iff.1 hc).1
  have hi : i < xs.length := (List.getElem?_eq_some_iff.1 hget).1
  have hlt : i * e + o < xs.length * e := by
    have := Nat.mul_le_mul_right e (show i + 1 ≤ xs.length by omega)
    rw [Nat.add_mul] at this
    omega
  have hvl : vals.length = xs.length * e := hown.1
  have hu := List.getElem?_eq_getElem (show i * e + o < vals.length by omega)
  have hcl := hcell _ hlt
  rw [hu] at hcl
  refine ⟨vals[i * e + o], ?_, ?_⟩
  · have hagg : (isAgg T).run P w = .ok false w := by
      cases D <;> simp_all [isAgg, run_underlying hT]
    simp [execOp, Instr.loadAt, hv, Instr.sureAddr, loadVar, hagg, load, Sem.run, hcl]
  · exact hs.storeRow (w' := w) (bo := none) hlid (fun _ e => by cases e) ⟨rfl, rfl, rfl, Nat.le_refl _, fun _ _ _ => rfl⟩ _ (fun hG => RowOK.mono (m := m) hG (Nat.le_refl _) (fun _ _ => rfl)
      (.tree (m id) R e nl _ xs vals Sf hown h1 h2 hw (fun k y j c u hy hc hu => .inl (hr k y j c u hy hc hu)) hd hn hz hS (fun q u h => by cases h; exact hu)) (fun _ _ _ => rfl))
where
  vo_valueX' {s1 : Value → List Row} {op : Op} (hrun : ∀ m a w, SimM C s m a w → ∃ v, (execOp a.eval ⟨some t, op, ty, pos, af, none⟩).run P w = .ok (.value v) w ∧ SimM C ⟨s.n, s.env, s1 v⟩ m a w)
      (next : ∀ u, VO P C ops rest Q ⟨s.n, (t, .val u) :: s.env, s1 u⟩) : VO P C ops (⟨some t, op, ty, pos, af, none⟩ :: rest) Q s := by
    intro a w ⟨m, hs⟩
    obtain ⟨v, hr, hs'⟩ := hrun m a w hs
    refine wpList_plain rfl fun K hK => ?_
    unfold Oper.wp
    rw [hr, Oper.upon_value]
    exact hK _ _ (next v _ _ ⟨m, hs'.put (blt_lt ht) (.val v)⟩)

/-- A slice in a cell is lent: the function writes it, and hands back numbers. -/
theorem vo_call_subG {f : FuncId} {fn : Func} {x0 : Operand} {xr : List Operand} {Ts : Array TypeId} {id R e q : Nat} (i o : Nat) {nl nlc : Option Bool} {ec : Nat} {u : Value} {xs ys : List PV} {p : PV} (pf : List PV → PV) {args : List SV} {Rp : List SV → List PV → Prop}
    (hf : P.funcs[f]? = some fn) (hnm : (fn.name == "runtime.NumGoroutine") = false) (hbd : fn.body.isNone = false) (ht : Nat.blt t s.n = true)
    (hx0 : getO s.env x0 = .val u) (hrow : s.rows[id]? = some (.tree R e nl (some (q, some u)) xs)) (hq : q = i * e + o) (hget : xs[i]? = some p) (hco : p.cells[o]? = some (.sl nlc ec ys)) (hpf : ∀ ys', (pf ys').cells = p.cells.set o (.sl nlc ec ys'))
    (hargs : (xr.map (getO s.env)) = args) (hsc : args.all SV.isScal = true)
    (hsat : ∀ Rc, SatAt P f (.ref 0 :: args) [.tree Rc ec nlc none ys] (fun res rows' => ∃ ys', rows' = [.tree Rc ec nlc none ys'] ∧ res.all SV.isScal = true ∧ Rp res ys'))
    (next : ∀ res ys', res.all SV.isScal = true → Rp res ys' → VO P C ops rest Q ⟨s.n, (t, packS res) :: s.env, s.rows.set id (.tree R e nl none (xs.set i (pf ys')))⟩) :
    VO P C ops (⟨some t, .call ⟨.value (.func f), (x0 :: xr).toArray, Ts⟩, ty, pos, af, none⟩ :: rest) Q s := by
  intro a w ⟨m, hs⟩
  have hlid : liveAt s.rows id := ⟨_, hrow, rfl⟩
  have hR := hs.rows id _ hrow
  have hu0 : a.eval x0 = u := by
    have := hs.get x0
    rw [hx0] at this
    generalize a.eval x0 = v at this
    cases this
    rfl
  have hlt : ∀ {b : Nat}, (m id).S b → b < w.heap.size := fun hb => hs.lt hlid hb
  have hdist := hs.dist
  have hnewb := hs.newb
  have hbor := hs.bor
  generalize hmv : m id = v at *
  cases hR with
  | tree mv t' e nl h xs vals Sf hown h1 h2 hw hr hd hn hz hS hkn =>
    have hui : vals[q]? = some u := hkn q u rfl
    have hf0 := hw i p hget
    have ho : o < e := by rw [← hf0.1]; exact (List.getElem?_eq_some_iff.1 hco).1
    have hTP : TP w (.sl nlc ec ys) u (Sf q) := by
      have := (hr i p o (.sl nlc ec ys) u hget hco (by rw [← hq]; exact hui)).tpK
      rw [← hq] at this
      exact this
    have hix : i < xs.length := (List.getElem?_eq_some_iff.1 hget).1
    obtain ⟨Rc, hRc⟩ : ∃ Rc, RowOK w (fun _ _ => False) (fun _ => ⟨u, Sf q⟩) 1 ⟨u, Sf q⟩ (.tree Rc ec nlc none ys) := by
      generalize Sf q = S1 at *
      cases hTP with
      | scal _ _ _ hsc9 => simp [PV.scal] at hsc9
      | sl tc _ _ _ _ vals2 Sf2 _ hown2 g1 g2 gw gr gd gn gz gS =>
        exact ⟨tc, .tree ⟨u, S1⟩ tc ec nlc none ys vals2 Sf2 hown2 g1 g2 gw (fun k y j c u hy hc hu => .inl (gr k y j c u hy hc hu)) gd gn gz gS (fun _ _ h => by cases h)⟩
    refine wpList_plain rfl fun K hK => ?_
    unfold Oper.wp
    rw [run_call (t := t) hf hnm hbd, Oper.upon_enter]
    let C' : Ctx := ⟨w, fun _ => False, 1, fun _ => ⟨u, Sf q⟩⟩
    have hvals : ((x0 :: xr).toArray.map a.eval) = (u :: xr.map a.eval).toArray := by simp [hu0]
    have hsz : ((x0 :: xr).toArray.map a.eval).size = (SV.ref 0 :: args).length := by rw [← hargs]; simp
    have hs0 : SimM C' ⟨((x0 :: xr).toArray.map a.eval).size, enumE 0 (.ref 0 :: args), [.tree Rc ec nlc none ys]⟩ (fun _ => ⟨u, Sf q⟩) ⟨(x0 :: xr).toArray.map a.eval, []⟩ C'.w0 := {
      defs := rfl
      size := rfl
      os := rfl
      tape := rfl
      output := rfl
      hsz := Nat.le_refl _
      old := fun _ _ _ => rfl
      bor := fun _ _ => rfl
      nbl := Nat.le_refl _
      newb := fun k b hk hl _ => by
        obtain ⟨r, hr, _⟩ := hl
        have : k < 1 := (List.getElem?_eq_some_iff.1 hr).1
        change 1 ≤ k at hk
        omega
      dist := fun k1 k2 b hl1 hl2 _ _ => by
        obtain ⟨r, hr, _⟩ := hl1
        obtain ⟨r2, hr2, _⟩ := hl2
        have a1 : k1 < 1 := (List.getElem?_eq_some_iff.1 hr).1
        have a2 : k2 < 1 := (List.getElem?_eq_some_iff.1 hr2).1
        omega
      rows := fun k r hk => by
        have a1 : k < 1 := (List.getElem?_eq_some_iff.1 hk).1
        have a2 : k = 0 := by omega
        subst a2
        cases hk
        exact RowOK.mono (m := fun _ => ⟨u, Sf q⟩) (fun _ _ h => h.elim) (Nat.le_refl _) (fun _ _ => rfl) hRc (fun _ _ _ => rfl)
      env := fun k => by
        show RS w _ _ _ (look (enumE 0 (.ref 0 :: args)) k) _
        rw [look_enumE]
        simp only [Nat.zero_le, if_true, Nat.sub_zero]
        rw [hvals]
        cases k with
        | zero => exact .ref 0 (by simp)
        | succ k =>
          simp only [List.getElem?_cons_succ]
          rw [← hargs]
          simp only [List.getElem?_map]
          cases hk : xr[k]? with
          | none => exact .any _
          | some y =>
            simp only [Option.map_some, Option.getD_some]
            have e2 : ((u :: xr.map a.eval).toArray).getD (k+1) undef = a.eval y := by
              have hkl := (List.getElem?_eq_some_iff.1 hk)
              obtain ⟨hkl, e⟩ := hkl
              simp [Array.getD, hkl, e]
            rw [e2]
            have hv := hs.get y
            have hyy : (getO s.env y).isScal = true := by
              rw [List.all_eq_true] at hsc
              exact hsc _ (by rw [← hargs]; exact List.mem_map.2 ⟨y, List.mem_of_getElem? hk, rfl⟩)
            generalize getO s.env y = gy at *
            generalize a.eval y = vy at *
            cases hv with
            | pv fr p v hp => exact .pv _ _ _ (hp.scal_any hyy)
            | _ => simp [SV.isScal] at hyy }
    refine (hsat Rc C' (fun _ => ⟨u, Sf q⟩) _ rfl (fun b hb => hb.elim) hsz hs0).mono ?_
    rintro ex w' ⟨us, res, rows', m2, rfl, hus, hs', ys', rfl, hrs, hRp⟩
    have hold : ∀ k, k < w.heap.size → ¬ Sf q k → w'.heap[k]? = w.heap[k]? := fun k hk hn => hs'.old k hk (fun q _ => hn)
    have hszw : w.heap.size ≤ w'.heap.size := hs'.hsz
    have hm20 : m2 0 = ⟨u, Sf q⟩ := hs'.bor 0 (Nat.lt_succ_self 0)
    have hRc' : RowOK w' (Gd C' [.tree Rc ec nlc none ys'] m2 w') m2 1 ⟨u, Sf q⟩ (.tree Rc ec nlc none ys') := by
      have := hs'.rows 0 _ rfl
      rw [hm20] at this
      exact this
    have hTP' := TP.of_tree hRc'
    have hSid : ∀ b, Sf q b → v.S b := fun b hb => (hS b).2 (.inr ⟨q, hb⟩)
    have hG : ∀ fl b, Gd C s.rows m w fl b → Gd C (s.rows.set id (.tree R e nl none (xs.set i (pf ys')))) m w' fl b ∧ w'.heap[b]? = w.heap[b]? :=
      Gd.step (fun b => Sf q b) hszw hold (fun b hb => ⟨id, hlid, by rw [hmv]; exact hSid b hb⟩) (fun b _ ⟨j, hl, hbk⟩ => ⟨j, liveAt_set hl hlid, hbk⟩)
    have hidl : id < s.rows.length := (List.getElem?_eq_some_iff.1 hrow).1
    have hvl : vals.length = xs.length * e := hown.1
    have hnew : RowOK w' (Gd C (s.rows.set id (.tree R e nl none (xs.set i (pf ys')))) m w') m s.rows.length v (.tree R e nl none (xs.set i (pf ys'))) := by
      have hown' : w'.ownsRow 0 R e v.v xs.length vals := ownsRow_blk hown fun b hb => hold b (hlt ((hS b).2 (.inl hb))) (fun h => hn q b h hb)
      refine .tree v R e nl none _ vals Sf (by rw [List.length_set]; exact hown') h1 h2 ?_ ?_ hd hn (by rw [List.length_set]; exact hz) hS (fun _ _ h => by cases h)
      · intro k y hy
        rw [List.getElem?_set] at hy
        split at hy
        · cases hy; exact fits_set hf0 rfl (hpf ys')
        · exact hw k y hy
      · intro k y j c uu hy hc huu
        have hkz : y.fits e := by
          rw [List.getElem?_set] at hy
          split at hy
          · cases hy; exact fits_set hf0 rfl (hpf ys')
          · exact hw k y hy
        have hj : j < e := by rw [← hkz.1]; exact (List.getElem?_eq_some_iff.1 hc).1
        by_cases hkj : k = i ∧ j = o
        · obtain ⟨rfl, rfl⟩ := hkj
          rw [List.getElem?_set_self hix] at hy
          cases hy
          rw [hpf, List.getElem?_set_self (by rw [hf0.1]; exact ho)] at hc
          cases hc
          rw [← hq, hui] at huu
          cases huu
          rw [← hq]
          exact .inl hTP'
        · have key : ∃ z0, xs[k]? = some z0 ∧ z0.cells[j]? = some c := by
            rw [List.getElem?_set] at hy
            split at hy
            · rename_i e1
              subst e1
              cases hy
              refine ⟨p, hget, ?_⟩
              rw [hpf, List.getElem?_set_ne (fun e => hkj ⟨rfl, e.symm⟩)] at hc
              exact hc
            · exact ⟨y, hy, hc⟩
          obtain ⟨z0, g1, g2⟩ := key
          have h3 := (hr k z0 j c uu g1 g2 huu).tpK
          refine .inl (h3.mono fun b hb => hold b (hlt ((hS b).2 (.inr ⟨_, hb⟩))) (fun h => idx_ne hj ho hkj ?_))
          rw [← hq]
          exact hd _ _ b hb h
    have hs2 : SimM C ⟨s.n, s.env, s.rows.set id (.tree R e nl none (xs.set i (pf ys')))⟩ m a w' := {
      defs := hs.defs
      size := hs.size
      os := hs'.os.trans hs.os
      tape := hs'.tape.trans hs.tape
      output := hs'.output.trans hs.output
      hsz := Nat.le_trans hs.hsz hszw
      old := fun k hk hn2 => by
        refine (hold k (by have := hs.hsz; omega) (fun h => ?_)).trans (hs.old k hk hn2)
        by_cases hb : id < C.nb
        · exact hn2 id hb (by rw [← hbor id hb, hmv]; exact hSid k h)
        · have := hnewb id k (by omega) hlid (by rw [hmv]; exact hSid k h); omega
      bor := hbor
      nbl := by have := hs.nbl; simp; omega
      newb := fun j b hj hl hbk => hnewb j b hj (liveAt_set hl hlid) hbk
      dist := fun j1 j2 b l1 l2 b1 b2 => hdist j1 j2 b (liveAt_set l1 hlid) (liveAt_set l2 hlid) b1 b2
      rows := fun j r hq9 => by
        change (s.rows.set id (.tree R e nl none (xs.set i (pf ys'))))[j]? = some r at hq9
        show RowOK w' _ m (s.rows.set id (.tree R e nl none (xs.set i (pf ys')))).length _ r
        rw [List.length_set]
        rw [List.getElem?_set] at hq9
        split at hq9
        · rename_i e
          subst e
          simp [hidl] at hq9
          subst hq9
          rw [hmv]
          exact hnew
        · rename_i e
          exact RowOK.mono (N' := s.rows.length) (m' := m) hG (Nat.le_refl _) (fun _ _ => rfl) (hs.rows j r hq9) (fun hdd b hbk => hold b (hs.lt ⟨r, hq9, hdd⟩ hbk) (fun h => e (hdist id j b hlid ⟨r, hq9, hdd⟩ (by rw [hmv]; exact hSid b h) hbk)))
      env := fun k => by
        show RS w' _ m (s.rows.set id (.tree R e nl none (xs.set i (pf ys')))).length _ _
        rw [List.length_set]
        exact (hs.env k).mono hG (Nat.le_refl _) (fun _ _ => rfl) }
    have hres : ∀ (j : Nat) (r : SV) (G' : Bool → Nat → Prop) (N' : Nat), res[j]? = some r → RS w' G' m N' r (us.getD j undef) := by
      intro j r G' N' hj
      have hv := hs'.env j
      change RS w' _ _ _ (look (enumE 0 res) j) (us.getD j undef) at hv
      rw [look_enumE] at hv
      simp only [Nat.zero_le, if_true, Nat.sub_zero, hj, Option.getD_some] at hv
      have hrp : r.isScal = true := by rw [List.all_eq_true] at hrs; exact hrs r (List.mem_of_getElem? hj)
      generalize us.getD j undef = vv at *
      cases hv with
      | pv fr p v hp => exact .pv _ _ _ (hp.scal_any hrp)
      | _ => simp [SV.isScal] at hrp
    refine hK _ _ (next res ys' hrs hRp _ _ ⟨m, hs2.put (blt_lt ht) ?_⟩)
    match res, hus, hres with
    | [], hus, _ =>
      have : us = #[] := Array.eq_empty_of_size_eq_zero (by simpa using hus)
      subst this
      exact .tup _ _ rfl (fun j c v hc => by simp at hc)
    | [r], hus, hres =>
      have h1 : us.size = 1 := by simpa using hus
      have := hres 0 r (Gd C (s.rows.set id (.tree R e nl none (xs.set i (pf ys')))) m w') (s.rows.set id (.tree R e nl none (xs.set i (pf ys')))).length rfl
      simp only [packS, pack, h1, dif_pos]
      simpa [Array.getD, h1] using this
    | r1 :: r2 :: rs, hus, hres =>
      have h1 : us.size ≠ 1 := by rw [hus]; simp
      simp only [packS, pack, h1, dif_neg, not_false_iff]
      refine .tup _ _ hus (fun j c v hc hv => ?_)
      have := hres j c (Gd C (s.rows.set id (.tree R e nl none (xs.set i (pf ys')))) m w') (s.rows.set id (.tree R e nl none (xs.set i (pf ys')))).length hc
      have e : us.getD j undef = v := by
        rw [Array.getElem?_eq_some_iff] at hv
        obtain ⟨hlt, e⟩ := hv
        simp [Array.getD, hlt, e]
      rw [e] at this
      exact this
end
end Go.Vl

/- Numbers that are written into the cells of lists, one by one (pure). -/
namespace Go.Vl
set_option linter.unusedVariables false
set_option linter.unusedSimpArgs false

def mkS {α : Type} (f : Int → α → α) (g : Int → α → Int) : Int → List α → List α
  | _, [] => []
  | k, x :: r => f k x :: mkS f g (g k x) r
def mkN {α : Type} (g : Int → α → Int) : Int → List α → Int
  | k, [] => k
  | k, x :: r => mkN g (g k x) r
section
variable {α : Type} {f : Int → α → α} {g : Int → α → Int}
theorem mkN_snoc : ∀ (a : List α) (k : Int) (l : α), mkN g k (a ++ [l]) = g (mkN g k a) l
  | [], _, _ => rfl
  | _ :: a, _, l => mkN_snoc a _ l
theorem mkS_snoc : ∀ (a : List α) (k : Int) (l : α), mkS f g k (a ++ [l]) = mkS f g k a ++ [f (mkN g k a) l]
  | [], _, _ => rfl
  | x :: a, k, l => by show f k x :: mkS f g _ (a ++ [l]) = _; rw [mkS_snoc a]; rfl
theorem mkS_len : ∀ (a : List α) (k : Int), (mkS f g k a).length = a.length
  | [], _ => rfl
  | _ :: a, k => by show (mkS f g _ a).length + 1 = a.length + 1; rw [mkS_len a]
theorem mkN_bd {c : Int} (hc : 0 ≤ c) : ∀ (a : List α) (k : Int), (∀ x ∈ a, ∀ k, k ≤ g k x ∧ g k x ≤ k + c) → k ≤ mkN g k a ∧ mkN g k a ≤ k + c * a.length
  | [], k, _ => by show k ≤ k ∧ k ≤ k + c * ((0 : Nat) : Int); omega
  | x :: a, k, h => by
    have h1 := mkN_bd hc a (g k x) fun l hl => h l (List.mem_cons_of_mem _ hl)
    have h2 := h x List.mem_cons_self k
    show k ≤ mkN g (g k x) a ∧ mkN g (g k x) a ≤ k + c * ((a.length + 1 : Nat) : Int)
    have : c * ((a.length + 1 : Nat) : Int) = c * a.length + c := by rw [Int.natCast_add, Int.mul_add]; simp
    omega
theorem snoc_takeD {a : List α} {i : Nat} {d : α} (h : i < a.length) : a.take i ++ [a.getD i d] = a.take (i+1) := by
  rw [List.take_add_one, List.getD, List.getElem?_eq_getElem h]; rfl
theorem mkN_tk {a : List α} {k : Int} {i : Nat} {d : α} (h : i < a.length) : mkN g k (a.take (i+1)) = g (mkN g k (a.take i)) (a.getD i d) := by rw [← snoc_takeD (d := d) h, mkN_snoc]
theorem mkS_tk {a : List α} {k : Int} {i : Nat} {d : α} (h : i < a.length) : mkS f g k (a.take (i+1)) = mkS f g k (a.take i) ++ [f (mkN g k (a.take i)) (a.getD i d)] := by rw [← snoc_takeD (d := d) h, mkS_snoc]
theorem mkS2_len {a : List α} {k : Int} {i : Nat} (h : i ≤ a.length) : (mkS f g k (a.take i) ++ a.drop i).length = a.length := by
  rw [List.length_append, mkS_len, List.length_take, List.length_drop]; omega
theorem mkS2_set {a : List α} {k : Int} {i : Nat} {d : α} (h : i < a.length) : (mkS f g k (a.take i) ++ a.drop i).set i (f (mkN g k (a.take i)) (a.getD i d)) = mkS f g k (a.take (i+1)) ++ a.drop (i+1) := by
  have e : (mkS f g k (a.take i)).length = i := by rw [mkS_len, List.length_take]; omega
  rw [List.set_append_right _ _ (by omega), e, Nat.sub_self, List.drop_eq_getElem_cons h, List.set_cons_zero, mkS_tk (d := d) h, List.append_assoc]; rfl
theorem mkS2_end {a : List α} {k : Int} {i : Nat} (h : i = a.length) : mkS f g k (a.take i) ++ a.drop i = mkS f g k a := by
  subst h; rw [List.take_length, List.drop_length, List.append_nil]
theorem mkN2_end {a : List α} {k : Int} {i : Nat} (h : i = a.length) : mkN g k (a.take i) = mkN g k a := by
  subst h; rw [List.take_length]
theorem getP {fp : α → PV} {L : List α} {i : Nat} (d : α) (h : i < L.length) : (L.map fp)[i]? = some (fp (L.getD i d)) := by
  simp [List.getD, List.getElem?_eq_getElem h]
theorem getS {xs : List PV} {i : Nat} {x : PV} (h : i < xs.length) : (xs.set i x)[i]? = some x := List.getElem?_set_self h
theorem len_set_lt {xs : List PV} {i : Nat} {x : PV} (h : i < xs.length) : i < (xs.set i x).length := by rw [List.length_set]; exact h
theorem len_map_lt {fp : α → PV} {L : List α} {i : Nat} (h : i < L.length) : i < (L.map fp).length := by rw [List.length_map]; exact h
end
theorem rowT_eq {el : TypeId} {e : Nat} {nl : Option Bool} {h : Option (Nat × Option Value)} {xs ys : List PV} (hh : xs = ys) : [Row.tree el e nl h xs] = [Row.tree el e nl h ys] := by rw [hh]
end Go.Vl
namespace Go.Vl
end Go.Vl

namespace Go.Vl
set_option linter.unusedVariables false
set_option linter.unusedSimpArgs false
open Go.Proofs

def fA (k : Int) (_ : AttrM) : AttrM := ⟨k, k + 1, k + 1 + 1⟩
def gA (k : Int) (_ : AttrM) : Int := k + 1 + 1 + 1
theorem mkA_bd (a : List AttrM) (k : Int) : k ≤ mkN gA k a ∧ mkN gA k a ≤ k + 3 * a.length := mkN_bd (by omega) a k fun x _ k => by unfold gA; omega
def fP (k : Int) (_ : Int × Int) : Int × Int := (k, k + 1)
def gP (k : Int) (_ : Int × Int) : Int := k + 1 + 1
theorem mkP_bd (a : List (Int × Int)) (k : Int) : k ≤ mkN gP k a ∧ mkN gP k a ≤ k + 2 * a.length := mkN_bd (by omega) a k fun x _ k => by unfold gP; omega

theorem markAttrS_sat {Rc : TypeId} {nl : Option Bool} {a : List AttrM} {k : Int} (ha : a.length ≤ 2000000) (hk : 0 ≤ k ∧ k < 1000000000000000) : SatAt Tryz.prog 91 [.ref 0, i64 k] [.tree Rc 3 nl none (a.map attrP)] (fun res rows => ∃ ys, rows = [.tree Rc 3 nl none ys] ∧ res.all SV.isScal = true ∧ (res = [i64 (mkN gA k a)] ∧ ys = (mkS fA gA k a).map attrP)) := by
 refine sat_entry_G (rs := [(4, none)]) Tryz.func91 rfl rfl (Nat.le_of_ble_eq_true rfl) (Nat.le_of_ble_eq_true rfl) (resTs1 trivial) fun C hC => ?_
 rw [Tryz.ntmps91]
 replace hC : C.nb = 1 := hC
 refine vc_seq fun K1 hK1 => ?_
 refine vc_region ?_
 refine vo_assign_pv rfl rfl ?_
 refine vo_nil ?_
 refine hK1 _ ?_
 refine vc_seq fun K2 hK2 => ?_
 refine vc_seq fun K3 hK3 => ?_
 refine vc_region ?_
 refine vo_assign_pv rfl rfl ?_
 refine vo_nil ?_
 refine hK3 _ ?_
 refine vc_block ?_
 refine vc_stM ?_
 refine vc_loopE [] [0, 1, 5] [0] _ _ (fun mz vs rs => ∃ (i : Nat) (y : Int), mz = a.length - i ∧ (i ≤ a.length) ∧ (y = mkN gA k (a.take i)) ∧ vs = [.ref 0, i64 y, i64 i] ∧ rs = [Row.tree Rc 3 nl none ((mkS fA gA k (a.take i) ++ a.drop i).map attrP)]) (a.length) rfl rfl (le_len hC rfl) ⟨rfl, rfl, rfl⟩ rfl ⟨0, k, rfl, Nat.zero_le _, rfl, rfl, rfl⟩ ?_
 rintro mz vs rs - - ⟨i, y, rfl, hi, hy, rfl, rfl⟩
 refine vc_stM ?_
 have hL := mkS2_len (f := fA) (g := gA) (k := k) hi
 have hL2 : (mkS fA gA k (a.take i)).length = i := by rw [mkS_len, List.length_take]; omega
 have hb := mkA_bd (a.take i) k
 rw [← hy] at hb
 have hb2 : ((a.take i).length : Int) ≤ 2000000 := by rw [List.length_take]; omega
 refine vc_seq fun K4 hK4 => ?_
 refine vc_seq fun K5 hK5 => ?_
 refine vc_region ?_
 refine vo_move_pv rfl rfl ?_
 refine vo_move_ref rfl rfl ?_
 refine vo_len_ref rfl rfl rfl Tryz.underlying97 ?_
 refine vo_binI rfl rfl rfl rfl trivial ?_
 refine vo_nil ?_
 refine hK5 _ ?_
 refine vc_cond rfl (fun hc1 => ?_) (fun hc1 => ?_)
 ·try simp only [zq0, zq1, zq2, zq3, zq4, zq5, zq6, zq7, zq8, zq9, zqa, zqb, zqc, zqd, zqe, zqf] at hc1
  refine vc_skip ?_
  refine hK4 _ ?_
  refine vc_seq fun K6 hK6 => ?_
  refine vc_block ?_
  refine vc_seq fun K7 hK7 => ?_
  refine vc_region ?_
  refine vo_move_ref rfl rfl ?_
  refine vo_move_pv rfl rfl ?_
  refine vo_move_pv rfl rfl ?_
  refine vo_index_ref rfl rfl rfl rfl E97.und inf52 sz52 sd sd ?_
  try simp only [Int.toNat_natCast]
  refine vo_fieldAddr_ptr rfl rfl Tryz.underlying52 rfl inf3 (by rw [sz3]; decide) ?_
  try simp only [Nat.zero_add]
  refine vo_store_treeC (p' := .agg _) rfl rfl rfl rfl inf3 sz3 (getP (L := mkS fA gA k (a.take i) ++ a.drop i) ⟨0, 0, 0⟩ (by rw [mkS2_len (by omega)]; omega)) rfl rfl rfl ?_
  try simp only [PV.cells, List.set_cons_zero, List.set_cons_succ, Int.toNat_natCast, Int.toNat_zero]
  refine vo_stM ?_
  refine vo_nil ?_
  refine hK7 _ ?_
  refine vc_seq fun K8 hK8 => ?_
  refine vc_region ?_
  refine vo_move_pv rfl rfl ?_
  refine vo_binI rfl rfl rfl rfl sd ?_
  refine vo_assign_pv rfl rfl ?_
  refine vo_nil ?_
  refine hK8 _ ?_
  refine vc_seq fun K9 hK9 => ?_
  refine vc_region ?_
  refine vo_move_ref rfl rfl ?_
  refine vo_move_pv rfl rfl ?_
  refine vo_move_pv rfl rfl ?_
  refine vo_index_ref rfl rfl rfl rfl E97.und inf52 sz52 sd sd ?_
  try simp only [Int.toNat_natCast]
  refine vo_fieldAddr_ptr rfl rfl Tryz.underlying52 rfl inf3 (by rw [sz3]; decide) ?_
  try simp only [Nat.zero_add]
  refine vo_store_treeC (p' := .agg _) rfl rfl rfl rfl inf3 sz3 (getS (len_map_lt (by rw [mkS2_len (by omega)]; omega))) rfl rfl rfl ?_
  try simp only [PV.cells, List.set_cons_zero, List.set_cons_succ, Int.toNat_natCast, Int.toNat_zero]
  refine vo_stM ?_
  refine vo_nil ?_
  refine hK9 _ ?_
  refine vc_seq fun K10 hK10 => ?_
  refine vc_region ?_
  refine vo_move_pv rfl rfl ?_
  refine vo_binI rfl rfl rfl rfl sd ?_
  refine vo_assign_pv rfl rfl ?_
  refine vo_nil ?_
  refine hK10 _ ?_
  refine vc_seq fun K11 hK11 => ?_
  refine vc_region ?_
  refine vo_move_ref rfl rfl ?_
  refine vo_move_pv rfl rfl ?_
  refine vo_move_pv rfl rfl ?_
  refine vo_index_ref rfl rfl rfl rfl E97.und inf52 sz52 sd sd ?_
  try simp only [Int.toNat_natCast]
  refine vo_fieldAddr_ptr rfl rfl Tryz.underlying52 rfl inf3 (by rw [sz3]; decide) ?_
  try simp only [Nat.zero_add]
  refine vo_store_treeC (p' := .agg _) rfl rfl rfl rfl inf3 sz3 (getS (len_set_lt (len_map_lt (by rw [mkS2_len (by omega)]; omega)))) rfl rfl rfl ?_
  try simp only [PV.cells, List.set_cons_zero, List.set_cons_succ, Int.toNat_natCast, Int.toNat_zero]
  refine vo_stM ?_
  refine vo_nil ?_
  refine hK11 _ ?_
  refine vc_region ?_
  refine vo_move_pv rfl rfl ?_
  refine vo_binI rfl rfl rfl rfl sd ?_
  refine vo_assign_pv rfl rfl ?_
  refine vo_nil ?_
  refine hK6 _ ?_
  refine vc_region ?_
  refine vo_move_pv rfl rfl ?_
  refine vo_binI rfl rfl rfl rfl sd ?_
  refine vo_assign_pv rfl rfl ?_
  refine vo_nil ?_
  change againE _ _ _ _ _ _ _ _ _ _
  refine againE_mk rfl rfl rfl rfl rfl rfl ⟨_, ?_, i + 1, _, rfl, ?_, ?_, rfl, (rowT_eq (by rw [← mkS2_set (d := ⟨0, 0, 0⟩) (by omega), ← hy]; simp [List.map_set, List.set_set, fA]))⟩
  ·omega
  ·omega
  ·rw [mkN_tk (d := ⟨0, 0, 0⟩) (by omega), ← hy]; rfl
 ·try simp only [zq0, zq1, zq2, zq3, zq4, zq5, zq6, zq7, zq8, zq9, zqa, zqb, zqc, zqd, zqe, zqf] at hc1
  refine vc_exit ?_
  refine hK2 _ ?_
  refine vc_seq fun K12 hK12 => ?_
  refine vc_region ?_
  refine vo_move_pv rfl rfl ?_
  refine vo_assign_pv rfl rfl ?_
  refine vo_nil ?_
  refine hK12 _ ?_
  refine vc_ret ?_
  change retQ _ _ _ _ _
  refine retQ_sel [] (srows := []) (.inr rfl) hC rfl rfl rfl rfl rfl rfl rfl ?_
  have e1 : i = a.length := by omega
  rw [hy, mkN2_end e1, mkS2_end e1]
  exact ⟨_, rfl, rfl, rfl, rfl⟩


theorem markPairS_sat {Rc : TypeId} {nl : Option Bool} {a : List (Int × Int)} {k : Int} (ha : a.length ≤ 2000000) (hk : 0 ≤ k ∧ k < 1000000000000000) : SatAt Tryz.prog 92 [.ref 0, i64 k] [.tree Rc 2 nl none (a.map pairP)] (fun res rows => ∃ ys, rows = [.tree Rc 2 nl none ys] ∧ res.all SV.isScal = true ∧ (res = [i64 (mkN gP k a)] ∧ ys = (mkS fP gP k a).map pairP)) := by
 refine sat_entry_G (rs := [(4, none)]) Tryz.func92 rfl rfl (Nat.le_of_ble_eq_true rfl) (Nat.le_of_ble_eq_true rfl) (resTs1 trivial) fun C hC => ?_
 rw [Tryz.ntmps92]
 replace hC : C.nb = 1 := hC
 refine vc_seq fun K1 hK1 => ?_
 refine vc_region ?_
 refine vo_assign_pv rfl rfl ?_
 refine vo_nil ?_
 refine hK1 _ ?_
 refine vc_seq fun K2 hK2 => ?_
 refine vc_seq fun K3 hK3 => ?_
 refine vc_region ?_
 refine vo_assign_pv rfl rfl ?_
 refine vo_nil ?_
 refine hK3 _ ?_
 refine vc_block ?_
 refine vc_stM ?_
 refine vc_loopE [] [0, 1, 5] [0] _ _ (fun mz vs rs => ∃ (i : Nat) (y : Int), mz = a.length - i ∧ (i ≤ a.length) ∧ (y = mkN gP k (a.take i)) ∧ vs = [.ref 0, i64 y, i64 i] ∧ rs = [Row.tree Rc 2 nl none ((mkS fP gP k (a.take i) ++ a.drop i).map pairP)]) (a.length) rfl rfl (le_len hC rfl) ⟨rfl, rfl, rfl⟩ rfl ⟨0, k, rfl, Nat.zero_le _, rfl, rfl, rfl⟩ ?_
 rintro mz vs rs - - ⟨i, y, rfl, hi, hy, rfl, rfl⟩
 refine vc_stM ?_
 have hL := mkS2_len (f := fP) (g := gP) (k := k) hi
 have hL2 : (mkS fP gP k (a.take i)).length = i := by rw [mkS_len, List.length_take]; omega
 have hb := mkP_bd (a.take i) k
 rw [← hy] at hb
 have hb2 : ((a.take i).length : Int) ≤ 2000000 := by rw [List.length_take]; omega
 refine vc_seq fun K4 hK4 => ?_
 refine vc_seq fun K5 hK5 => ?_
 refine vc_region ?_
 refine vo_move_pv rfl rfl ?_
 refine vo_move_ref rfl rfl ?_
 refine vo_len_ref rfl rfl rfl Tryz.underlying55 ?_
 refine vo_binI rfl rfl rfl rfl trivial ?_
 refine vo_nil ?_
 refine hK5 _ ?_
 refine vc_cond rfl (fun hc1 => ?_) (fun hc1 => ?_)
 ·try simp only [zq0, zq1, zq2, zq3, zq4, zq5, zq6, zq7, zq8, zq9, zqa, zqb, zqc, zqd, zqe, zqf] at hc1
  refine vc_skip ?_
  refine hK4 _ ?_
  refine vc_seq fun K6 hK6 => ?_
  refine vc_block ?_
  refine vc_seq fun K7 hK7 => ?_
  refine vc_region ?_
  refine vo_move_ref rfl rfl ?_
  refine vo_move_pv rfl rfl ?_
  refine vo_move_pv rfl rfl ?_
  refine vo_index_ref rfl rfl rfl rfl E55.und inf102 sz102 sd sd ?_
  try simp only [Int.toNat_natCast]
  refine vo_fieldAddr_ptr rfl rfl Tryz.underlying102 rfl inf3 (by rw [sz3]; decide) ?_
  try simp only [Nat.zero_add]
  refine vo_store_treeC (p' := .agg _) rfl rfl rfl rfl inf3 sz3 (getP (L := mkS fP gP k (a.take i) ++ a.drop i) (0, 0) (by rw [mkS2_len (by omega)]; omega)) rfl rfl rfl ?_
  try simp only [PV.cells, List.set_cons_zero, List.set_cons_succ, Int.toNat_natCast, Int.toNat_zero]
  refine vo_stM ?_
  refine vo_nil ?_
  refine hK7 _ ?_
  refine vc_seq fun K8 hK8 => ?_
  refine vc_region ?_
  refine vo_move_pv rfl rfl ?_
  refine vo_binI rfl rfl rfl rfl sd ?_
  refine vo_assign_pv rfl rfl ?_
  refine vo_nil ?_
  refine hK8 _ ?_
  refine vc_seq fun K9 hK9 => ?_
  refine vc_region ?_
  refine vo_move_ref rfl rfl ?_
  refine vo_move_pv rfl rfl ?_
  refine vo_move_pv rfl rfl ?_
  refine vo_index_ref rfl rfl rfl rfl E55.und inf102 sz102 sd sd ?_
  try simp only [Int.toNat_natCast]
  refine vo_fieldAddr_ptr rfl rfl Tryz.underlying102 rfl inf3 (by rw [sz3]; decide) ?_
  try simp only [Nat.zero_add]
  refine vo_store_treeC (p' := .agg _) rfl rfl rfl rfl inf3 sz3 (getS (len_map_lt (by rw [mkS2_len (by omega)]; omega))) rfl rfl rfl ?_
  try simp only [PV.cells, List.set_cons_zero, List.set_cons_succ, Int.toNat_natCast, Int.toNat_zero]
  refine vo_stM ?_
  refine vo_nil ?_
  refine hK9 _ ?_
  refine vc_region ?_
  refine vo_move_pv rfl rfl ?_
  refine vo_binI rfl rfl rfl rfl sd ?_
  refine vo_assign_pv rfl rfl ?_
  refine vo_nil ?_
  refine hK6 _ ?_
  refine vc_region ?_
  refine vo_move_pv rfl rfl ?_
  refine vo_binI rfl rfl rfl rfl sd ?_
  refine vo_assign_pv rfl rfl ?_
  refine vo_nil ?_
  change againE _ _ _ _ _ _ _ _ _ _
  refine againE_mk rfl rfl rfl rfl rfl rfl ⟨_, ?_, i + 1, _, rfl, ?_, ?_, rfl, (rowT_eq (by rw [← mkS2_set (d := (0, 0)) (by omega), ← hy]; simp [List.map_set, List.set_set, fP]))⟩
  ·omega
  ·omega
  ·rw [mkN_tk (d := (0, 0)) (by omega), ← hy]; rfl
 ·try simp only [zq0, zq1, zq2, zq3, zq4, zq5, zq6, zq7, zq8, zq9, zqa, zqb, zqc, zqd, zqe, zqf] at hc1
  refine vc_exit ?_
  refine hK2 _ ?_
  refine vc_seq fun K10 hK10 => ?_
  refine vc_region ?_
  refine vo_move_pv rfl rfl ?_
  refine vo_assign_pv rfl rfl ?_
  refine vo_nil ?_
  refine hK10 _ ?_
  refine vc_ret ?_
  change retQ _ _ _ _ _
  refine retQ_sel [] (srows := []) (.inr rfl) hC rfl rfl rfl rfl rfl rfl rfl ?_
  have e1 : i = a.length := by omega
  rw [hy, mkN2_end e1, mkS2_end e1]
  exact ⟨_, rfl, rfl, rfl, rfl⟩

end Go.Vl

namespace Go.Vl
set_option linter.unusedVariables false
set_option linter.unusedSimpArgs false
open Go.Proofs

theorem set_lensA {L : List (List AttrM)} (h : ∀ l ∈ L, l.length ≤ 2000000) {i : Nat} {l : List AttrM} (hl : l.length ≤ 2000000) : ∀ x ∈ L.set i l, x.length ≤ 2000000 := by
  intro y hy
  rcases List.mem_or_eq_of_mem_set hy with h1 | h1
  · exact h y h1
  · rw [h1]; exact hl
theorem set_lensO {L : List ObjM} (h : ∀ o ∈ L, SO o) {i : Nat} {o : ObjM} (hl : SO o) : ∀ x ∈ L.set i o, SO x := by
  intro y hy
  rcases List.mem_or_eq_of_mem_set hy with h1 | h1
  · exact h y h1
  · rw [h1]; exact hl

theorem markAttrSS_sat {R : TypeId} {nl : Option Bool} {L : List (List AttrM)} {k : Int} (hL : L.length ≤ 2000000) (hl : ∀ l ∈ L, l.length ≤ 2000000) (hk : 0 ≤ k ∧ k < 100000000000000) : SatAt Tryz.prog 45 [.ref 0, i64 k] [.tree R 1 nl none (L.map attrsP)] (fun res rows => ∃ (v : Int) (ys : List PV), (k ≤ v ∧ v ≤ k + 6000000 * L.length) ∧ res = [i64 v] ∧ rows = [.tree R 1 nl none ys]) := by
 refine sat_entry_G (rs := [(4, none)]) Tryz.func45 rfl rfl (Nat.le_of_ble_eq_true rfl) (Nat.le_of_ble_eq_true rfl) (resTs1 trivial) fun C hC => ?_
 rw [Tryz.ntmps45]
 replace hC : C.nb = 1 := hC
 refine vc_seq fun K1 hK1 => ?_
 refine vc_region ?_
 refine vo_assign_pv rfl rfl ?_
 refine vo_nil ?_
 refine hK1 _ ?_
 refine vc_seq fun K2 hK2 => ?_
 refine vc_seq fun K3 hK3 => ?_
 refine vc_region ?_
 refine vo_assign_pv rfl rfl ?_
 refine vo_nil ?_
 refine hK3 _ ?_
 refine vc_block ?_
 refine vc_stM ?_
 refine vc_loopE [] [0, 1, 5] [0] _ _ (fun mz vs rs => ∃ (i : Nat) (y : Int) (X : List (List AttrM)), mz = L.length - i ∧ (i ≤ L.length) ∧ (X.length = L.length) ∧ (∀ l ∈ X, l.length ≤ 2000000) ∧ (k ≤ y ∧ y ≤ k + 6000000 * i) ∧ vs = [.ref 0, i64 y, i64 i] ∧ rs = [Row.tree R 1 nl none (X.map attrsP)]) (L.length) rfl rfl (le_len hC rfl) ⟨rfl, rfl, rfl⟩ rfl ⟨0, k, L, rfl, Nat.zero_le _, rfl, hl, (by omega), rfl, rfl⟩ ?_
 rintro mz vs rs - - ⟨i, y, X, rfl, hi, hXl, hX, hy, rfl, rfl⟩
 refine vc_stM ?_
 have hak := getD_all (p := fun l : List AttrM => l.length ≤ 2000000) hX [] (by simp) i
 have hbd := mkA_bd (X.getD i []) y
 have hml : (mkS fA gA y (X.getD i [])).length = (X.getD i []).length := mkS_len _ _
 refine vc_seq fun K4 hK4 => ?_
 refine vc_seq fun K5 hK5 => ?_
 refine vc_region ?_
 refine vo_move_pv rfl rfl ?_
 refine vo_move_ref rfl rfl ?_
 refine vo_len_ref rfl rfl rfl Tryz.underlying30 ?_
 refine vo_binI rfl rfl rfl rfl trivial ?_
 refine vo_nil ?_
 refine hK5 _ ?_
 refine vc_cond rfl (fun hc1 => ?_) (fun hc1 => ?_)
 ·try simp only [zq0, zq1, zq2, zq3, zq4, zq5, zq6, zq7, zq8, zq9, zqa, zqb, zqc, zqd, zqe, zqf] at hc1
  refine vc_skip ?_
  refine hK4 _ ?_
  refine vc_seq fun K6 hK6 => ?_
  refine vc_block ?_
  refine vc_region ?_
  refine vo_move_ref rfl rfl ?_
  refine vo_move_pv rfl rfl ?_
  refine vo_index_ref rfl rfl rfl rfl E30.und inf97 sz97 sd sd ?_
  try simp only [Int.toNat_natCast]
  refine vo_load_subG rfl rfl rfl Tryz.underlying97 rfl (getP (L := X) [] (by omega)) rfl fun u15 => ?_
  refine vo_stM ?_
  refine vo_move_pv rfl rfl ?_
  refine vo_call_subG i 0 (fun ys => PV.sl none 3 ys) (id := 0) Tryz.func91 rfl rfl rfl rfl rfl (by first | rfl | omega) (getP (L := X) [] (by omega)) rfl (fun _ => rfl) rfl rfl (fun Rc => markAttrS_sat (Rc := Rc) (a := X.getD i []) (k := y) (by omega) (by omega)) ?_
  rintro _ _ - ⟨rfl, rfl⟩
  refine vo_stM ?_
  try simp only [Int.toNat_natCast]
  refine vo_assign_pv rfl rfl ?_
  refine vo_nil ?_
  refine hK6 _ ?_
  refine vc_region ?_
  refine vo_move_pv rfl rfl ?_
  refine vo_binI rfl rfl rfl rfl sd ?_
  refine vo_assign_pv rfl rfl ?_
  refine vo_nil ?_
  change againE _ _ _ _ _ _ _ _ _ _
  refine againE_mk rfl rfl rfl rfl rfl rfl ⟨_, ?_, i + 1, _, X.set i (mkS fA gA y (X.getD i [])), rfl, ?_, ?_, ?_, ?_, rfl, (rowT_eq (by rw [List.map_set]))⟩
  ·omega
  ·omega
  ·rw [List.length_set]; exact hXl
  ·exact set_lensA hX (by rw [hml]; exact hak)
  ·omega
 ·try simp only [zq0, zq1, zq2, zq3, zq4, zq5, zq6, zq7, zq8, zq9, zqa, zqb, zqc, zqd, zqe, zqf] at hc1
  refine vc_exit ?_
  refine hK2 _ ?_
  refine vc_seq fun K7 hK7 => ?_
  refine vc_region ?_
  refine vo_move_pv rfl rfl ?_
  refine vo_assign_pv rfl rfl ?_
  refine vo_nil ?_
  refine hK7 _ ?_
  refine vc_ret ?_
  change retQ _ _ _ _ _
  refine retQ_sel [] (srows := []) (.inr rfl) hC rfl rfl rfl rfl rfl rfl rfl ?_
  exact ⟨_, _, ⟨by omega, by omega⟩, rfl, rfl⟩


theorem markObjectS_sat {R : TypeId} {nl : Option Bool} {L : List ObjM} {k : Int} (hL : L.length ≤ 2000000) (hl : ∀ o ∈ L, SO o) (hk : 0 ≤ k ∧ k < 100000000000000) : SatAt Tryz.prog 46 [.ref 0, i64 k] [.tree R 2 nl none (L.map objP)] (fun res rows => ∃ (v : Int) (ys : List PV), (k ≤ v ∧ v ≤ k + 6000000 * L.length) ∧ res = [i64 v] ∧ rows = [.tree R 2 nl none ys]) := by
 refine sat_entry_G (rs := [(4, none)]) Tryz.func46 rfl rfl (Nat.le_of_ble_eq_true rfl) (Nat.le_of_ble_eq_true rfl) (resTs1 trivial) fun C hC => ?_
 rw [Tryz.ntmps46]
 replace hC : C.nb = 1 := hC
 refine vc_seq fun K1 hK1 => ?_
 refine vc_region ?_
 refine vo_assign_pv rfl rfl ?_
 refine vo_nil ?_
 refine hK1 _ ?_
 refine vc_seq fun K2 hK2 => ?_
 refine vc_seq fun K3 hK3 => ?_
 refine vc_region ?_
 refine vo_assign_pv rfl rfl ?_
 refine vo_nil ?_
 refine hK3 _ ?_
 refine vc_block ?_
 refine vc_stM ?_
 refine vc_loopE [] [0, 1, 5] [0] _ _ (fun mz vs rs => ∃ (i : Nat) (y : Int) (X : List ObjM), mz = L.length - i ∧ (i ≤ L.length) ∧ (X.length = L.length) ∧ (∀ o ∈ X, SO o) ∧ (k ≤ y ∧ y ≤ k + 6000000 * i) ∧ vs = [.ref 0, i64 y, i64 i] ∧ rs = [Row.tree R 2 nl none (X.map objP)]) (L.length) rfl rfl (le_len hC rfl) ⟨rfl, rfl, rfl⟩ rfl ⟨0, k, L, rfl, Nat.zero_le _, rfl, hl, (by omega), rfl, rfl⟩ ?_
 rintro mz vs rs - - ⟨i, y, X, rfl, hi, hXl, hX, hy, rfl, rfl⟩
 refine vc_stM ?_
 have hak := getD_all hX _ SO_zero i
 have hbd := mkP_bd (X.getD i ⟨0, []⟩).pairs (y + 1)
 have hak2 : (X.getD i ⟨0, []⟩).pairs.length ≤ 2000000 := hak
 have hml : (mkS fP gP (y + 1) (X.getD i ⟨0, []⟩).pairs).length = (X.getD i ⟨0, []⟩).pairs.length := mkS_len _ _
 refine vc_seq fun K4 hK4 => ?_
 refine vc_seq fun K5 hK5 => ?_
 refine vc_region ?_
 refine vo_move_pv rfl rfl ?_
 refine vo_move_ref rfl rfl ?_
 refine vo_len_ref rfl rfl rfl Tryz.underlying31 ?_
 refine vo_binI rfl rfl rfl rfl trivial ?_
 refine vo_nil ?_
 refine hK5 _ ?_
 refine vc_cond rfl (fun hc1 => ?_) (fun hc1 => ?_)
 ·try simp only [zq0, zq1, zq2, zq3, zq4, zq5, zq6, zq7, zq8, zq9, zqa, zqb, zqc, zqd, zqe, zqf] at hc1
  refine vc_skip ?_
  refine hK4 _ ?_
  refine vc_seq fun K6 hK6 => ?_
  refine vc_block ?_
  refine vc_seq fun K7 hK7 => ?_
  refine vc_region ?_
  refine vo_move_ref rfl rfl ?_
  refine vo_move_pv rfl rfl ?_
  refine vo_move_pv rfl rfl ?_
  refine vo_index_ref rfl rfl rfl rfl E31.und inf57 sz57 sd sd ?_
  try simp only [Int.toNat_natCast]
  refine vo_fieldAddr_ptr rfl rfl Tryz.underlying57 rfl inf3 (by rw [sz3]; decide) ?_
  try simp only [Nat.zero_add]
  refine vo_store_treeC (p' := .agg _) rfl rfl rfl rfl inf3 sz3 (getP (L := X) ⟨0, []⟩ (by omega)) rfl rfl rfl ?_
  try simp only [PV.cells, List.set_cons_zero, List.set_cons_succ, Int.toNat_natCast, Int.toNat_zero]
  refine vo_stM ?_
  refine vo_nil ?_
  refine hK7 _ ?_
  refine vc_seq fun K8 hK8 => ?_
  refine vc_region ?_
  refine vo_move_pv rfl rfl ?_
  refine vo_binI rfl rfl rfl rfl sd ?_
  refine vo_assign_pv rfl rfl ?_
  refine vo_nil ?_
  refine hK8 _ ?_
  refine vc_region ?_
  refine vo_move_ref rfl rfl ?_
  refine vo_move_pv rfl rfl ?_
  refine vo_index_ref rfl rfl rfl rfl E31.und inf57 sz57 sd sd ?_
  try simp only [Int.toNat_natCast]
  refine vo_fieldAddr_ptr rfl rfl Tryz.underlying57 rfl inf55 (by rw [sz55]; decide) ?_
  try simp only [Nat.zero_add]
  refine vo_load_subG rfl rfl rfl Tryz.underlying55 rfl (getS (len_map_lt (by omega))) rfl fun u23 => ?_
  refine vo_stM ?_
  refine vo_move_pv rfl rfl ?_
  refine vo_call_subG i 1 (fun ys => PV.agg [.int .i64 y, .sl none 2 ys]) (id := 0) Tryz.func92 rfl rfl rfl rfl rfl (by first | rfl | omega) (getS (len_map_lt (by omega))) rfl (fun _ => rfl) rfl rfl (fun Rc => markPairS_sat (Rc := Rc) (a := (X.getD i ⟨0, []⟩).pairs) (k := y + 1) (by unfold SO at hak; omega) (by omega)) ?_
  rintro _ _ - ⟨rfl, rfl⟩
  refine vo_stM ?_
  try simp only [Int.toNat_natCast]
  refine vo_assign_pv rfl rfl ?_
  refine vo_nil ?_
  refine hK6 _ ?_
  refine vc_region ?_
  refine vo_move_pv rfl rfl ?_
  refine vo_binI rfl rfl rfl rfl sd ?_
  refine vo_assign_pv rfl rfl ?_
  refine vo_nil ?_
  change againE _ _ _ _ _ _ _ _ _ _
  refine againE_mk rfl rfl rfl rfl rfl rfl ⟨_, ?_, i + 1, _, X.set i ⟨y, mkS fP gP (y + 1) (X.getD i ⟨0, []⟩).pairs⟩, rfl, ?_, ?_, ?_, ?_, rfl, (rowT_eq (by rw [List.map_set]; simp [List.set_set]))⟩
  ·omega
  ·omega
  ·rw [List.length_set]; exact hXl
  ·exact set_lensO hX (by unfold SO; rw [hml]; exact hak2)
  ·omega
 ·try simp only [zq0, zq1, zq2, zq3, zq4, zq5, zq6, zq7, zq8, zq9, zqa, zqb, zqc, zqd, zqe, zqf] at hc1
  refine vc_exit ?_
  refine hK2 _ ?_
  refine vc_seq fun K9 hK9 => ?_
  refine vc_region ?_
  refine vo_move_pv rfl rfl ?_
  refine vo_assign_pv rfl rfl ?_
  refine vo_nil ?_
  refine hK9 _ ?_
  refine vc_ret ?_
  change retQ _ _ _ _ _
  refine retQ_sel [] (srows := []) (.inr rfl) hC rfl rfl rfl rfl rfl rfl rfl ?_
  exact ⟨_, _, ⟨by omega, by omega⟩, rfl, rfl⟩

end Go.Vl

/- A cell of a variable that holds a nil slice holds a row of the call's own that is empty. -/
namespace Go.Vl
set_option linter.unusedVariables false
set_option linter.unusedSimpArgs false
open Go.RowKit
section
variable {P : Program} {C : Ctx} {Q : Go.Exit → St → Prop} {s : St} {ops : Array Oper}

end
end Go.Vl

/- Calls by any operation that enters a function: by name, through an interface, of a value. -/
namespace Go.Vl
set_option linter.unusedVariables false
set_option linter.unusedSimpArgs false
open Go.RowKit
section
variable {P : Program} {C : Ctx} {Q : Go.Exit → St → Prop} {s : St}

/-- An operation that enters a function, by what that hands back; 'bs' are the rows that it may write. -/
theorem ow_callA {op : Op} {t : Nat} {ty : TypeId} {pos : String} {af : Array Edge} {gd : Option (Nat × Bool)} {f : FuncId} {va : Array Value} {sa : List SV} {args : List SV} {R : List SV → List Row → Prop} (bs : List Nat)
    {brows : List Row} {m : Nat → MV} {a : Act} {w : World} {K : Act → World → Prop} {Q' : Go.Exit → Act → World → Prop} (hs : SimM C s m a w)
    (hrun : (execOp a.eval ⟨some t, op, ty, pos, af, gd⟩).run P w = .ok (.enter f va) w) (hva : va.size = sa.length)
    (hvs : ∀ (u : Nat) (x : SV), sa[u]? = some x → RS w (Gd C s.rows m w) m s.rows.length x (va.getD u undef)) (ht : Nat.blt t s.n = true)
    (hb1 : bs.map (fun id => (s.rows[id]?).map Row.toArg) = brows.map some) (hb2 : brows.all Row.live = true) (hb3 : bs.map (placeOf bs) = (List.range bs.length).map some)
    (hargs : sa.mapM (argOfB bs s.rows) = some args) (hsat : SatAt P f args brows R)
    (next : ∀ res rows', R res rows' → bs.length ≤ rows'.length ∧ (res.all SV.noTup = true ∧ rows'.all (Row.bdd 0) = true ∧ (rows'.take bs.length).all Row.live = true ∧ rows'.all Row.noGh = true) ∧
      ((sa.any (SV.isKept bs) = false) ∨ (res.all SV.fresh = true ∧ rows'.all Row.fresh = true)) ∧
      ∀ m' a' w', SimM C ⟨s.n, (t, packS (res.map (SV.shift bs s.rows.length))) :: s.env, rowsAfter bs s.rows rows'⟩ m' a' w' → w.heap.size ≤ w'.heap.size →
        (∀ k, k < w.heap.size → (∀ (q id : Nat), bs[q]? = some id → ¬ (m id).S k) → w'.heap[k]? = w.heap[k]?) → K a' w') :
    Oper.wp P ⟨some t, op, ty, pos, af, gd⟩ a w K Q' := by
  unfold Oper.wp
  rw [hrun, Oper.upon_enter]
  have hbrow : ∀ (q id : Nat), bs[q]? = some id → ∃ r, s.rows[id]? = some r ∧ brows[q]? = some r.toArg ∧ r.live = true := by
    intro q id hq
    have h1 : (bs.map (fun id => (s.rows[id]?).map Row.toArg))[q]? = (brows.map some)[q]? := by rw [hb1]
    simp only [List.getElem?_map, hq, Option.map_some] at h1
    cases hr : s.rows[id]? with
    | none =>
      rw [hr] at h1
      cases hq2 : brows[q]? with
      | none => rw [hq2] at h1; simp at h1
      | some r2 => rw [hq2] at h1; simp at h1
    | some r =>
      rw [hr] at h1
      simp only [Option.map_some] at h1
      cases hq2 : brows[q]? with
      | none => rw [hq2] at h1; simp at h1
      | some r2 =>
        rw [hq2] at h1
        simp at h1
        subst h1
        refine ⟨r, rfl, rfl, ?_⟩
        rw [List.all_eq_true] at hb2
        exact toArg_live _ (hb2 _ (List.mem_of_getElem? hq2))
  have hblen : brows.length = bs.length := by
    have := congrArg List.length hb1
    simpa using this.symm
  have hblive : ∀ (q id : Nat), bs[q]? = some id → liveAt s.rows id := fun q id hq => let ⟨r, h1, _, h3⟩ := hbrow q id hq; ⟨r, h1, h3⟩
  have hplace : ∀ (q id : Nat), bs[q]? = some id → placeOf bs id = some q := by
    intro q id hq
    have h1 : (bs.map (placeOf bs))[q]? = ((List.range bs.length).map some)[q]? := by rw [hb3]
    have hlt : q < bs.length := (List.getElem?_eq_some_iff.1 hq).1
    simp only [List.getElem?_map, hq, Option.map_some, List.getElem?_range hlt, Option.some.injEq] at h1
    exact h1
  let kept : Prop := sa.any (SV.isKept bs) = true
  let bm : Nat → MV := fun q => m ((bs[q]?).getD 0)
  let tk : Nat → Prop := fun b => ∃ (q id : Nat), bs[q]? = some id ∧ (m id).S b
  let C' : Ctx := ⟨w, fun b => Gd C s.rows m w false b ∨ (kept ∧ b < w.heap.size ∧ ¬ tk b), bs.length, bm⟩
  have hlen : args.length = va.size := by rw [mapM_len hargs, hva]
  have htk : ∀ b, tk b → priv s.rows m b := fun b ⟨q, id, h1, h2⟩ => ⟨id, hblive q id h1, h2⟩
  have hbpriv : ∀ b, priv brows bm b → tk b := by
    rintro b ⟨q, ⟨r, hr, hl⟩, hbk⟩
    have hq : q < bs.length := by rw [← hblen]; exact (List.getElem?_eq_some_iff.1 hr).1
    have hq2 : bs[q]? = some bs[q] := List.getElem?_eq_getElem hq
    exact ⟨q, _, hq2, by simpa [bm, hq2] using hbk⟩
  have hkey : ∀ fr b, Gd C s.rows m w fr b → Gd C' brows bm w false b := fun fr b hb =>
    ⟨hb.1, fun hp => hb.2.1 (htk b (hbpriv b hp)), fun _ => .inl (.inl hb.weak), fun e => by cases e⟩
  have hs0 : SimM C' ⟨va.size, enumE 0 args, brows⟩ bm ⟨va, []⟩ C'.w0 := {
    defs := rfl
    size := rfl
    os := rfl
    tape := rfl
    output := rfl
    hsz := Nat.le_refl _
    old := fun _ _ _ => rfl
    bor := fun _ _ => rfl
    nbl := by show bs.length ≤ brows.length; omega
    newb := fun id b hge hl _ => by
      obtain ⟨r, hr, _⟩ := hl
      have h1 : id < brows.length := (List.getElem?_eq_some_iff.1 hr).1
      change bs.length ≤ id at hge
      omega
    dist := fun i j b hi hj hbi hbj => by
      obtain ⟨r, hr, _⟩ := hi
      obtain ⟨r2, hr2, _⟩ := hj
      have hi1 : i < bs.length := by rw [← hblen]; exact (List.getElem?_eq_some_iff.1 hr).1
      have hj1 : j < bs.length := by rw [← hblen]; exact (List.getElem?_eq_some_iff.1 hr2).1
      have hi2 : bs[i]? = some bs[i] := List.getElem?_eq_getElem hi1
      have hj2 : bs[j]? = some bs[j] := List.getElem?_eq_getElem hj1
      simp only [bm, hi2, hj2, Option.getD_some] at hbi hbj
      have := hs.dist _ _ b (hblive i _ hi2) (hblive j _ hj2) hbi hbj
      have p1 := hplace i _ hi2
      have p2 := hplace j _ hj2
      rw [this, p2] at p1
      cases p1
      rfl
    rows := fun q r hr => by
      have hq : q < bs.length := by rw [← hblen]; exact (List.getElem?_eq_some_iff.1 hr).1
      have hq2 : bs[q]? = some bs[q] := List.getElem?_eq_getElem hq
      obtain ⟨r0, h1, h2, h3⟩ := hbrow q _ hq2
      change brows[q]? = some r at hr
      rw [hr] at h2
      cases h2
      have : bm q = m bs[q] := by simp [bm, hq2]
      rw [this]
      exact toArg_ok hkey (hs.rows _ _ h1)
    env := fun u => by
      show RS w _ _ _ (look (enumE 0 args) u) _
      rw [look_enumE]
      simp only [Nat.zero_le, if_true, Nat.sub_zero]
      rcases Nat.lt_or_ge u va.size with hu | hu
      · have hx : sa[u]? = some (sa[u]'(by omega)) := List.getElem?_eq_getElem (by omega)
        obtain ⟨y, hy, hg⟩ := mapM_get hargs u _ hx
        rw [hy]
        simp only [Option.getD_some]
        show RS w _ _ _ y (va.getD u undef)
        have hv := hvs u _ hx
        generalize hgx : sa[u]'(by omega) = gx at *
        generalize va.getD u undef = v at *
        cases hv with
        | pv fr p v hp =>
          simp only [argOfB, Option.some.injEq] at hg
          subst hg
          cases hsc : p.scal with
          | true => exact .pv _ _ _ (hp.scal_any hsc)
          | false => exact .pv _ _ _ (hp.mono fun b hb => ⟨hkey fr b hb, rfl⟩)
        | ref id hid =>
          simp only [argOfB] at hg
          split at hg
          · rename_i q hq
            simp at hg
            subst hg
            have hq2 := placeOf_some hq
            have : m id = bm q := by simp [bm, hq2]
            rw [this]
            exact .ref q (by show q < brows.length; rw [hblen]; exact (List.getElem?_eq_some_iff.1 hq2).1)
          · rename_i hq
            split at hg
            · rename_i t' e nl fr ys hrow
              simp at hg
              subst hg
              refine .pv _ _ _ (RP.of_row (hs.rows id _ hrow) (fun b hb => hkey _ b hb) (fun b hb => ?_))
              have hlt := hs.lt ⟨_, hrow, rfl⟩ hb
              have hk : kept := by
                show sa.any (SV.isKept bs) = true
                rw [List.any_eq_true]
                exact ⟨.ref id, List.mem_of_getElem? hx, by simp [SV.isKept, hq]⟩
              have hnt : ¬ tk b := by
                rintro ⟨q, id', h1, h2⟩
                have := hs.dist id id' b ⟨_, hrow, rfl⟩ (hblive q id' h1) hb h2
                subst this
                exact placeOf_none hq (List.mem_of_getElem? h1)
              exact ⟨hlt, fun hp => hnt (hbpriv b hp), fun _ => .inl (.inr ⟨hk, hlt, hnt⟩), fun e => by cases e⟩
            · rename_i t' e nl ys hrow
              simp at hg
              subst hg
              refine .pv _ _ _ (RP.of_tree (hs.rows id _ hrow) (fun b hb => ?_))
              have hlt := hs.lt ⟨_, hrow, rfl⟩ hb
              have hk : kept := by
                show sa.any (SV.isKept bs) = true
                rw [List.any_eq_true]
                exact ⟨.ref id, List.mem_of_getElem? hx, by simp [SV.isKept, hq]⟩
              have hnt : ¬ tk b := by
                rintro ⟨q, id', h1, h2⟩
                have := hs.dist id id' b ⟨_, hrow, rfl⟩ (hblive q id' h1) hb h2
                subst this
                exact placeOf_none hq (List.mem_of_getElem? h1)
              exact ⟨hlt, fun hp => hnt (hbpriv b hp), fun _ => .inl (.inr ⟨hk, hlt, hnt⟩), fun e => by cases e⟩
            · simp at hg
        | ptr id e i o b hid hbk =>
          simp only [argOfB] at hg
          split at hg
          · rename_i q hq
            simp at hg
            subst hg
            have hq2 := placeOf_some hq
            have : m id = bm q := by simp [bm, hq2]
            exact .ptr q e i o b (by show q < brows.length; rw [hblen]; exact (List.getElem?_eq_some_iff.1 hq2).1) (by rw [← this]; exact hbk)
          · simp at hg
        | ag vs us hl9 h9 h1 =>
          simp only [argOfB] at hg
          split at hg
          · rename_i ps hps
            simp at hg
            subst hg
            obtain ⟨g1, g2⟩ := argCells_get hps
            have hkey2 : ∀ (j : Nat) (p : PV) (u : Value), ps[j]? = some p → us[j]? = some u → RP w (Gd C' brows bm w false) p u ∧ p.isAgg = false := by
              intro j p u hp hu
              obtain ⟨c, hc, hcp⟩ := g2 j p hp
              refine argCell_ok hs (h9 j c u hc hu) hcp (h1 j u hu) (fun fr b hb => hkey fr b hb) (fun id b e hq hlv hb => ?_)
              subst e
              have hlt := hs.lt hlv hb
              have hk : kept := by
                show sa.any (SV.isKept bs) = true
                rw [List.any_eq_true]
                refine ⟨.ag vs, List.mem_of_getElem? hx, ?_⟩
                show vs.any (SV.isKept1 bs) = true
                rw [List.any_eq_true]
                exact ⟨.ref id, List.mem_of_getElem? hc, by simp [SV.isKept1, hq]⟩
              have hnt : ¬ tk b := by
                rintro ⟨q, id', h1, h2⟩
                have := hs.dist id id' b hlv (hblive q id' h1) hb h2
                subst this
                exact placeOf_none hq (List.mem_of_getElem? h1)
              exact ⟨hlt, fun hp => hnt (hbpriv b hp), fun _ => .inl (.inr ⟨hk, hlt, hnt⟩), fun e => by cases e⟩
            have hul : us.size = ps.length := by rw [hl9, g1]
            refine .pv _ _ _ (.agg ps us hul (fun j c hc => ?_) (fun j c u hc hu => (hkey2 j c u hc hu).1))
            have hj : j < us.size := by rw [hul]; exact (List.getElem?_eq_some_iff.1 hc).1
            exact (hkey2 j c _ hc (Array.getElem?_eq_getElem hj)).2
          · cases hg
        | _ => simp [argOfB] at hg
      · rw [List.getElem?_eq_none (by omega)]
        exact .any _ }
  refine (hsat C' bm va hblen.symm (fun b hb => hb.elim (fun h => h.1) (fun h => h.2.1)) (by simp [hlen]) hs0).mono ?_
  rintro e w' ⟨us, res, rows', m2, rfl, hus, hs', hR⟩
  obtain ⟨hbl, ⟨hnt, hbdd, hlv, hng⟩, hfr, hnx⟩ := next res rows' hR
  have hsz : w.heap.size ≤ w'.heap.size := hs'.hsz
  have hold : ∀ k, k < w.heap.size → ¬ tk k → w'.heap[k]? = w.heap[k]? := fun k hk hn => hs'.old k hk (fun q hq hbk => by
    have hq2 : bs[q]? = some bs[q] := List.getElem?_eq_getElem hq
    exact hn ⟨q, _, hq2, by simpa [C', bm, hq2] using hbk⟩)
  let N := s.rows.length
  let m3 : Nat → MV := fun j => if j < N then m j else m2 (j - N + bs.length)
  let nr := rowsAfter bs s.rows rows'
  have hm3 : ∀ j, j < N → m3 j = m j := fun j hj => by simp [m3, hj]
  have hm2b : ∀ (q id : Nat), bs[q]? = some id → m2 q = m id := by
    intro q id hq
    have := hs'.bor q (List.getElem?_eq_some_iff.1 hq).1
    rw [this]
    show bm q = m id
    simp [bm, hq]
  have hnrlen : nr.length = N + (rows'.length - bs.length) := by simp [nr, rowsAfter, N]
  have hnr1 : ∀ j, j < N → ∃ r0, s.rows[j]? = some r0 ∧ ((∃ q : Nat, bs[q]? = some j ∧ ∃ r', rows'[q]? = some r' ∧ nr[j]? = some r') ∨ (j ∉ bs ∧ nr[j]? = some r0)) := by
    intro j hj
    have h0 : s.rows[j]? = some s.rows[j] := List.getElem?_eq_getElem hj
    refine ⟨_, h0, ?_⟩
    have h1 : nr[j]? = some (match placeOf bs j with | some q => (rows'[q]?).getD .dead | none => s.rows[j]) := by
      simp only [nr, rowsAfter]
      rw [List.getElem?_append_left (by simp; exact hj)]
      simp [List.getElem?_mapIdx, h0]
      try (cases placeOf bs j <;> rfl)
    cases hp : placeOf bs j with
    | none => right; rw [hp] at h1; exact ⟨placeOf_none hp, h1⟩
    | some q =>
      left
      rw [hp] at h1
      have hq := placeOf_some hp
      have hq1 : q < rows'.length := Nat.lt_of_lt_of_le (List.getElem?_eq_some_iff.1 hq).1 hbl
      have hq2 : rows'[q]? = some rows'[q] := List.getElem?_eq_getElem hq1
      refine ⟨q, hq, _, hq2, ?_⟩
      rw [h1]
      show some ((rows'[q]?).getD Row.dead) = _
      rw [hq2]
      rfl
  have hnr2 : ∀ j, N ≤ j → nr[j]? = rows'[j - N + bs.length]? := by
    intro j hj
    simp only [nr, rowsAfter]
    rw [List.getElem?_append_right (by simp; exact hj)]
    simp only [List.length_mapIdx, List.getElem?_drop]
    congr 1
    omega
  have hnlive : ∀ j, j < N → liveAt nr j → liveAt s.rows j := by
    intro j hj ⟨r, hr, hl⟩
    obtain ⟨r0, h0, h | h⟩ := hnr1 j hj
    · obtain ⟨q, hq, _⟩ := h
      exact hblive q j hq
    · rw [h.2] at hr
      cases hr
      exact ⟨r, h0, hl⟩
  have hnew : ∀ j b, N ≤ j → liveAt nr j → (m3 j).S b → liveAt rows' (j - N + bs.length) ∧ (m2 (j - N + bs.length)).S b ∧ w.heap.size ≤ b := by
    intro j b hj ⟨r, hr, hl⟩ hbk
    rw [hnr2 j hj] at hr
    have e1 : m3 j = m2 (j - N + bs.length) := by simp [m3, Nat.not_lt.2 hj]
    rw [e1] at hbk
    exact ⟨⟨r, hr, hl⟩, hbk, hs'.newb _ b (by show bs.length ≤ _; omega) ⟨r, hr, hl⟩ hbk⟩
  have hG : ∀ f b, Gd C s.rows m w f b → Gd C nr m3 w' f b ∧ w'.heap[b]? = w.heap[b]? := by
    refine Gd.step tk hsz hold htk (fun b hlt ⟨j, hl, hbk⟩ => ?_)
    rcases Nat.lt_or_ge j N with hj | hj
    · rw [hm3 j hj] at hbk
      exact ⟨j, hnlive j hj hl, hbk⟩
    · have := (hnew j b hj hl hbk).2.2
      omega
  have hG2 : ∀ fl b, (fl = true ∨ ¬ kept) → Gd C' rows' m2 w' fl b → Gd C nr m3 w' fl b := by
    intro fl b hk hb
    have hnp : ¬ priv nr m3 b := by
      rintro ⟨j, hl, hbk⟩
      rcases Nat.lt_or_ge j N with hj | hj
      · obtain ⟨r0, h0, h | h⟩ := hnr1 j hj
        · obtain ⟨q, hq, r', hr', hn⟩ := h
          rw [hm3 j hj, ← hm2b q j hq] at hbk
          refine hb.2.1 ⟨q, ⟨r', hr', ?_⟩, hbk⟩
          rw [List.all_eq_true] at hlv
          refine hlv r' (List.mem_of_getElem? (i := q) ?_)
          rw [List.getElem?_take, if_pos (List.getElem?_eq_some_iff.1 hq).1]
          exact hr'
        · rw [hm3 j hj] at hbk
          have hpl : priv s.rows m b := ⟨j, hnlive j hj hl, hbk⟩
          have hlt := hs.lt (hnlive j hj hl) hbk
          cases fl with
          | true => have := (hb.2.2.2 rfl).1; change w.heap.size ≤ b at this; omega
          | false =>
            rcases hb.2.2.1 rfl with hA | hA
            · rcases hA with hA | hA
              · exact hA.2.1 hpl
              · rcases hk with hk | hk
                · cases hk
                · exact hk hA.1
            · change w.heap.size ≤ b at hA; omega
      · obtain ⟨h1, h2, _⟩ := hnew j b hj hl hbk
        exact hb.2.1 ⟨_, h1, h2⟩
    refine ⟨hb.1, hnp, fun e => ?_, fun e => ?_⟩
    · rcases hb.2.2.1 e with hA | hA
      · rcases hA with hA | hA
        · exact hA.2.2.1 rfl
        · rcases hk with hk | hk
          · rw [hk] at e; cases e
          · exact (hk hA.1).elim
      · exact .inr (Nat.le_trans hs.hsz hA)
    · have h4 := hb.2.2.2 e
      exact ⟨Nat.le_trans hs.hsz h4.1, h4.2⟩
  have hrowC : ∀ (q : Nat) (r : Row), rows'[q]? = some r → RowOK w' (Gd C nr m3 w') m3 nr.length (m2 q) r := by
    intro q r hr
    have h0 := hs'.rows q r hr
    have hfq : kept → r.fresh = true := by
      intro hk
      rcases hfr with h | h
      · have hk' : sa.any (SV.isKept bs) = true := hk
        rw [h] at hk'; cases hk'
      · have := h.2
        rw [List.all_eq_true] at this
        exact this r (List.mem_of_getElem? hr)
    have hbq : r.bdd 0 = true := by rw [List.all_eq_true] at hbdd; exact hbdd r (List.mem_of_getElem? hr)
    have hgq : r.noGh = true := by rw [List.all_eq_true] at hng; exact hng r (List.mem_of_getElem? hr)
    have hor : ∀ fl : Bool, (kept → fl = true) → (fl = true ∨ ¬ kept) := fun fl h => by
      by_cases hk : kept
      · exact .inl (h hk)
      · exact .inr hk
    change RowOK w' (Gd C' rows' m2 w') m2 rows'.length (m2 q) r at h0
    generalize m2 q = v at *
    cases h0 with
    | dead v => exact .dead v
    | own v t e nl fr xs vs hown h1 h2 hw hr' =>
      refine .own v t e nl fr xs vs hown h1 h2 hw (fun i x j c hx hc => ?_)
      obtain ⟨u, hu, hp⟩ := hr' i x j c hx hc
      exact ⟨u, hu, hp.mono fun b hb => ⟨hG2 fr b (hor fr hfq) hb, rfl⟩⟩
    | tree mv t e nl h xs vals Sf hown h1 h2 hw hr9 hd hn hz hS hkn => exact .tree _ t e nl h xs vals Sf hown h1 h2 hw hr9 hd hn hz hS hkn
    | mp b g es clock hbk hm' => exact .mp b g es clock hbk hm'
    | gh mv us cs hl h9 => cases hgq
    | var b t cs cur hb hl hr' h1 =>
      refine .var b t cs cur hb hl (fun j c u hc hu => ?_) h1
      have hv := hr' j c u hc hu
      have hcb : c.bdd 0 = true := by
        simp only [Row.bdd, List.all_eq_true] at hbq
        exact hbq c (List.mem_of_getElem? hc)
      have hcf : kept → c.fresh = true := by
        intro hk
        have := hfq hk
        simp only [Row.fresh, List.all_eq_true] at this
        exact this c (List.mem_of_getElem? hc)
      cases hv with
      | any v => exact .any _
      | val u => exact .val _
      | und => exact .und
      | pv fr p v hp =>
        cases hsc : p.scal with
        | true => exact .pv _ _ _ (hp.scal_any hsc)
        | false => exact .pv _ _ _ (hp.mono fun b hb => ⟨hG2 fr b (hor fr fun hk => by have := hcf hk; simpa [SV.fresh, hsc] using this) hb, rfl⟩)
      | ref i hi => simp [SV.bdd] at hcb
      | ptr i e' k o b' hi hbk => simp [SV.bdd] at hcb
      | adr fr cs' a' f' hsp hg h1' hc' hr2 =>
        by_cases hk : kept
        · have := hcf hk; simp [SV.fresh] at this
        · exact .adr fr cs' a' f' hsp (fun hne => hG2 fr _ (.inr hk) (hg hne)) h1' hc' (fun j c hj => (hr2 j c hj).mono fun b hb => ⟨hG2 fr b (.inr hk) hb, rfl⟩)
      | tup vs us' hl' h' => simp [SV.bdd] at hcb
      | sub i e' l h c' _ hid hs9 => simp [SV.bdd] at hcb
      | clo f ids us9 hl9 h9 => 
          have e9 : ids = [] := by
            cases ids with
            | nil => rfl
            | cons i ids => simp [SV.bdd] at hcb
          subst e9
          exact .clo f [] us9 hl9 (fun j i u h1 h2 => by simp at h1)
      | ag vs us' hl' h' h1' =>
        refine .ag vs us' hl' (fun q c u hc hu => ?_) h1'
        have hcb1 : c.bdd1 0 = true := by simp only [SV.bdd, List.all_eq_true] at hcb; exact hcb c (List.mem_of_getElem? hc)
        have hcf1 : kept → c.fresh1 = true := fun hk => by have := hcf hk; simp only [SV.fresh, List.all_eq_true] at this; exact this c (List.mem_of_getElem? hc)
        have hv := h' q c u hc hu
        cases hv with
        | any v => exact .any _
        | val u => exact .val _
        | und => exact .und
        | pv fr p v hp =>
          cases hsc : p.scal with
          | true => exact .pv _ _ _ (hp.scal_any hsc)
          | false => exact .pv _ _ _ (hp.mono fun b hb => ⟨hG2 fr b (hor fr fun hk => by have := hcf1 hk; simpa [SV.fresh1, hsc] using this) hb, rfl⟩)
        | ref i hi => simp [SV.bdd1] at hcb1
        | ptr i e' k o b' hi hbk => simp [SV.bdd1] at hcb1
        | adr fr cs' a' f' hsp hg h1' hc' hr2 =>
          by_cases hk : kept
          · have := hcf1 hk; simp [SV.fresh1] at this
          · exact .adr fr cs' a' f' hsp (fun hne => hG2 fr _ (.inr hk) (hg hne)) h1' hc' (fun j c hj => (hr2 j c hj).mono fun b hb => ⟨hG2 fr b (.inr hk) hb, rfl⟩)
        | tup vs us' hl' h' => simp [SV.bdd1] at hcb1
        | ag vs us' hl' h' h1' => simp [SV.bdd1] at hcb1
        | sub i e' l h c' _ hid hs9 => simp [SV.bdd1] at hcb1
        | clo f ids us9 hl9 h9 => 
          have e9 : ids = [] := by
            cases ids with
            | nil => rfl
            | cons i ids => simp [SV.bdd1] at hcb1
          subst e9
          exact .clo f [] us9 hl9 (fun j i u h1 h2 => by simp at h1)
  have hs2 : SimM C ⟨s.n, s.env, nr⟩ m3 a w' := {
    defs := hs.defs
    size := hs.size
    os := hs'.os.trans hs.os
    tape := hs'.tape.trans hs.tape
    output := hs'.output.trans hs.output
    hsz := Nat.le_trans hs.hsz hsz
    old := fun k hk hn => by
      refine (hold k (by have := hs.hsz; omega) ?_).trans (hs.old k hk hn)
      rintro ⟨q, id, h1, h2⟩
      by_cases hid : id < C.nb
      · exact hn id hid (by rw [← hs.bor id hid]; exact h2)
      · have := hs.newb id k (by omega) (hblive q id h1) h2; omega
    bor := fun id hid => by rw [hm3 id (by have := hs.nbl; show id < N; omega)]; exact hs.bor id hid
    nbl := by have := hs.nbl; show C.nb ≤ nr.length; rw [hnrlen]; show C.nb ≤ s.rows.length + _; omega
    newb := fun j b hj hl hbk => by
      rcases Nat.lt_or_ge j N with h | h
      · rw [hm3 j h] at hbk; exact hs.newb j b hj (hnlive j h hl) hbk
      · have := (hnew j b h hl hbk).2.2; have := hs.hsz; omega
    dist := fun i j b hi hj hbi hbj => by
      rcases Nat.lt_or_ge i N with h1 | h1 <;> rcases Nat.lt_or_ge j N with h2 | h2
      · rw [hm3 i h1] at hbi; rw [hm3 j h2] at hbj
        exact hs.dist i j b (hnlive i h1 hi) (hnlive j h2 hj) hbi hbj
      · rw [hm3 i h1] at hbi
        have e1 := hs.lt (hnlive i h1 hi) hbi
        have e2 := (hnew j b h2 hj hbj).2.2
        omega
      · rw [hm3 j h2] at hbj
        have e1 := hs.lt (hnlive j h2 hj) hbj
        have e2 := (hnew i b h1 hi hbi).2.2
        omega
      · obtain ⟨l1, b1, _⟩ := hnew i b h1 hi hbi
        obtain ⟨l2, b2, _⟩ := hnew j b h2 hj hbj
        have := hs'.dist _ _ b l1 l2 b1 b2
        omega
    rows := fun j r hr => by
      change nr[j]? = some r at hr
      show RowOK w' (Gd C nr m3 w') m3 nr.length (m3 j) r
      rcases Nat.lt_or_ge j N with h | h
      · rw [hm3 j h]
        obtain ⟨r0, h0, hh | hh⟩ := hnr1 j h
        · obtain ⟨q, hq, r', hr', hn⟩ := hh
          rw [hn] at hr
          cases hr
          rw [← hm2b q j hq]
          exact hrowC q r hr'
        · rw [hh.2] at hr
          cases hr
          refine RowOK.mono hG (by rw [hnrlen]; exact Nat.le_add_right _ _) (fun id hid => hm3 id hid) (hs.rows j r h0) (fun hl b hb => hold b (hs.lt ⟨r, h0, hl⟩ hb) ?_)
          rintro ⟨q, id, h1, h2⟩
          have := hs.dist j id b ⟨r, h0, hl⟩ (hblive q id h1) hb h2
          subst this
          exact hh.1 (List.mem_of_getElem? h1)
      · rw [hnr2 j h] at hr
        have e1 : m3 j = m2 (j - N + bs.length) := by simp [m3, Nat.not_lt.2 h]
        rw [e1]
        exact hrowC _ r hr
    env := fun u => by
      refine (hs.env u).mono hG ?_ (fun id hid => hm3 id hid)
      show s.rows.length ≤ nr.length
      rw [hnrlen]
      exact Nat.le_add_right _ _ }
  have hres : ∀ (j : Nat) (r : SV), res[j]? = some r → RS w' (Gd C nr m3 w') m3 nr.length (r.shift bs N) (us.getD j undef) := by
    intro j r hj
    have hv := hs'.env j
    change RS w' _ _ _ (look (enumE 0 res) j) (us.getD j undef) at hv
    rw [look_enumE] at hv
    simp only [Nat.zero_le, if_true, Nat.sub_zero, hj, Option.getD_some] at hv
    have hrf : kept → r.fresh = true := by
      intro hk
      rcases hfr with h | h
      · have hk' : sa.any (SV.isKept bs) = true := hk
        rw [h] at hk'; cases hk'
      · have := h.1
        rw [List.all_eq_true] at this
        exact this r (List.mem_of_getElem? hj)
    have hrt : r.noTup = true := by rw [List.all_eq_true] at hnt; exact hnt r (List.mem_of_getElem? hj)
    have hidx : ∀ i, i < rows'.length → ∃ i', i' < nr.length ∧ m3 i' = m2 i ∧ (match bs[i]? with | some b => b | none => i - bs.length + N) = i' := by
      intro i hi
      cases hbi : bs[i]? with
      | some b =>
        have hbN : b < N := by
          obtain ⟨r, hr, _⟩ := hblive i b hbi
          exact (List.getElem?_eq_some_iff.1 hr).1
        exact ⟨b, by rw [hnrlen]; omega, by rw [hm3 b hbN]; exact (hm2b i b hbi).symm, rfl⟩
      | none =>
        have hge : bs.length ≤ i := by simpa using hbi
        refine ⟨i - bs.length + N, by rw [hnrlen]; omega, ?_, rfl⟩
        simp only [m3]
        rw [if_neg (by omega)]
        congr 1
        omega
    generalize us.getD j undef = v at *
    cases hv with
    | any v => exact .any _
    | val u => exact .any _
    | und => exact .any _
    | pv fr p v hp =>
      simp only [SV.shift]
      cases hsc : p.scal with
      | true => exact .pv _ _ _ (hp.scal_any hsc)
      | false =>
        refine .pv _ _ _ (hp.mono fun b hb => ⟨hG2 fr b ?_ hb, rfl⟩)
        by_cases hk : kept
        · left; have := hrf hk; simpa [SV.fresh, hsc] using this
        · exact .inr hk
    | ref i hi =>
      obtain ⟨i', h1, h2, h3⟩ := hidx i hi
      have e : SV.shift bs N (.ref i) = .ref i' := by
        simp only [SV.shift]
        cases hbi : bs[i]? <;> rw [hbi] at h3 <;> simp_all
      rw [e, ← h2]
      exact .ref i' h1
    | ptr i e k o b hi hbk =>
      obtain ⟨i', h1, h2, h3⟩ := hidx i hi
      have e : SV.shift bs N (.ptr i e k o) = .ptr i' e k o := by
        simp only [SV.shift]
        cases hbi : bs[i]? <;> rw [hbi] at h3 <;> simp_all
      rw [e]
      exact .ptr i' _ _ _ b h1 (by rw [h2]; exact hbk)
    | adr fr cs' a' f' hsp hg h1' hc' hr2 => exact .any _
    | tup vs us' hl' h' => simp [SV.noTup] at hrt
    | sub i e' l h c' _ hid hs9 => exact .any _
    | clo => exact .any _
    | ag vs us' hl' h' h1' =>
      refine .ag _ us' (by simpa using hl') (fun q c u hc hu => ?_) h1'
      simp only [List.getElem?_map, Option.map_eq_some_iff] at hc
      obtain ⟨c', hc', rfl⟩ := hc
      have hcf1 : kept → c'.fresh1 = true := fun hk => by have := hrf hk; simp only [SV.fresh, List.all_eq_true] at this; exact this c' (List.mem_of_getElem? hc')
      have hv := h' q c' u hc' hu
      cases hv with
      | pv fr p v hp =>
        simp only [SV.shift1]
        cases hsc : p.scal with
        | true => exact .pv _ _ _ (hp.scal_any hsc)
        | false =>
          refine .pv _ _ _ (hp.mono fun b hb => ⟨hG2 fr b ?_ hb, rfl⟩)
          by_cases hk : kept
          · left; have := hcf1 hk; simpa [SV.fresh1, hsc] using this
          · exact .inr hk
      | ref i hi =>
        obtain ⟨i', h1, h2, h3⟩ := hidx i hi
        have e : SV.shift1 bs N (.ref i) = .ref i' := by
          simp only [SV.shift1]
          cases hbi : bs[i]? <;> rw [hbi] at h3 <;> simp_all
        rw [e, ← h2]
        exact .ref i' h1
      | _ => exact .any _
  have hput := hs2.put (blt_lt ht) (sv := packS (res.map (SV.shift bs N))) (v := pack us) (by
    match res, hus, hres with
    | [], hus, _ =>
      have : us = #[] := Array.eq_empty_of_size_eq_zero (by simpa using hus)
      subst this
      exact .tup _ _ rfl (fun j c v hc => by simp at hc)
    | [r], hus, hres =>
      have h1 : us.size = 1 := by simpa using hus
      have := hres 0 r rfl
      simp only [packS, pack, h1, dif_pos, List.map_cons, List.map_nil]
      simpa [Array.getD, h1] using this
    | r1 :: r2 :: rs, hus, hres =>
      have h1 : us.size ≠ 1 := by rw [hus]; simp
      simp only [packS, pack, h1, dif_neg, not_false_iff, List.map_cons]
      refine .tup _ _ (by rw [hus]; simp) (fun j c v hc hv => ?_)
      have hc2 : ((r1 :: r2 :: rs).map (SV.shift bs N))[j]? = some c := by simpa using hc
      simp only [List.getElem?_map, Option.map_eq_some_iff] at hc2
      obtain ⟨c', hc', rfl⟩ := hc2
      have := hres j c' hc'
      have e : us.getD j undef = v := by
        rw [Array.getElem?_eq_some_iff] at hv
        obtain ⟨hlt, e⟩ := hv
        simp [Array.getD, hlt, e]
      rw [e] at this
      exact this)
  exact hnx _ _ _ hput hsz (fun k hk hn => hold k hk (fun ⟨q, id, h1, h2⟩ => hn q id h1 h2))

end
end Go.Vl

namespace Go.Vl
open Go.RowKit
section
variable {P : Program} {C : Ctx} {Q : Go.Exit → St → Prop} {s : St} {ops : Array Oper} {rest : List Oper} {t : Nat} {ty : TypeId} {pos : String} {af : Array Edge}

/-- Which function a method is, for a dynamic type; and what it is given. -/
def MethAt (P : Program) (T : TypeId) (name : String) (p : PV) (F : FuncId) (q : PV) : Prop :=
  ∀ (w : World) (G : Nat → Prop) (v : Value), RP w G p v → ∃ r, (Go.method (P.types.size + Made.depth) T v name).run P w = .ok (F, r) w ∧ RP w G q r

theorem run_invoke {F : FuncId} {fn : Func} {a : Act} {w : World} {recv : Operand} {name : String} {T : TypeId} {v r : Value} {xs : Array Operand} {Ts : Array TypeId} {gd : Option (Nat × Bool)} (hf : P.funcs[F]? = some fn) (hnm : (fn.name == "runtime.NumGoroutine") = false)
    (hbd : fn.body.isNone = false) (hv : a.eval recv = .iface T v) (hm : (Go.method (P.types.size + Made.depth) T v name).run P w = .ok (F, r) w) (dst : Option Tmp) :
    (execOp a.eval ⟨dst, .call ⟨.invoke recv name, xs, Ts⟩, ty, pos, af, gd⟩).run P w = .ok (.enter F (#[r] ++ xs.map a.eval)) w := by
  have h1 : ¬ (fn.name = "runtime.NumGoroutine") := by simpa using hnm
  have h2 : ¬ (fn.body = none) := by intro e; rw [e] at hbd; cases hbd
  have hc : ∀ args, (callFunc F args).run P w = .ok (.enter F args) w := fun args => by simp [callFunc, hf, h1, h2]
  have hcm : ∀ args, (callMethod (.iface T v) name args).run P w = .ok (.enter F (#[r] ++ args)) w := fun args => by
    unfold callMethod
    simp only [Sem.run_bind, run_program, Result.andThen_ok, hm, hc]
  have h3 : (#[Value.iface T v] ++ xs.map a.eval).extract 1 (#[Value.iface T v] ++ xs.map a.eval).size = xs.map a.eval := by
    apply Array.ext_getElem?
    intro i
    rw [Array.getElem?_extract]
    split
    · rw [Array.getElem?_append_right (by simp)]
      congr 1
      simp
    · rename_i hh
      rw [Array.getElem?_eq_none]
      simp at hh ⊢
      omega
  have h4 : (#[Value.iface T v] ++ xs.map a.eval)[0]? = some (.iface T v) := by
    rw [Array.getElem?_append_left (by simp)]; rfl
  have hi : (invoke (.fn (.method name) #[]) (#[Value.iface T v] ++ xs.map a.eval)).run P w = .ok (.enter F (#[r] ++ xs.map a.eval)) w := by
    unfold invoke
    simp only [h4, h3]
    exact hcm _
  have hres : (resolve a.eval ⟨.invoke recv name, xs, Ts⟩ ty).run P w = .ok { target := .fn (.method name) #[], args := #[Value.iface T v] ++ xs.map a.eval } w := by
    unfold resolve
    simp only [hv]
    rfl
  simp only [execOp, Sem.run_bind, hres, Result.andThen_ok, hi]

theorem vo_invoke {recv : Operand} {name : String} {xs : Array Operand} {Ts : Array TypeId} {T : TypeId} {F : FuncId} {fn : Func} {p q : PV} {fr : Bool} {args : List SV} {R : List SV → List Row → Prop} (bs : List Nat) {brows : List Row}
    (hr : getO s.env recv = .pv fr (.ifc T p)) (hm : MethAt P T name p F q) (hf : P.funcs[F]? = some fn) (hnm : (fn.name == "runtime.NumGoroutine") = false) (hbd : fn.body.isNone = false) (ht : Nat.blt t s.n = true)
    (hb1 : bs.map (fun id => (s.rows[id]?).map Row.toArg) = brows.map some) (hb2 : brows.all Row.live = true) (hb3 : bs.map (placeOf bs) = (List.range bs.length).map some)
    (hargs : (.pv fr q :: xs.toList.map (getO s.env)).mapM (argOfB bs s.rows) = some args) (hsat : SatAt P F args brows R)
    (next : ∀ res rows', R res rows' → bs.length ≤ rows'.length ∧ (res.all SV.noTup = true ∧ rows'.all (Row.bdd 0) = true ∧ (rows'.take bs.length).all Row.live = true ∧ rows'.all Row.noGh = true) ∧
      (((.pv fr q :: xs.toList.map (getO s.env)).any (SV.isKept bs) = false) ∨ (res.all SV.fresh = true ∧ rows'.all Row.fresh = true)) ∧
      VO P C ops rest Q ⟨s.n, (t, packS (res.map (SV.shift bs s.rows.length))) :: s.env, rowsAfter bs s.rows rows'⟩) :
    VO P C ops (⟨some t, .call ⟨.invoke recv name, xs, Ts⟩, ty, pos, af, none⟩ :: rest) Q s := by
  intro a w ⟨m, hs⟩
  refine wpList_plain rfl fun K hK => ?_
  have hv := hs.get recv
  rw [hr] at hv
  have hv := hv.pv_inv
  obtain ⟨v, hva, hp⟩ : ∃ v, a.eval recv = .iface T v ∧ RP w (Gd C s.rows m w fr) p v := by
    generalize a.eval recv = x at hv
    cases hv with
    | ifc _ _ v h => exact ⟨v, rfl, h⟩
  obtain ⟨r, hrun, hq⟩ := hm w _ v hp
  refine ow_callA (sa := .pv fr q :: xs.toList.map (getO s.env)) bs hs (run_invoke hf hnm hbd hva hrun (some t)) (by simp; omega) (fun u x hu => ?_) ht hb1 hb2 hb3 hargs hsat
    (fun res rows' hR => let ⟨h1, h2, h3, h4⟩ := next res rows' hR; ⟨h1, h2, h3, fun m' a' w' hs' _ _ => hK _ _ (h4 _ _ ⟨m', hs'⟩)⟩)
  cases u with
  | zero =>
    simp at hu; subst hu
    have e : (#[r] ++ xs.map a.eval).getD 0 undef = r := by
      rw [Array.getD_eq_getD_getElem?, Array.getElem?_append_left (by simp)]; rfl
    rw [e]
    exact .pv fr q r hq
  | succ u =>
    simp only [List.getElem?_cons_succ, List.getElem?_map, Option.map_eq_some_iff] at hu
    obtain ⟨o, ho, rfl⟩ := hu
    have ho' : xs[u]? = some o := by simpa using ho
    have hul : u < xs.size := (Array.getElem?_eq_some_iff.1 ho').1
    have e : (#[r] ++ xs.map a.eval).getD (u+1) undef = a.eval o := by
      have e1 : (#[r] ++ xs.map a.eval)[u+1]? = some (a.eval o) := by
        rw [Array.getElem?_append_right (by simp)]
        simp [ho']
      rw [Array.getD_eq_getD_getElem?, e1]; rfl
    rw [e]
    exact hs.get o

/-- A value goes into an interface. -/
theorem lt_makeIface {x : Operand} {T : TypeId} {f : Bool} {p : PV} {D : TypeDesc} (hx : getO s.env x = .pv f p) (hT : P.underlying T = some D) (hD : (match D with | .interface _ => true | _ => false) = false) :
    Lt P C s ⟨some t, .makeInterface T x, ty, pos, af, none⟩ (.pv f (.ifc T p)) := by
  intro m a w hs
  have hv := hs.get x
  rw [hx] at hv
  refine ⟨.iface T (a.eval x), fun w' hw' => ?_, .pv _ _ _ (.ifc _ _ _ hv.pv_inv)⟩
  cases D <;> simp_all [execOp, Instr.makeInterface, run_underlying hT]

theorem vo_makeIface {x : Operand} {T : TypeId} {f : Bool} {p : PV} {D : TypeDesc} (ht : Nat.blt t s.n = true) (hx : getO s.env x = .pv f p) (hT : P.underlying T = some D) (hD : (match D with | .interface _ => true | _ => false) = false)
    (next : VO P C ops rest Q (s.put t (.pv f (.ifc T p)))) : VO P C ops (⟨some t, .makeInterface T x, ty, pos, af, none⟩ :: rest) Q s := vo_pure ht (lt_makeIface hx hT hD) next

/-- An interface is asserted to be another one: it is. -/
theorem vo_assert_yes {x : Operand} {T A xt : TypeId} {f : Bool} {p : PV} {want : Array (String × TypeId)} {inf : TypeInfo} (ht : Nat.blt t s.n = true) (hx : getO s.env x = .pv f (.ifc T p)) (hA : P.underlying A = some (.interface want)) (hinf : P.info? T = some inf)
    (hm : Instr.missingMethod want inf.methods = none) (next : VO P C ops rest Q (s.put t (.tup [.pv f (.ifc T p), .pv true (.bool true)]))) :
    VO P C ops (⟨some t, .typeAssert x xt A true, ty, pos, af, none⟩ :: rest) Q s := by
  refine vo_pure ht (fun m a w hs => ?_) next
  have hv := hs.get x
  rw [hx] at hv
  have hv := hv.pv_inv
  obtain ⟨v, hva, hp⟩ : ∃ v, a.eval x = .iface T v ∧ RP w (Gd C s.rows m w f) p v := by
    generalize a.eval x = y at hv
    cases hv with
    | ifc _ _ v h => exact ⟨v, rfl, h⟩
  refine ⟨.tuple #[.iface T v, .bool true], fun w' hw' => ?_, .tup _ _ rfl (fun j c u hc hu => ?_)⟩
  · simp [execOp, hva, Instr.typeAssert, run_underlying hA, typeInfo, hinf, hm]
  · match j, hc, hu with
    | 0, hc, hu => simp at hc hu; subst hc; subst hu; exact .pv _ _ _ (.ifc _ _ _ hp)
    | 1, hc, hu => simp at hc hu; subst hc; subst hu; exact .pv _ _ _ (.bool _)

theorem least_some {l : List String} (h : l ≠ []) : ∃ x, Instr.least l = some x := by
  cases l with
  | nil => exact absurd rfl h
  | cons a l => exact ⟨_, rfl⟩

theorem missing_some {want : Array (String × TypeId)} {got : Array Method} (h : (want.toList.any fun p => !got.any fun m => m.name == p.1 && m.sig == p.2) = true) : ∃ nm, Instr.missingMethod want got = some nm := by
  unfold Instr.missingMethod
  simp only []
  generalize hM : ((want.toList.filter fun (x : String × TypeId) => match x with | (name, sig) => !got.any fun m => m.name == name && m.sig == sig).map (·.1)) = M
  have hne : M ≠ [] := by
    rw [← hM]
    rw [List.any_eq_true] at h
    obtain ⟨p, hp, hq⟩ := h
    intro e
    rw [List.map_eq_nil_iff] at e
    have : p ∈ (want.toList.filter fun (x : String × TypeId) => match x with | (name, sig) => !got.any fun m => m.name == name && m.sig == sig) := List.mem_filter.2 ⟨hp, hq⟩
    rw [e] at this
    cases this
  rw [List.partition_eq_filter_filter]
  by_cases h2 : (M.filter (not ∘ fun x => x.contains '.')) = []
  · have h3 : (M.filter fun x => x.contains '.') ≠ [] := by
      intro e
      cases M with
      | nil => exact hne rfl
      | cons a l =>
        rw [List.filter_eq_nil_iff] at h2 e
        have h4 := h2 a List.mem_cons_self
        have h5 := e a List.mem_cons_self
        simp at h4 h5
        simp_all
    obtain ⟨x, hx⟩ := least_some (l := (M.filter fun x => x.contains '.').map fun id => (id.splitOn ".").getLastD id) (by simpa using h3)
    refine ⟨x, ?_⟩
    simp only [h2]
    rw [hx]
    rfl
  · obtain ⟨x, hx⟩ := least_some h2
    refine ⟨x, ?_⟩
    simp only [hx]
    rfl

/-- It is not. -/
theorem vo_assert_no {x : Operand} {T A xt : TypeId} {f : Bool} {p : PV} {want : Array (String × TypeId)} {inf : TypeInfo} (ht : Nat.blt t s.n = true) (hx : getO s.env x = .pv f (.ifc T p)) (hA : P.underlying A = some (.interface want)) (hinf : P.info? T = some inf)
    (hm : (want.toList.any fun p => !inf.methods.any fun m => m.name == p.1 && m.sig == p.2) = true) (hz : ∀ w, (zeroValue A).run P w = .ok .nilIface w) (next : VO P C ops rest Q (s.put t (.tup [.pv true .nilifc, .pv true (.bool false)]))) :
    VO P C ops (⟨some t, .typeAssert x xt A true, ty, pos, af, none⟩ :: rest) Q s := by
  obtain ⟨nm, hm⟩ := missing_some hm
  refine vo_pure ht (fun m a w hs => ?_) next
  have hv := hs.get x
  rw [hx] at hv
  have hv := hv.pv_inv
  obtain ⟨v, hva, hp⟩ : ∃ v, a.eval x = .iface T v ∧ RP w (Gd C s.rows m w f) p v := by
    generalize a.eval x = y at hv
    cases hv with
    | ifc _ _ v h => exact ⟨v, rfl, h⟩
  refine ⟨.tuple #[.nilIface, .bool false], fun w' hw' => ?_, .tup _ _ rfl (fun j c u hc hu => ?_)⟩
  · simp [execOp, hva, Instr.typeAssert, run_underlying hA, typeInfo, hinf, hm, hz]
  · match j, hc, hu with
    | 0, hc, hu => simp at hc hu; subst hc; subst hu; exact .pv _ _ _ .nilifc
    | 1, hc, hu => simp at hc hu; subst hc; subst hu; exact .pv _ _ _ (.bool _)
end
end Go.Vl

/- Every order, one by one: for statements where an operation that writes may come before a reading one. -/
namespace Go.Vl
set_option linter.unusedVariables false
set_option linter.unusedSimpArgs false
open Go.RowKit
section
variable {late : List Nat} {P : Program} {C : Ctx} {ops : Array Oper} {K : St → Prop} {s s1 : St} {n : Nat} {listed : Array Bool}
end
section
variable {P : Program} {C : Ctx} {s : St} {t : Nat} {ty : TypeId} {pos : String} {af : Array Edge}
end
end Go.Vl

/- Statements whose order of evaluation is open, with calls that write rows lent to the function: what reads others reads the same behind them. -/
namespace Go.Vl
set_option linter.unusedVariables false
set_option linter.unusedSimpArgs false
open Go.RowKit

/-- All that was there is there as it was, but for some blocks. -/
def ExtB (B : Nat → Prop) (w w' : World) : Prop := w.heap.size ≤ w'.heap.size ∧ ∀ k, k < w.heap.size → ¬ B k → w'.heap[k]? = w.heap[k]?
theorem ExtB.refl (B : Nat → Prop) (w : World) : ExtB B w w := ⟨Nat.le_refl _, fun _ _ _ => rfl⟩
theorem ExtB.trans {B : Nat → Prop} {a b c : World} (h : ExtB B a b) (k : ExtB B b c) : ExtB B a c := ⟨Nat.le_trans h.1 k.1, fun i hi hb => (k.2 i (Nat.lt_of_lt_of_le hi h.1) hb).trans (h.2 i hi hb)⟩
theorem ExtB.cell {B : Nat → Prop} {w w' : World} (h : ExtB B w w') {a : Addr} {v : Value} (hb : ¬ B a.block) (hc : w.cell? a = some v) : w'.cell? a = some v := by
  have hlt : a.block < w.heap.size := by
    rcases Nat.lt_or_ge a.block w.heap.size with h | h
    · exact h
    · unfold World.cell? at hc
      rw [Array.getElem?_eq_none h] at hc
      cases hc
  rw [← hc]
  simp [World.cell?, h.2 _ hlt hb]
/-- The blocks of what was lent to the function. -/
def lentB (C : Ctx) (b : Nat) : Prop := ∃ id, id < C.nb ∧ (C.bv id).S b

section
variable {B : Nat → Prop} {P : Program} {ops : Array Oper} {Q : Go.Exit → Act → World → Prop}
def yieldsB (B : Nat → Prop) (P : Program) (ops : Array Oper) (o : Oper) (v : Value) (a : Act) (w : World) : Prop :=
  (Region.wanted o (yielded ops a.tmps) = true ∧ ∀ w', ExtB B w w' → (execOp a.eval o).run P w' = .ok (.value v) w') ∨ (Region.wanted o (yielded ops a.tmps) = false ∧ v = undef)

theorem yieldsB.step {o : Oper} {v : Value} {a a' : Act} {w w' : World} (h : yieldsB B P ops o v a w) (hx : ExtB B w w') (he : execOp a'.eval o = execOp a.eval o)
    (hw : Region.wanted o (yielded ops a'.tmps) = Region.wanted o (yielded ops a.tmps)) : yieldsB B P ops o v a' w' := by
  unfold yieldsB at *
  rw [he, hw]
  exact h.imp (fun h => ⟨h.1, fun w2 h2 => h.2 w2 (hx.trans h2)⟩) id

theorem yieldsB.op {i : Nat} {o : Oper} {v : Value} {a : Act} {w : World} (hi : ops[i]? = some o) (hy : yieldsB B P ops o v a w) {K : Act → World → Prop} (h : K (a.put o.dst v) w) : wpOp P ops Q i K a w := by
  unfold wpOp
  simp only [hi]
  rcases hy with ⟨hw, hv⟩ | ⟨hw, rfl⟩
  · simp only [hw, if_true, Oper.wp, hv w (ExtB.refl B w), Oper.upon]; exact .inl h
  · simp only [hw, Bool.false_eq_true, if_false]; exact h

/-- Whatever order is picked; each step leaves all that was there as it was, or is one of those that come late. -/
def anyLB (B : Nat → Prop) (late : List Nat) (P : Program) (ops : Array Oper) (Q : Go.Exit → Act → World → Prop) : Nat → Array Bool → Act → World → Prop
  | 0, listed, a, w => Region.ready .any ops listed = [] ∧ Q .normal a w
  | n + 1, listed, a, w => (Region.ready .any ops listed = [] → Q .normal a w) ∧
      ∀ i ∈ Region.ready .any ops listed, wpOp P ops Q i (fun a' w' => (ExtB B w w' ∨ late.contains i = true) ∧ anyLB B late P ops Q n (listed.setIfInBounds i true) a' w') a w

end

def LtB (P : Program) (C : Ctx) (s : St) (o : Oper) (sv : SV) : Prop :=
  ∀ m a w, SimM C s m a w → ∃ v, (∀ w', ExtB (lentB C) w w' → (execOp a.eval o).run P w' = .ok (.value v) w') ∧ RS w (Gd C s.rows m w) m s.rows.length sv v
def VLB (late : List Nat) (P : Program) (C : Ctx) (ops : Array Oper) (n : Nat) (listed : Array Bool) (K : St → Prop) (s : St) : Prop := ∀ m a w, SimM C s m a w → anyLB (lentB C) late P ops (post0 C K) n listed a w

section
variable {late : List Nat} {P : Program} {C : Ctx} {ops : Array Oper} {K : St → Prop} {s : St} {n : Nat} {listed : Array Bool}

end
section
variable {late : List Nat} {P : Program} {C : Ctx} {ops : Array Oper} {K : St → Prop} {s s1 : St} {n : Nat} {listed : Array Bool}
def StepB (late : List Nat) (P : Program) (C : Ctx) (ops : Array Oper) (n : Nat) (listed : Array Bool) (K : St → Prop) (s : St) (i : Nat) : Prop :=
  ∀ m a w, SimM C s m a w → wpOp P ops (post0 C K) i (fun a' w' => (ExtB (lentB C) w w' ∨ late.contains i = true) ∧ anyLB (lentB C) late P ops (post0 C K) n (listed.setIfInBounds i true) a' w') a w
end
section
variable {P : Program} {C : Ctx} {s : St} {t : Nat} {ty : TypeId} {pos : String} {af : Array Edge}
end
section
variable {late : List Nat} {P : Program} {C : Ctx} {ops : Array Oper} {K : St → Prop} {s : St} {n : Nat} {listed : Array Bool}
end
end Go.Vl

namespace Go.Vl
set_option linter.unusedVariables false
set_option linter.unusedSimpArgs false
theorem plain_attrs (l : List AttrM) : plainX (l.map attrP) := by
  intro x hx c hc
  obtain ⟨a, _, rfl⟩ := List.mem_map.1 hx
  simp [PV.cells] at hc
  rcases hc with rfl | rfl | rfl <;> rfl
theorem plain_pairsX (l : List (Int × Int)) : plainX (l.map pairP) := by
  intro x hx c hc
  obtain ⟨a, _, rfl⟩ := List.mem_map.1 hx
  simp [PV.cells] at hc
  rcases hc with rfl | rfl <;> rfl
end Go.Vl

namespace Go.Vl
set_option linter.unusedVariables false
set_option linter.unusedSimpArgs false
open Go.Proofs

theorem plain_nilO2 (n : Nat) : plainX (List.replicate n (.agg [.int .i64 0, .sl (some true) 2 []])) := by
  intro x hx c hc
  rw [(List.mem_replicate.1 hx).2] at hc
  simp [PV.cells] at hc
  rcases hc with rfl | rfl <;> rfl
theorem Z57n : StZ Tryz.prog 57 [(.int .i64 0), (.sl (some true) 2 [])] := by
  refine ⟨⟨_, Tryz.underlying57⟩, ti57, #[(.int .i64 0), (.slice none 0 0)], inf57, sz57, by kernel_rfl, fun w G => .agg _ _ rfl ?_ ?_⟩
  · intro j c h
    match j, h with
    | 0, h => cases h; rfl
    | 1, h => cases h; rfl
  · intro j c u h hu
    match j, h, hu with
    | 0, h, hu => cases h; cases hu; exact .int _ _
    | 1, h, hu => cases h; cases hu; exact .nilsl _ _ (by decide)
theorem E31n : ElInfo Tryz.prog 31 57 2 32 (.agg [(.int .i64 0), (.sl (some true) 2 [])]) := .of_struct Tryz.underlying31 Z57n (fun i h => by rw [inf57] at h; rw [← Option.some.inj h]; exact by57) (List.cons_ne_nil _ _)

theorem fill_setG {α : Type} (f : α → PV) (l : List α) (k : Nat) (h : k < l.length) (d : α) (x : PV) : ((l.take k).map f ++ List.replicate (l.length - k) x).set k (f (l.getD k d)) = (l.take (k + 1)).map f ++ List.replicate (l.length - (k + 1)) x := by
  have e1 : ((l.take k).map f).length = k := by rw [List.length_map, List.length_take]; omega
  rw [List.set_append_right _ _ (by omega), e1, Nat.sub_self, show l.length - k = (l.length - (k + 1)) + 1 by omega, List.replicate_succ, List.set_cons_zero]
  have e2 : l.take (k + 1) = l.take k ++ [l.getD k d] := by rw [List.take_add_one, List.getD, List.getElem?_eq_getElem h]; rfl
  rw [e2, List.map_append, List.append_assoc]; rfl

theorem toAttrSO_sat {nl0 : Option Bool} {a : List AttrM} (ha : a.length < 1000000000)  : SatAt Tryz.prog 87 [.pv false (.sl nl0 3 (a.map attrP))] [] (fun res rows => res = [.ref 0] ∧ rows = [Row.own 52 3 (some false) true (a.map attrP)]) := by
 refine sat_entry_G (rs := [(2, none)]) Tryz.func87 rfl rfl (Nat.le_of_ble_eq_true rfl) (Nat.le_of_ble_eq_true rfl) (resTs1 trivial) fun C hC => ?_
 rw [Tryz.ntmps87]
 replace hC : C.nb = 0 := hC
 refine vc_seq fun K1 hK1 => ?_
 refine vc_region ?_
 refine vo_assign_pv rfl rfl ?_
 refine vo_nil ?_
 refine hK1 _ ?_
 refine vc_seq fun K2 hK2 => ?_
 refine vc_region ?_
 refine vo_move_pv rfl rfl ?_
 refine vo_len_pv rfl rfl Tryz.underlying114 ?_
 refine vo_make E97 rfl rfl rfl sd sd sd ?_
 refine vo_assign_ref rfl rfl ?_
 refine vo_nil ?_
 refine hK2 _ ?_
 refine vc_seq fun K3 hK3 => ?_
 refine vc_seq fun K4 hK4 => ?_
 refine vc_region ?_
 refine vo_assign_pv rfl rfl ?_
 refine vo_nil ?_
 refine hK4 _ ?_
 refine vc_block ?_
 refine vc_stM ?_
 refine vc_loopE [0] [3, 4] [0] _ _ (fun mz vs rs => ∃ (k : Nat), mz = a.length - k ∧ (k ≤ a.length) ∧ vs = [.ref 0, i64 k] ∧ rs = [Row.own 52 3 (some false) true ((a.take k).map attrP ++ List.replicate (a.length - k) (.agg [.int .i64 0, .int .i64 0, .int .i64 0]))]) (a.length) rfl rfl (le_len hC rfl) ⟨rfl, rfl, rfl⟩ rfl ⟨0, rfl, Nat.zero_le _, rfl, (rowI_eq (by rw [List.take_zero, List.length_map]; rfl))⟩ ?_
 rintro mz vs rs - - ⟨k, rfl, hk, rfl, rfl⟩
 refine vc_stM ?_
 refine vc_seq fun K5 hK5 => ?_
 refine vc_seq fun K6 hK6 => ?_
 refine vc_region ?_
 refine vo_move_pv rfl rfl ?_
 refine vo_move_pv rfl rfl ?_
 refine vo_len_pv rfl rfl Tryz.underlying114 ?_
 refine vo_binI rfl rfl rfl rfl trivial ?_
 refine vo_nil ?_
 refine hK6 _ ?_
 refine vc_cond rfl (fun hc1 => ?_) (fun hc1 => ?_)
 ·try simp only [zq0, zq1, zq2, zq3, zq4, zq5, zq6, zq7, zq8, zq9, zqa, zqb, zqc, zqd, zqe, zqf] at hc1
  refine vc_skip ?_
  refine hK5 _ ?_
  refine vc_seq fun K7 hK7 => ?_
  refine vc_block ?_
  refine vc_region ?_
  refine vo_move_ref rfl rfl ?_
  refine vo_move_pv rfl rfl ?_
  refine vo_move_pv rfl rfl ?_
  refine vo_move_pv rfl rfl ?_
  refine vo_index_pv (.agg [(.int .i64 0), (.int .i64 0), (.int .i64 0)]) rfl rfl rfl E114.und inf157 sz157 sd sd ?_
  simp only [Int.toNat_natCast, Int.toNat_zero, getD_ints, getD_intss, getD_bools, getD_bytes, PV.cells, getD_ops, getD_pairs, getD_insts, getD_attrs, getD_attrss, getD_objs, getD_ordP]
  refine vo_load_adrS rfl rfl Tryz.underlying157 rfl inf157 sz157 rfl ?_
  refine vo_st (by (try simp only [St.put, PV.cells, PV.scal, List.drop_succ_cons, List.drop_zero, List.take_succ_cons, List.take_zero, List.map_cons, List.map_nil, Bool.or_true, Bool.or_false, Bool.false_or, Bool.true_or, opP, pairP, instP, heapP]); exact eq_refl _) ?_
  refine vo_call0 Tryz.func120 rfl rfl rfl rfl toAttr_sat ?_
  rintro _ _ ⟨rfl, rfl⟩
  refine ⟨rfl, rfl, .inl rfl, ?_⟩
  refine vo_stM ?_
  refine vo_index_ref rfl rfl rfl rfl E97.und inf52 sz52 sd sd ?_
  try simp only [Int.toNat_natCast]
  refine vo_store_own rfl rfl rfl inf52 sz52 (by decide) rfl sd ?_
  try simp only [set_ints, set_intss, set_bools, rep_bools, rep_ints, Int.toNat_natCast, Int.toNat_zero]
  refine vo_stM ?_
  refine vo_nil ?_
  refine hK7 _ ?_
  refine vc_region ?_
  refine vo_move_pv rfl rfl ?_
  refine vo_binI rfl rfl rfl rfl sd ?_
  refine vo_assign_pv rfl rfl ?_
  refine vo_nil ?_
  change againE _ _ _ _ _ _ _ _ _ _
  refine againE_mk rfl rfl rfl rfl rfl rfl ⟨_, ?_, k + 1, rfl, ?_, rfl, (rowI_eq (fill_setG attrP a k (by omega) ⟨0, 0, 0⟩ _))⟩
  ·omega
  ·omega
 ·try simp only [zq0, zq1, zq2, zq3, zq4, zq5, zq6, zq7, zq8, zq9, zqa, zqb, zqc, zqd, zqe, zqf] at hc1
  refine vc_exit ?_
  refine hK3 _ ?_
  refine vc_seq fun K8 hK8 => ?_
  refine vc_region ?_
  refine vo_move_ref rfl rfl ?_
  refine vo_assign_ref rfl rfl ?_
  refine vo_nil ?_
  refine hK8 _ ?_
  refine vc_ret ?_
  change retQ _ _ _ _ _
  refine retQ_sel [0] (srows := [_]) (.inr rfl) hC rfl rfl rfl rfl rfl rfl rfl ?_
  have : k = a.length := by omega
  subst this
  rw [List.take_length, Nat.sub_self, List.replicate_zero, List.append_nil]
  exact ⟨rfl, rfl⟩


theorem toAttrSST_sat {nl0 : Option Bool} {a : List (List AttrM)} (ha : a.length < 1000000000) (hs : ∀ l ∈ a, l.length < 1000000000) : SatAt Tryz.prog 39 [.pv false (.sl nl0 1 (a.map attrsP))] [] (fun res rows => res = [.ref 0] ∧ rows = [Row.tree 97 1 (some false) none (a.map attrsP)]) := by
 refine sat_entry_G (rs := [(2, none)]) Tryz.func39 rfl rfl (Nat.le_of_ble_eq_true rfl) (Nat.le_of_ble_eq_true rfl) (resTs1 trivial) fun C hC => ?_
 rw [Tryz.ntmps39]
 replace hC : C.nb = 0 := hC
 refine vc_seq fun K1 hK1 => ?_
 refine vc_region ?_
 refine vo_assign_pv rfl rfl ?_
 refine vo_nil ?_
 refine hK1 _ ?_
 refine vc_seq fun K2 hK2 => ?_
 refine vc_region ?_
 refine vo_move_pv rfl rfl ?_
 refine vo_len_pv rfl rfl Tryz.underlying23 ?_
 refine vo_make E30 rfl rfl rfl sd sd sd ?_
 refine vo_assign_ref rfl rfl ?_
 refine vo_nil ?_
 refine hK2 _ ?_
 refine vc_seq fun K3 hK3 => ?_
 refine vc_seq fun K4 hK4 => ?_
 refine vc_region ?_
 refine vo_assign_pv rfl rfl ?_
 refine vo_nil ?_
 refine hK4 _ ?_
 refine vc_block ?_
 refine vc_totree 0 rfl (plain_rep _ _) ?_
 refine vc_stM ?_
 refine vc_stM ?_
 refine vc_loopE [0] [3, 4] [0] _ _ (fun mz vs rs => ∃ (k : Nat), mz = a.length - k ∧ (k ≤ a.length) ∧ vs = [.ref 0, i64 k] ∧ rs = [Row.tree 97 1 (some false) none ((a.take k).map attrsP ++ List.replicate (a.length - k) (.sl (some true) 3 []))]) (a.length) rfl rfl (le_len hC rfl) ⟨rfl, rfl, rfl⟩ rfl ⟨0, rfl, Nat.zero_le _, rfl, (rowT_eq (by rw [List.take_zero, List.length_map]; rfl))⟩ ?_
 rintro mz vs rs - - ⟨k, rfl, hk, rfl, rfl⟩
 refine vc_stM ?_
 refine vc_seq fun K5 hK5 => ?_
 refine vc_seq fun K6 hK6 => ?_
 refine vc_region ?_
 refine vo_move_pv rfl rfl ?_
 refine vo_move_pv rfl rfl ?_
 refine vo_len_pv rfl rfl Tryz.underlying23 ?_
 refine vo_binI rfl rfl rfl rfl trivial ?_
 refine vo_nil ?_
 refine hK6 _ ?_
 refine vc_cond rfl (fun hc1 => ?_) (fun hc1 => ?_)
 ·try simp only [zq0, zq1, zq2, zq3, zq4, zq5, zq6, zq7, zq8, zq9, zqa, zqb, zqc, zqd, zqe, zqf] at hc1
  refine vc_skip ?_
  refine hK5 _ ?_
  refine vc_seq fun K7 hK7 => ?_
  refine vc_block ?_
  refine vc_region ?_
  refine vo_move_ref rfl rfl ?_
  refine vo_move_pv rfl rfl ?_
  refine vo_move_pv rfl rfl ?_
  refine vo_move_pv rfl rfl ?_
  refine vo_index_pv (.sl none 3 []) rfl rfl rfl E23.und inf114 sz114 sd sd ?_
  simp only [Int.toNat_natCast, Int.toNat_zero, getD_ints, getD_intss, getD_bools, getD_bytes, PV.cells, getD_ops, getD_pairs, getD_insts, getD_attrs, getD_attrss, getD_objs, getD_ordP]
  refine vo_load_adr rfl rfl Tryz.underlying114 rfl ?_
  refine vo_call [] Tryz.func87 rfl rfl rfl rfl rfl rfl rfl (toAttrSO_sat (getD_all (p := fun l : List AttrM => l.length < 1000000000) hs [] (by simp) _)) ?_
  rintro _ _ ⟨rfl, rfl⟩
  refine ⟨Nat.le_of_ble_eq_true rfl, ⟨rfl, rfl, rfl, rfl⟩, .inl rfl, ?_⟩
  refine vo_stM ?_
  refine vo_index_ref rfl rfl rfl rfl E30.und inf97 sz97 sd sd ?_
  try simp only [Int.toNat_natCast]
  refine vo_totree 1 rfl (plain_attrs _) ?_
  refine vo_stM ?_
  refine vo_weaktree 1 rfl ?_
  refine vo_stM ?_
  refine vo_put (p := .sl _ _ _) rfl rfl rfl rfl rfl rfl rfl hC rfl (by first | decide | (simp [refsOf]; done) | (simp [refsOf, SV.shift1, placeOf]; done)) inf97 sz97 sd ?_
  refine vo_stM ?_
  refine vo_nil ?_
  refine hK7 _ ?_
  refine vc_region ?_
  refine vo_move_pv rfl rfl ?_
  refine vo_binI rfl rfl rfl rfl sd ?_
  refine vo_assign_pv rfl rfl ?_
  refine vo_nil ?_
  change againE _ _ _ _ _ _ _ _ _ _
  refine againE_mk rfl rfl rfl rfl rfl rfl ⟨_, ?_, k + 1, rfl, ?_, rfl, (rowT_eq (fill_setG attrsP a k (by omega) [] _))⟩
  ·omega
  ·omega
 ·try simp only [zq0, zq1, zq2, zq3, zq4, zq5, zq6, zq7, zq8, zq9, zqa, zqb, zqc, zqd, zqe, zqf] at hc1
  refine vc_exit ?_
  refine hK3 _ ?_
  refine vc_seq fun K8 hK8 => ?_
  refine vc_region ?_
  refine vo_move_ref rfl rfl ?_
  refine vo_assign_ref rfl rfl ?_
  refine vo_nil ?_
  refine hK8 _ ?_
  refine vc_ret ?_
  change retQ _ _ _ _ _
  refine retQ_sel [0] (srows := [_]) (.inr rfl) hC rfl rfl rfl rfl rfl rfl rfl ?_
  have : k = a.length := by omega
  subst this
  rw [List.take_length, Nat.sub_self, List.replicate_zero, List.append_nil]
  exact ⟨rfl, rfl⟩


theorem toPairSO_sat {nl0 : Option Bool} {a : List (Int × Int)} (ha : a.length < 1000000000)  : SatAt Tryz.prog 121 [.pv false (.sl nl0 2 (a.map pairP))] [] (fun res rows => res = [.ref 0] ∧ rows = [Row.own 102 2 (some false) true (a.map pairP)]) := by
 refine sat_entry_G (rs := [(2, none)]) Tryz.func121 rfl rfl (Nat.le_of_ble_eq_true rfl) (Nat.le_of_ble_eq_true rfl) (resTs1 trivial) fun C hC => ?_
 rw [Tryz.ntmps121]
 replace hC : C.nb = 0 := hC
 refine vc_seq fun K1 hK1 => ?_
 refine vc_region ?_
 refine vo_assign_pv rfl rfl ?_
 refine vo_nil ?_
 refine hK1 _ ?_
 refine vc_seq fun K2 hK2 => ?_
 refine vc_region ?_
 refine vo_move_pv rfl rfl ?_
 refine vo_len_pv rfl rfl Tryz.underlying116 ?_
 refine vo_make E55 rfl rfl rfl sd sd sd ?_
 refine vo_assign_ref rfl rfl ?_
 refine vo_nil ?_
 refine hK2 _ ?_
 refine vc_seq fun K3 hK3 => ?_
 refine vc_seq fun K4 hK4 => ?_
 refine vc_region ?_
 refine vo_assign_pv rfl rfl ?_
 refine vo_nil ?_
 refine hK4 _ ?_
 refine vc_block ?_
 refine vc_stM ?_
 refine vc_loopE [0] [3, 4] [0] _ _ (fun mz vs rs => ∃ (k : Nat), mz = a.length - k ∧ (k ≤ a.length) ∧ vs = [.ref 0, i64 k] ∧ rs = [Row.own 102 2 (some false) true ((a.take k).map pairP ++ List.replicate (a.length - k) (.agg [.int .i64 0, .int .i64 0]))]) (a.length) rfl rfl (le_len hC rfl) ⟨rfl, rfl, rfl⟩ rfl ⟨0, rfl, Nat.zero_le _, rfl, (rowI_eq (by rw [List.take_zero, List.length_map]; rfl))⟩ ?_
 rintro mz vs rs - - ⟨k, rfl, hk, rfl, rfl⟩
 refine vc_stM ?_
 refine vc_seq fun K5 hK5 => ?_
 refine vc_seq fun K6 hK6 => ?_
 refine vc_region ?_
 refine vo_move_pv rfl rfl ?_
 refine vo_move_pv rfl rfl ?_
 refine vo_len_pv rfl rfl Tryz.underlying116 ?_
 refine vo_binI rfl rfl rfl rfl trivial ?_
 refine vo_nil ?_
 refine hK6 _ ?_
 refine vc_cond rfl (fun hc1 => ?_) (fun hc1 => ?_)
 ·try simp only [zq0, zq1, zq2, zq3, zq4, zq5, zq6, zq7, zq8, zq9, zqa, zqb, zqc, zqd, zqe, zqf] at hc1
  refine vc_skip ?_
  refine hK5 _ ?_
  refine vc_seq fun K7 hK7 => ?_
  refine vc_block ?_
  refine vc_region ?_
  refine vo_move_ref rfl rfl ?_
  refine vo_move_pv rfl rfl ?_
  refine vo_move_pv rfl rfl ?_
  refine vo_move_pv rfl rfl ?_
  refine vo_index_pv (.agg [(.int .i64 0), (.int .i64 0)]) rfl rfl rfl E116.und inf170 sz170 sd sd ?_
  simp only [Int.toNat_natCast, Int.toNat_zero, getD_ints, getD_intss, getD_bools, getD_bytes, PV.cells, getD_ops, getD_pairs, getD_insts, getD_attrs, getD_attrss, getD_objs, getD_ordP]
  refine vo_load_adrS rfl rfl Tryz.underlying170 rfl inf170 sz170 rfl ?_
  refine vo_st (by (try simp only [St.put, PV.cells, PV.scal, List.drop_succ_cons, List.drop_zero, List.take_succ_cons, List.take_zero, List.map_cons, List.map_nil, Bool.or_true, Bool.or_false, Bool.false_or, Bool.true_or, opP, pairP, instP, heapP]); exact eq_refl _) ?_
  refine vo_call0 Tryz.func139 rfl rfl rfl rfl toPair_sat ?_
  rintro _ _ ⟨rfl, rfl⟩
  refine ⟨rfl, rfl, .inl rfl, ?_⟩
  refine vo_stM ?_
  refine vo_index_ref rfl rfl rfl rfl E55.und inf102 sz102 sd sd ?_
  try simp only [Int.toNat_natCast]
  refine vo_store_own rfl rfl rfl inf102 sz102 (by decide) rfl sd ?_
  try simp only [set_ints, set_intss, set_bools, rep_bools, rep_ints, Int.toNat_natCast, Int.toNat_zero]
  refine vo_stM ?_
  refine vo_nil ?_
  refine hK7 _ ?_
  refine vc_region ?_
  refine vo_move_pv rfl rfl ?_
  refine vo_binI rfl rfl rfl rfl sd ?_
  refine vo_assign_pv rfl rfl ?_
  refine vo_nil ?_
  change againE _ _ _ _ _ _ _ _ _ _
  refine againE_mk rfl rfl rfl rfl rfl rfl ⟨_, ?_, k + 1, rfl, ?_, rfl, (rowI_eq (fill_setG pairP a k (by omega) (0, 0) _))⟩
  ·omega
  ·omega
 ·try simp only [zq0, zq1, zq2, zq3, zq4, zq5, zq6, zq7, zq8, zq9, zqa, zqb, zqc, zqd, zqe, zqf] at hc1
  refine vc_exit ?_
  refine hK3 _ ?_
  refine vc_seq fun K8 hK8 => ?_
  refine vc_region ?_
  refine vo_move_ref rfl rfl ?_
  refine vo_assign_ref rfl rfl ?_
  refine vo_nil ?_
  refine hK8 _ ?_
  refine vc_ret ?_
  change retQ _ _ _ _ _
  refine retQ_sel [0] (srows := [_]) (.inr rfl) hC rfl rfl rfl rfl rfl rfl rfl ?_
  have : k = a.length := by omega
  subst this
  rw [List.take_length, Nat.sub_self, List.replicate_zero, List.append_nil]
  exact ⟨rfl, rfl⟩


theorem toObjectO_sat {a : ObjM}  (ha : SO a) : SatAt Tryz.prog 88 [.pv false (objP a)] [] (fun res rows => res = [.ag [i64 a.cls, .ref 0]] ∧ rows = [Row.own 102 2 (some false) true (a.pairs.map pairP)]) := by
 unfold SO at ha
 refine sat_entry_G (rs := [(2, some (57, 2))]) Tryz.func88 rfl rfl (Nat.le_of_ble_eq_true rfl) (Nat.le_of_ble_eq_true rfl) (resTs1 ⟨_, _, Tryz.underlying57, rfl, inf57, sz57⟩) fun C hC => ?_
 rw [Tryz.ntmps88]
 replace hC : C.nb = 0 := hC
 refine vc_seq fun K1 hK1 => ?_
 refine vc_region ?_
 refine vo_box rfl rfl ?_
 refine vo_stM ?_
 refine vo_alloc Z57 rfl ?_
 refine vo_stM ?_
 refine vo_nil ?_
 refine hK1 _ ?_
 refine vc_seq fun K2 hK2 => ?_
 refine vc_region ?_
 refine vo_alloc Z57 rfl ?_
 refine vo_stM ?_
 refine vo_nil ?_
 refine hK2 _ ?_
 refine vc_seq fun K3 hK3 => ?_
 refine vc_region ?_
 refine vo_fieldAddr_ptr rfl rfl Tryz.underlying118 rfl inf3 (by rw [sz3]; decide) ?_
 try simp only [Nat.zero_add]
 refine vo_load_var rfl rfl rfl Tryz.underlying3 rfl rfl ?_
 refine vo_fieldAddr_ptr rfl rfl Tryz.underlying57 rfl inf3 (by rw [sz3]; decide) ?_
 try simp only [Nat.zero_add]
 refine vo_store_var rfl rfl rfl rfl inf3 sz3 rfl ?_
 refine vo_stM ?_
 refine vo_nil ?_
 refine hK3 _ ?_
 refine vc_seq fun K4 hK4 => ?_
 refine vc_region ?_
 refine vo_fieldAddr_ptr rfl rfl Tryz.underlying118 rfl inf116 (by rw [sz116]; decide) ?_
 try simp only [Nat.zero_add]
 refine vo_load_var rfl rfl rfl Tryz.underlying116 rfl rfl ?_
 refine vo_call [] Tryz.func121 rfl rfl rfl rfl rfl rfl rfl (toPairSO_sat (by omega)) ?_
 rintro _ _ ⟨rfl, rfl⟩
 refine ⟨Nat.le_of_ble_eq_true rfl, ⟨rfl, rfl, rfl, rfl⟩, .inl rfl, ?_⟩
 refine vo_stM ?_
 refine vo_fieldAddr_ptr rfl rfl Tryz.underlying57 rfl inf55 (by rw [sz55]; decide) ?_
 try simp only [Nat.zero_add]
 refine vo_store_varG rfl rfl rfl rfl inf55 sz55 rfl ?_
 refine vo_stM ?_
 refine vo_nil ?_
 refine hK4 _ ?_
 refine vc_seq fun K5 hK5 => ?_
 refine vc_region ?_
 refine vo_load_varG rfl rfl rfl Tryz.underlying57 rfl inf57 sz57 rfl ?_
 refine vo_stM ?_
 refine vo_store_varG rfl rfl rfl rfl inf57 sz57 rfl ?_
 refine vo_stM ?_
 refine vo_nil ?_
 refine hK5 _ ?_
 refine vc_ret ?_
 change retQ _ _ _ _ _
 refine retQ_sel [3] (srows := [_]) (.inr rfl) hC rfl rfl rfl rfl rfl rfl rfl ?_
 exact ⟨rfl, rfl⟩


theorem toObjectST_sat {nl0 : Option Bool} {a : List ObjM} (ha : a.length < 1000000000) (hs : ∀ o ∈ a, SO o) : SatAt Tryz.prog 40 [.pv false (.sl nl0 2 (a.map objP))] [] (fun res rows => res = [.ref 0] ∧ rows = [Row.tree 57 2 (some false) none (a.map objP)]) := by
 refine sat_entry_G (rs := [(2, none)]) Tryz.func40 rfl rfl (Nat.le_of_ble_eq_true rfl) (Nat.le_of_ble_eq_true rfl) (resTs1 trivial) fun C hC => ?_
 rw [Tryz.ntmps40]
 replace hC : C.nb = 0 := hC
 refine vc_seq fun K1 hK1 => ?_
 refine vc_region ?_
 refine vo_assign_pv rfl rfl ?_
 refine vo_nil ?_
 refine hK1 _ ?_
 refine vc_seq fun K2 hK2 => ?_
 refine vc_region ?_
 refine vo_move_pv rfl rfl ?_
 refine vo_len_pv rfl rfl Tryz.underlying24 ?_
 refine vo_make E31n rfl rfl rfl sd sd sd ?_
 refine vo_assign_ref rfl rfl ?_
 refine vo_nil ?_
 refine hK2 _ ?_
 refine vc_seq fun K3 hK3 => ?_
 refine vc_seq fun K4 hK4 => ?_
 refine vc_region ?_
 refine vo_assign_pv rfl rfl ?_
 refine vo_nil ?_
 refine hK4 _ ?_
 refine vc_block ?_
 refine vc_totree 0 rfl (plain_nilO2 _) ?_
 refine vc_stM ?_
 refine vc_stM ?_
 refine vc_loopE [0] [3, 4] [0] _ _ (fun mz vs rs => ∃ (k : Nat), mz = a.length - k ∧ (k ≤ a.length) ∧ vs = [.ref 0, i64 k] ∧ rs = [Row.tree 57 2 (some false) none ((a.take k).map objP ++ List.replicate (a.length - k) (.agg [.int .i64 0, .sl (some true) 2 []]))]) (a.length) rfl rfl (le_len hC rfl) ⟨rfl, rfl, rfl⟩ rfl ⟨0, rfl, Nat.zero_le _, rfl, (rowT_eq (by rw [List.take_zero, List.length_map]; rfl))⟩ ?_
 rintro mz vs rs - - ⟨k, rfl, hk, rfl, rfl⟩
 refine vc_stM ?_
 refine vc_seq fun K5 hK5 => ?_
 refine vc_seq fun K6 hK6 => ?_
 refine vc_region ?_
 refine vo_move_pv rfl rfl ?_
 refine vo_move_pv rfl rfl ?_
 refine vo_len_pv rfl rfl Tryz.underlying24 ?_
 refine vo_binI rfl rfl rfl rfl trivial ?_
 refine vo_nil ?_
 refine hK6 _ ?_
 refine vc_cond rfl (fun hc1 => ?_) (fun hc1 => ?_)
 ·try simp only [zq0, zq1, zq2, zq3, zq4, zq5, zq6, zq7, zq8, zq9, zqa, zqb, zqc, zqd, zqe, zqf] at hc1
  refine vc_skip ?_
  refine hK5 _ ?_
  refine vc_seq fun K7 hK7 => ?_
  refine vc_block ?_
  refine vc_region ?_
  refine vo_move_ref rfl rfl ?_
  refine vo_move_pv rfl rfl ?_
  refine vo_move_pv rfl rfl ?_
  refine vo_move_pv rfl rfl ?_
  refine vo_index_pv (.agg [(.int .i64 0), (.sl none 2 [])]) rfl rfl rfl E24.und inf118 sz118 sd sd ?_
  simp only [Int.toNat_natCast, Int.toNat_zero, getD_ints, getD_intss, getD_bools, getD_bytes, PV.cells, getD_ops, getD_pairs, getD_insts, getD_attrs, getD_attrss, getD_objs, getD_ordP]
  refine vo_load_adrS rfl rfl Tryz.underlying118 rfl inf118 sz118 rfl ?_
  refine vo_st (by (try simp only [St.put, PV.cells, PV.scal, List.drop_succ_cons, List.drop_zero, List.take_succ_cons, List.take_zero, List.map_cons, List.map_nil, Bool.or_true, Bool.or_false, Bool.false_or, Bool.true_or, opP, pairP, instP, heapP]); exact eq_refl _) ?_
  refine vo_call [] Tryz.func88 rfl rfl rfl rfl rfl rfl rfl (toObjectO_sat (getD_all hs _ SO_zero _)) ?_
  rintro _ _ ⟨rfl, rfl⟩
  refine ⟨Nat.le_of_ble_eq_true rfl, ⟨rfl, rfl, rfl, rfl⟩, .inl rfl, ?_⟩
  refine vo_stM ?_
  refine vo_index_ref rfl rfl rfl rfl E31n.und inf57 sz57 sd sd ?_
  try simp only [Int.toNat_natCast]
  refine vo_totree 1 rfl (plain_pairsX _) ?_
  refine vo_stM ?_
  refine vo_weaktree 1 rfl ?_
  refine vo_stM ?_
  refine vo_put (p := .agg _) rfl rfl rfl rfl rfl rfl rfl hC rfl (by first | decide | (simp [refsOf]; done) | (simp [refsOf, SV.shift1, placeOf]; done)) inf57 sz57 sd ?_
  refine vo_stM ?_
  refine vo_nil ?_
  refine hK7 _ ?_
  refine vc_region ?_
  refine vo_move_pv rfl rfl ?_
  refine vo_binI rfl rfl rfl rfl sd ?_
  refine vo_assign_pv rfl rfl ?_
  refine vo_nil ?_
  change againE _ _ _ _ _ _ _ _ _ _
  refine againE_mk rfl rfl rfl rfl rfl rfl ⟨_, ?_, k + 1, rfl, ?_, rfl, (rowT_eq (fill_setG objP a k (by omega) ⟨0, []⟩ _))⟩
  ·omega
  ·omega
 ·try simp only [zq0, zq1, zq2, zq3, zq4, zq5, zq6, zq7, zq8, zq9, zqa, zqb, zqc, zqd, zqe, zqf] at hc1
  refine vc_exit ?_
  refine hK3 _ ?_
  refine vc_seq fun K8 hK8 => ?_
  refine vc_region ?_
  refine vo_move_ref rfl rfl ?_
  refine vo_assign_ref rfl rfl ?_
  refine vo_nil ?_
  refine hK8 _ ?_
  refine vc_ret ?_
  change retQ _ _ _ _ _
  refine retQ_sel [0] (srows := [_]) (.inr rfl) hC rfl rfl rfl rfl rfl rfl rfl ?_
  have : k = a.length := by omega
  subst this
  rw [List.take_length, Nat.sub_self, List.replicate_zero, List.append_nil]
  exact ⟨rfl, rfl⟩

end Go.Vl

namespace Go.Vl
set_option linter.unusedVariables false
set_option linter.unusedSimpArgs false
open Go.Proofs

def rstM (o : List Int) (x : Int) : List Int := if 0 ≤ findM x o 0 then o.drop (findM x o 0 + 1).toNat else []
def nxtO (o : List Int) (x : Int) : Int := if 0 ≤ findM x o 0 ∧ findM x o 0 + 1 < o.length then o.getD (findM x o 0 + 1).toNat 0 else -1
theorem findM_ltL {x : Int} {o : List Int} (h : 0 ≤ findM x o 0) : findM x o 0 < o.length := by
  obtain ⟨i, hi, h1, _⟩ := findM_pos_iff (n := x) (l := o) (k := 0) (by omega) h
  omega
end Go.Vl

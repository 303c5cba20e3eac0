/- Part 3 of the texts that the proof of FnPlainPairs is built on. -/
import Derived.Test.YtajolcdboifjaaaVl2
namespace Go.Vl
set_option linter.unusedVariables false
set_option linter.unusedSimpArgs false
open Go.Proofs
theorem S70n : StInfo Try.prog 70 [(0, 1), (1, 1), (2, 1), (3, 1)] [(.bool false), (.sl (some true) 1 []), (.sl (some true) 1 []), (.sl (some true) 2 [])] := by
  refine ⟨⟨_, Try.underlying70⟩, #[(.bool false), (.slice none 0 0), (.slice none 0 0), (.slice none 0 0)], fun l => by kernel_rfl, fun w G => .agg _ _ rfl ?_ ?_⟩
  · intro j c h
    match j, h with
    | 0, h => cases h; rfl
    | 1, h => cases h; rfl
    | 2, h => cases h; rfl
    | 3, h => cases h; rfl
  · intro j c u h hu
    match j, h, hu with
    | 0, h, hu => cases h; cases hu; exact .bool _
    | 1, h, hu => cases h; cases hu; exact .nilsl _ _ (by decide)
    | 2, h, hu => cases h; cases hu; exact .nilsl _ _ (by decide)
    | 3, h, hu => cases h; cases hu; exact .nilsl _ _ (by decide)

theorem implPlainPairs_sat {nl0 : Option Bool} {list : List OpM} {who : Int} (hlist : list.length < 1000000000)  : SatAt Try.prog 28 [.pv false (.sl nl0 4 (list.map opP)), i64 who] [] (fun res rows => ∃ nl, res = [.ref 0] ∧ rows = [Row.own 37 2 nl true ((plp list who).map pairP)]) := by
  refine sat_entry_G (rs := [(4, none)]) Try.func28 rfl rfl (Nat.le_of_ble_eq_true rfl) (Nat.le_of_ble_eq_true rfl) (resTs1 trivial) fun C hC => ?_
  rw [Try.ntmps28]
  replace hC : C.nb = 0 := hC
  refine vc_seq fun K1 hK1 => ?_
  refine vc_region ?_
  refine vo_assign_pv rfl rfl ?_
  refine vo_own_nil 4 E32 rfl ?_
  refine vo_nil ?_
  refine hK1 _ ?_
  refine vc_seq fun K2 hK2 => ?_
  refine vc_seq fun K3 hK3 => ?_
  refine vc_region ?_
  refine vo_move_pv rfl rfl ?_
  refine vo_call0 Try.func16 rfl rfl rfl rfl (implValidOps_sat hlist) ?_
  rintro _ _ ⟨rfl, rfl⟩
  refine ⟨rfl, rfl, .inl rfl, ?_⟩
  refine vo_stM ?_
  refine vo_not rfl rfl ?_
  refine vo_move_pv rfl rfl ?_
  refine vo_split 11 rfl (fun hg1 => ?_) (fun hg1 => ?_)
  · try simp only [decide_eq_true_eq, decide_eq_false_iff_not, beq_iff_eq, bne_iff_ne, beq_eq_false_iff_ne, bne_eq_false_iff_eq, Bool.not_eq_true, Bool.not_eq_false, Bool.not_eq_eq_eq_not, Bool.not_true, Bool.not_false, List.length_map, Int.not_lt, Int.not_le, ne_eq, Decidable.not_not] at hg1
    refine vo_guard_off rfl rfl rfl rfl rfl ?_
    refine vo_guard_off rfl rfl rfl rfl rfl ?_
    refine vo_guard_off rfl rfl rfl rfl rfl ?_
    refine vo_pick_t rfl rfl ?_
    refine vo_nil ?_
    refine hK3 _ ?_
    refine vc_cond_t rfl ?_
    refine vc_seq fun K4 hK4 => ?_
    refine vc_region ?_
    refine vo_assign_pv rfl rfl ?_
    refine vo_own_nil 4 E32 rfl ?_
    refine vo_nil ?_
    refine hK4 _ ?_
    refine vc_ret ?_
    change retQ _ _ _ _ _
    refine retQ_sel [1] (srows := [_]) (.inr rfl) hC rfl rfl rfl rfl rfl rfl rfl ?_
    have e : plp list who = [] := by unfold plp; rw [if_neg (fun h0 => absurd h0.1 (by assumption))]
    rw [e]; exact ⟨_, rfl, rfl⟩
  · try simp only [decide_eq_true_eq, decide_eq_false_iff_not, beq_iff_eq, bne_iff_ne, beq_eq_false_iff_ne, bne_eq_false_iff_eq, Bool.not_eq_true, Bool.not_eq_false, Bool.not_eq_eq_eq_not, Bool.not_true, Bool.not_false, List.length_map, Int.not_lt, Int.not_le, ne_eq, Decidable.not_not] at hg1
    refine vo_guard_on rfl rfl rfl ?_
    refine vo_move_pv rfl rfl ?_
    refine vo_guard_on rfl rfl rfl ?_
    refine vo_call0 Try.func66 rfl rfl rfl rfl isWho_sat ?_
    rintro _ _ ⟨rfl, rfl⟩
    refine ⟨rfl, rfl, .inl rfl, ?_⟩
    refine vo_stM ?_
    refine vo_guard_on rfl rfl rfl ?_
    refine vo_not rfl rfl ?_
    refine vo_pick_f rfl rfl ?_
    refine vo_nil ?_
    refine hK3 _ ?_
    refine vc_cond rfl (fun hc2 => ?_) (fun hc2 => ?_)
    · try simp only [decide_eq_true_eq, decide_eq_false_iff_not, beq_iff_eq, bne_iff_ne, beq_eq_false_iff_ne, bne_eq_false_iff_eq, Bool.not_eq_true, Bool.not_eq_false, Bool.not_eq_eq_eq_not, Bool.not_true, Bool.not_false, List.length_map, Int.not_lt, Int.not_le, ne_eq, Decidable.not_not] at hc2
      refine vc_seq fun K5 hK5 => ?_
      refine vc_region ?_
      refine vo_assign_pv rfl rfl ?_
      refine vo_own_nil 4 E32 rfl ?_
      refine vo_nil ?_
      refine hK5 _ ?_
      refine vc_ret ?_
      change retQ _ _ _ _ _
      refine retQ_sel [1] (srows := [_]) (.inr rfl) hC rfl rfl rfl rfl rfl rfl rfl ?_
      have e : plp list who = [] := by unfold plp; rw [if_neg (fun h0 => absurd h0.2 (by assumption))]
      rw [e]; exact ⟨_, rfl, rfl⟩
    · try simp only [decide_eq_true_eq, decide_eq_false_iff_not, beq_iff_eq, bne_iff_ne, beq_eq_false_iff_ne, bne_eq_false_iff_eq, Bool.not_eq_true, Bool.not_eq_false, Bool.not_eq_eq_eq_not, Bool.not_true, Bool.not_false, List.length_map, Int.not_lt, Int.not_le, ne_eq, Decidable.not_not] at hc2
      refine vc_skip ?_
      refine hK2 _ ?_
      refine vc_seq fun K6 hK6 => ?_
      refine vc_region ?_
      refine vo_buildG S70n rfl rfl rfl ?_
      refine vo_stM ?_
      refine vo_inline [0, 1] [(4, none)] Try.func67 rfl rfl rfl rfl (Nat.le_of_ble_eq_true rfl) (resTs1 trivial) rfl rfl fun us1 => ?_
      rw [Try.ntmps67]
      refine vc_stM ?_
      refine vc_seq fun K7 hK7 => ?_
      refine vc_region ?_
      refine vo_boxG rfl rfl rfl ?_
      refine vo_stM ?_
      refine vo_assign rfl ?_
      refine vo_stM ?_
      refine vo_nil ?_
      refine hK7 _ ?_
      refine vc_seq fun K8 hK8 => ?_
      refine vc_region ?_
      refine vo_load_varG rfl rfl rfl Try.underlying70 rfl inf70 sz70 rfl ?_
      refine vo_stM ?_
      refine vo_move_pv rfl rfl ?_
      refine vo_makeMap rfl ?_
      refine vo_stM ?_
      refine vo_buildG S95 rfl rfl rfl ?_
      refine vo_stM ?_
      refine vo_boxG rfl rfl rfl ?_
      refine vo_stM ?_
      refine vo_assign_ptr rfl rfl ?_
      refine vo_nil ?_
      refine hK8 _ ?_
      refine vc_seq fun K9 hK9 => ?_
      refine vc_seq fun K10 hK10 => ?_
      refine vc_region ?_
      refine vo_fieldAddr_ptr rfl rfl Try.underlying70 rfl inf4 (by rw [sz4]; decide) ?_
      try simp only [Nat.zero_add]
      refine vo_load_var rfl rfl rfl Try.underlying4 rfl rfl ?_
      refine vo_not rfl rfl ?_
      refine vo_nil ?_
      refine hK10 _ ?_
      refine vc_cond_t rfl ?_
      refine vc_seq fun K11 hK11 => ?_
      refine vc_region ?_
      refine vo_move_ptr rfl rfl ?_
      refine vo_fieldAddr_ptr rfl rfl Try.underlying70 rfl inf32 (by rw [sz32]; decide) ?_
      try simp only [Nat.zero_add]
      refine vo_load_var rfl rfl rfl Try.underlying32 rfl rfl ?_
      refine vo_inline [5] [] Try.func94 rfl rfl rfl rfl (Nat.le_of_ble_eq_true rfl) (fun r h => by cases h) rfl rfl fun us2 => ?_
      rw [Try.ntmps94]
      refine vc_stM ?_
      refine vc_seq fun K12 hK12 => ?_
      refine vc_region ?_
      refine vo_move_ptr rfl rfl ?_
      refine vo_buildG S70n rfl rfl rfl ?_
      refine vo_stM ?_
      refine vo_nilCheck_ptr rfl rfl ?_
      refine vo_fieldAddr_ptr rfl rfl Try.underlying95 rfl inf70 (by rw [sz70]; decide) ?_
      try simp only [Nat.zero_add]
      refine vo_store_varG rfl rfl rfl rfl inf70 sz70 rfl ?_
      refine vo_stM ?_
      refine vo_nil ?_
      refine hK12 _ ?_
      refine vc_seq fun K13 hK13 => ?_
      refine vc_region ?_
      refine vo_move_ptr rfl rfl ?_
      refine vo_nilCheck_ptr rfl rfl ?_
      refine vo_fieldAddr_ptr rfl rfl Try.underlying95 rfl inf93 (by rw [sz93]; decide) ?_
      try simp only [Nat.zero_add]
      refine vo_load_var rfl rfl rfl Try.underlying93 rfl rfl ?_
      refine vo_clearMap rfl rfl Try.underlying93 ?_
      refine vo_stM ?_
      refine vo_nil ?_
      refine hK13 _ ?_
      refine vc_seq fun K14 hK14 => ?_
      refine vc_region ?_
      refine vo_move_pv rfl rfl ?_
      refine vo_len_pv rfl rfl Try.underlying32 ?_
      refine vo_move_pv rfl rfl ?_
      refine vo_nil ?_
      refine hK14 _ ?_
      refine vc_block ?_
      refine vc_stM ?_
      refine vc_loopE [0, 14, 15] [16] [] _ _ (fun mz vs rs => ∃ (k3 : Nat), mz = 0 - k3 ∧ vs = [i64 k3] ∧ rs = []) (0) rfl rfl (le_len hC rfl) ⟨rfl, rfl, rfl⟩ rfl ⟨0, rfl, rfl, rfl⟩ ?_
      rintro mz vs rs - - ⟨k3, rfl, rfl, rfl⟩
      refine vc_stM ?_
      refine vc_seq fun K15 hK15 => ?_
      refine vc_region ?_
      refine vo_binI rfl rfl rfl rfl trivial ?_
      refine vo_nil ?_
      refine hK15 _ ?_
      refine vc_seq fun K16 hK16 => ?_
      refine vc_cond rfl (fun hci21 => ?_) (fun hci21 => ?_)
      · try simp only [decide_eq_true_eq, decide_eq_false_iff_not, beq_iff_eq, bne_iff_ne, beq_eq_false_iff_ne, bne_eq_false_iff_eq, Bool.not_eq_true, Bool.not_eq_false, Bool.not_eq_eq_eq_not, Bool.not_true, Bool.not_false, List.length_map, Int.not_lt, Int.not_le, ne_eq, Decidable.not_not] at hci21
        exfalso; simp at hci21; omega
      · try simp only [decide_eq_true_eq, decide_eq_false_iff_not, beq_iff_eq, bne_iff_ne, beq_eq_false_iff_ne, bne_eq_false_iff_eq, Bool.not_eq_true, Bool.not_eq_false, Bool.not_eq_eq_eq_not, Bool.not_true, Bool.not_false, List.length_map, Int.not_lt, Int.not_le, ne_eq, Decidable.not_not] at hci21
        refine vc_exit ?_
        refine inQ_nrm rfl rfl ?_
        refine vo_stM ?_
        refine vo_nil ?_
        refine hK11 _ ?_
        refine vc_seq fun K17 hK17 => ?_
        refine vc_region ?_
        refine vo_move_ptr rfl rfl ?_
        refine vo_assign_ptr rfl rfl ?_
        refine vo_nil ?_
        refine hK17 _ ?_
        refine vc_ret ?_
        refine inQ_ret rfl rfl ?_
        refine vo_stM ?_
        refine vo_assign_ptr rfl rfl ?_
        refine vo_nil ?_
        refine hK6 _ ?_
        refine vc_seq fun K18 hK18 => ?_
        refine vc_seq fun K19 hK19 => ?_
        refine vc_region ?_
        refine vo_move_pv rfl rfl ?_
        refine vo_len_pv rfl rfl Try.underlying23 ?_
        refine vo_move_pv rfl rfl ?_
        refine vo_nil ?_
        refine hK19 _ ?_
        refine vc_block ?_
        refine vc_own_cell 4 3 E32 rfl rfl ?_
        refine vc_stM ?_
        refine vc_stM ?_
        refine vc_loopE [1, 5, 18, 19] [20] [3, 6] _ _ (fun mz vs rs => ∃ (k : Nat), mz = list.length - k ∧ (k ≤ list.length) ∧ vs = [i64 k] ∧ rs = [.mp (mapI (plM (plpK list who k))), Row.own 37 2 none true ((plpK list who k).map pairP)]) (list.length) rfl rfl (le_len hC rfl) ⟨rfl, rfl, rfl⟩ rfl ⟨0, rfl, Nat.zero_le _, rfl, (by rw [← plM_nil]; rfl)⟩ ?_
        rintro mz vs rs - - ⟨k, rfl, hk, rfl, rfl⟩
        refine vc_stM ?_
        have hpl := plpK_len (list := list) (who := who) k hk
        have hnd := plpK_nodup list who k hk
        have hvo := hg1.1
        refine vc_seq fun K20 hK20 => ?_
        refine vc_region ?_
        refine vo_binI rfl rfl rfl rfl trivial ?_
        refine vo_nil ?_
        refine hK20 _ ?_
        refine vc_seq fun K21 hK21 => ?_
        refine vc_cond rfl (fun hc3 => ?_) (fun hc3 => ?_)
        · try simp only [decide_eq_true_eq, decide_eq_false_iff_not, beq_iff_eq, bne_iff_ne, beq_eq_false_iff_ne, bne_eq_false_iff_eq, Bool.not_eq_true, Bool.not_eq_false, Bool.not_eq_eq_eq_not, Bool.not_true, Bool.not_false, List.length_map, Int.not_lt, Int.not_le, ne_eq, Decidable.not_not] at hc3
          refine vc_skip ?_
          refine hK21 _ ?_
          refine vc_seq fun K22 hK22 => ?_
          refine vc_block ?_
          refine vc_seq fun K23 hK23 => ?_
          refine vc_region ?_
          refine vo_index_pv (.agg [(.int .i64 0), (.int .i64 0), (.int .i64 0), (.bool false)]) rfl rfl rfl E23.und inf46 sz46 sd sd ?_
          simp only [Int.toNat_natCast, Int.toNat_zero, getD_ints, getD_intss, getD_bools, getD_bytes, PV.cells, getD_ops, getD_pairs, getD_insts]
          refine vo_load_adrS rfl rfl Try.underlying46 rfl inf46 sz46 rfl ?_
          refine vo_st (by (try simp only [St.put, PV.cells, PV.scal, List.drop_succ_cons, List.drop_zero, List.take_succ_cons, List.take_zero, List.map_cons, List.map_nil, Bool.or_true, Bool.or_false, Bool.false_or, Bool.true_or, opP, pairP, instP, heapP]); exact eq_refl _) ?_
          refine vo_alloc Z46 rfl ?_
          refine vo_stM ?_
          refine vo_store_varS rfl rfl rfl inf46 sz46 rfl ?_
          refine vo_stM ?_
          refine vo_nil ?_
          refine hK23 _ ?_
          refine vc_seq fun K24 hK24 => ?_
          refine vc_region ?_
          refine vo_fieldAddr_ptr rfl rfl Try.underlying46 rfl inf3 (by rw [sz3]; decide) ?_
          try simp only [Nat.zero_add]
          refine vo_load_var rfl rfl rfl Try.underlying3 rfl rfl ?_
          refine vo_move_pv rfl rfl ?_
          refine vo_binI rfl rfl rfl rfl trivial ?_
          refine vo_nil ?_
          refine hK24 _ ?_
          refine vc_cond rfl (fun hc4 => ?_) (fun hc4 => ?_)
          · try simp only [decide_eq_true_eq, decide_eq_false_iff_not, beq_iff_eq, bne_iff_ne, beq_eq_false_iff_ne, bne_eq_false_iff_eq, Bool.not_eq_true, Bool.not_eq_false, Bool.not_eq_eq_eq_not, Bool.not_true, Bool.not_false, List.length_map, Int.not_lt, Int.not_le, ne_eq, Decidable.not_not] at hc4
            have hwho := hc4
            refine vc_region ?_
            refine vo_move_ptr rfl rfl ?_
            refine vo_load_varS rfl rfl rfl Try.underlying46 rfl inf46 sz46 rfl rfl ?_
            refine vo_inline [1, 5, 18, 19, 20] [] Try.func68 rfl rfl rfl rfl (Nat.le_of_ble_eq_true rfl) (fun r h => by cases h) rfl rfl fun us3 => ?_
            rw [Try.ntmps68]
            refine vc_stM ?_
            refine vc_seq fun K25 hK25 => ?_
            refine vc_region ?_
            refine vo_box rfl rfl ?_
            refine vo_stM ?_
            refine vo_nil ?_
            refine hK25 _ ?_
            refine vc_block ?_
            refine vc_seq fun K26 hK26 => ?_
            refine vc_region ?_
            refine vo_fieldAddr_ptr rfl rfl Try.underlying46 rfl inf4 (by rw [sz4]; decide) ?_
            try simp only [Nat.zero_add]
            refine vo_load_var rfl rfl rfl Try.underlying4 rfl rfl ?_
            refine vo_move_pv rfl rfl ?_
            refine vo_split 13 rfl (fun hgi31 => ?_) (fun hgi31 => ?_)
            · try simp only [decide_eq_true_eq, decide_eq_false_iff_not, beq_iff_eq, bne_iff_ne, beq_eq_false_iff_ne, bne_eq_false_iff_eq, Bool.not_eq_true, Bool.not_eq_false, Bool.not_eq_eq_eq_not, Bool.not_true, Bool.not_false, List.length_map, Int.not_lt, Int.not_le, ne_eq, Decidable.not_not] at hgi31
              have hgone := hgi31
              refine vo_guard_on rfl rfl rfl ?_
              refine vo_move_ptr rfl rfl ?_
              refine vo_guard_on rfl rfl rfl ?_
              refine vo_nilCheck_ptr rfl rfl ?_
              refine vo_guard_on rfl rfl rfl ?_
              refine vo_fieldAddr_ptr rfl rfl Try.underlying95 rfl inf70 (by rw [sz70]; decide) ?_
              try simp only [Nat.zero_add]
              refine vo_guard_on rfl rfl rfl ?_
              refine vo_fieldAddr_ptr rfl rfl Try.underlying70 rfl inf4 (by rw [sz4]; decide) ?_
              try simp only [Nat.zero_add]
              refine vo_guard_on rfl rfl rfl ?_
              refine vo_load_var rfl rfl rfl Try.underlying4 rfl rfl ?_
              refine vo_pick_t rfl rfl ?_
              refine vo_assign_pv rfl rfl ?_
              refine vo_nil ?_
              refine hK26 _ ?_
              refine vc_cond_f rfl ?_
              refine vc_seq fun K27 hK27 => ?_
              refine vc_region ?_
              refine vo_fieldAddr_ptr rfl rfl Try.underlying46 rfl inf4 (by rw [sz4]; decide) ?_
              try simp only [Nat.zero_add]
              refine vo_load_var rfl rfl rfl Try.underlying4 rfl rfl ?_
              refine vo_assign_pv rfl rfl ?_
              refine vo_nil ?_
              refine hK27 _ ?_
              refine vc_cond rfl (fun hci32 => ?_) (fun hci32 => ?_)
              · try simp only [decide_eq_true_eq, decide_eq_false_iff_not, beq_iff_eq, bne_iff_ne, beq_eq_false_iff_ne, bne_eq_false_iff_eq, Bool.not_eq_true, Bool.not_eq_false, Bool.not_eq_eq_eq_not, Bool.not_true, Bool.not_false, List.length_map, Int.not_lt, Int.not_le, ne_eq, Decidable.not_not] at hci32
                refine vc_region ?_
                refine vo_move_ptr rfl rfl ?_
                refine vo_fieldAddr_ptr rfl rfl Try.underlying46 rfl inf3 (by rw [sz3]; decide) ?_
                try simp only [Nat.zero_add]
                refine vo_load_var rfl rfl rfl Try.underlying3 rfl rfl ?_
                refine vo_inline [] [] Try.func96 rfl rfl rfl rfl (Nat.le_of_ble_eq_true rfl) (fun r h => by cases h) rfl rfl fun us4 => ?_
                rw [Try.ntmps96]
                refine vc_stM ?_
                refine vc_seq fun K28 hK28 => ?_
                refine vc_region ?_
                refine vo_move_ptr rfl rfl ?_
                refine vo_nilCheck_ptr rfl rfl ?_
                refine vo_fieldAddr_ptr rfl rfl Try.underlying95 rfl inf93 (by rw [sz93]; decide) ?_
                try simp only [Nat.zero_add]
                refine vo_load_var rfl rfl rfl Try.underlying93 rfl rfl ?_
                refine vo_move_pv rfl rfl ?_
                refine vo_lookup rfl rfl rfl rfl Try.underlying93 Try.underlying3 inf3 (by kernel_rfl) ?_
                refine vo_move rfl ?_
                refine vo_stM ?_
                refine vo_extract rfl rfl rfl ?_
                refine vo_extract rfl rfl rfl ?_
                refine vo_assign_pv rfl rfl ?_
                refine vo_assign_pv rfl rfl ?_
                refine vo_nil ?_
                refine hK28 _ ?_
                refine vc_seq fun K29 hK29 => ?_
                refine vc_seq fun K30 hK30 => ?_
                refine vc_region ?_
                refine vo_move_pv rfl rfl ?_
                refine vo_not rfl rfl ?_
                refine vo_nil ?_
                refine hK30 _ ?_
                refine vc_cond rfl (fun hci41 => ?_) (fun hci41 => ?_)
                · try simp only [decide_eq_true_eq, decide_eq_false_iff_not, beq_iff_eq, bne_iff_ne, beq_eq_false_iff_ne, bne_eq_false_iff_eq, Bool.not_eq_true, Bool.not_eq_false, Bool.not_eq_eq_eq_not, Bool.not_true, Bool.not_false, List.length_map, Int.not_lt, Int.not_le, ne_eq, Decidable.not_not] at hci41
                  have hneg : findM (list.getD k ⟨0, 0, 0, false⟩).name (nms (plpK list who k)) 0 < 0 := by
                    have h9 : ¬ 0 ≤ findM (list.getD k ⟨0, 0, 0, false⟩).name (nms (plpK list who k)) 0 := fun h9 => by have := (plM_has (plpK list who k) (list.getD k ⟨0, 0, 0, false⟩).name).2 h9; simp_all
                    omega
                  have hE : plpK list who (k+1) = (plpK list who k) := by rw [plpK_yes (by omega) hwho]; unfold chg; rw [if_pos hgone, if_neg (by omega)]
                  refine vc_ret ?_
                  refine inQ_ret rfl rfl ?_
                  refine vo_stM ?_
                  refine vo_nil ?_
                  refine inQ_nrm rfl rfl ?_
                  refine vo_stM ?_
                  refine vo_nil ?_
                  refine hK22 _ ?_
                  refine vc_region ?_
                  refine vo_binI rfl rfl rfl rfl sd ?_
                  refine vo_move_pv rfl rfl ?_
                  refine vo_nil ?_
                  change againE _ _ _ _ _ _ _ _ _ _
                  refine againE_mk rfl rfl rfl rfl rfl rfl ⟨_, ?_, k + 1, rfl, ?_, rfl, (by rw [hE]; rfl)⟩
                  · omega
                  · omega
                · try simp only [decide_eq_true_eq, decide_eq_false_iff_not, beq_iff_eq, bne_iff_ne, beq_eq_false_iff_ne, bne_eq_false_iff_eq, Bool.not_eq_true, Bool.not_eq_false, Bool.not_eq_eq_eq_not, Bool.not_true, Bool.not_false, List.length_map, Int.not_lt, Int.not_le, ne_eq, Decidable.not_not] at hci41
                  have hpos := (plM_has (plpK list who k) (list.getD k ⟨0, 0, 0, false⟩).name).1 (by first | exact hci41 | simpa using hci41)
                  have hlt := findM_lt hpos
                  have hval := plM_val hpos
                  have hb : 0 ≤ ((plM (plpK list who k) (list.getD k ⟨0, 0, 0, false⟩).name).getD 0) ∧ ((plM (plpK list who k) (list.getD k ⟨0, 0, 0, false⟩).name).getD 0) < (plpK list who k).length := by rw [hval]; exact ⟨hpos, hlt⟩
                  have hE : plpK list who (k+1) = delP (plpK list who k) (list.getD k ⟨0, 0, 0, false⟩).name := by rw [plpK_yes (by omega) hwho]; unfold chg delP; rw [if_pos hgone, if_pos hpos, hval]
                  have hdl : (List.map pairP (List.take ((plM (plpK list who k) (list.getD k ⟨0, 0, 0, false⟩).name).getD 0).toNat (plpK list who k) ++ List.drop (((plM (plpK list who k) (list.getD k ⟨0, 0, 0, false⟩).name).getD 0) + 1).toNat (plpK list who k))).length = (delP (plpK list who k) (list.getD k ⟨0, 0, 0, false⟩).name).length := by rw [List.length_map]; rfl
                  have hdl3 : (List.take ((plM (plpK list who k) (list.getD k ⟨0, 0, 0, false⟩).name).getD 0).toNat (plpK list who k) ++ List.drop (((plM (plpK list who k) (list.getD k ⟨0, 0, 0, false⟩).name).getD 0) + 1).toNat (plpK list who k)).length = (delP (plpK list who k) (list.getD k ⟨0, 0, 0, false⟩).name).length := rfl
                  have hdl2 : (delP (plpK list who k) (list.getD k ⟨0, 0, 0, false⟩).name).length = (plpK list who k).length - 1 := by unfold delP; rw [List.length_append, List.length_take, List.length_drop]; omega
                  refine vc_skip ?_
                  refine hK29 _ ?_
                  refine vc_seq fun K31 hK31 => ?_
                  refine vc_region ?_
                  refine vo_move_ptr rfl rfl ?_
                  refine vo_move_ptr rfl rfl ?_
                  refine vo_nilCheck_ptr rfl rfl ?_
                  refine vo_fieldAddr_ptr rfl rfl Try.underlying95 rfl inf70 (by rw [sz70]; decide) ?_
                  try simp only [Nat.zero_add]
                  refine vo_fieldAddr_ptr rfl rfl Try.underlying70 rfl inf32 (by rw [sz32]; decide) ?_
                  try simp only [Nat.zero_add]
                  refine vo_load_var rfl rfl rfl Try.underlying32 rfl rfl ?_
                  refine vo_move_pv rfl rfl ?_
                  refine vo_move_pv rfl rfl ?_
                  refine vo_binI rfl rfl rfl rfl sd ?_
                  refine vo_inline [0, 1, 4, 19] [(6, none)] Try.func119 rfl rfl rfl rfl (Nat.le_of_ble_eq_true rfl) (resTs1 trivial) rfl rfl fun us5 => ?_
                  rw [Try.ntmps119]
                  refine vc_stM ?_
                  refine vc_seq fun K32 hK32 => ?_
                  refine vc_region ?_
                  refine vo_assign_pv rfl rfl ?_
                  refine vo_nil ?_
                  refine hK32 _ ?_
                  refine vc_seq fun K33 hK33 => ?_
                  refine vc_region ?_
                  refine vo_move_ref rfl rfl ?_
                  refine vo_move_pv rfl rfl ?_
                  refine vo_move_pv rfl rfl ?_
                  refine vo_move_ref rfl rfl ?_
                  refine vo_len_ref rfl rfl rfl Try.underlying32 ?_
                  refine vo_slice3_ref rfl rfl rfl rfl rfl rfl E32.und inf37 sz37 sd sd sd sd ?_
                  refine vo_nil ?_
                  refine hK33 _ ?_
                  refine vc_seq fun K34 hK34 => ?_
                  refine vc_seq fun K35 hK35 => ?_
                  refine vc_region ?_
                  refine vo_move_pv rfl rfl ?_
                  refine vo_move_pv rfl rfl ?_
                  refine vo_binI rfl rfl rfl rfl trivial ?_
                  refine vo_nil ?_
                  refine hK35 _ ?_
                  refine vc_cond rfl (fun hci51 => ?_) (fun hci51 => ?_)
                  · try simp only [decide_eq_true_eq, decide_eq_false_iff_not, beq_iff_eq, bne_iff_ne, beq_eq_false_iff_ne, bne_eq_false_iff_eq, Bool.not_eq_true, Bool.not_eq_false, Bool.not_eq_eq_eq_not, Bool.not_true, Bool.not_false, List.length_map, Int.not_lt, Int.not_le, ne_eq, Decidable.not_not] at hci51
                    exfalso; omega
                  · try simp only [decide_eq_true_eq, decide_eq_false_iff_not, beq_iff_eq, bne_iff_ne, beq_eq_false_iff_ne, bne_eq_false_iff_eq, Bool.not_eq_true, Bool.not_eq_false, Bool.not_eq_eq_eq_not, Bool.not_true, Bool.not_false, List.length_map, Int.not_lt, Int.not_le, ne_eq, Decidable.not_not] at hci51
                    refine vc_skip ?_
                    refine hK34 _ ?_
                    refine vc_seq fun K36 hK36 => ?_
                    refine vc_region ?_
                    refine vo_move_ref rfl rfl ?_
                    refine vo_len_ref rfl rfl rfl Try.underlying32 ?_
                    refine vo_assign_pv rfl rfl ?_
                    refine vo_nil ?_
                    refine hK36 _ ?_
                    refine vc_seq fun K37 hK37 => ?_
                    refine vc_drawL [6, 7] (by kernel_rfl) ?_
                    change VL [6, 7] _ _ _ 8 _ _ _
                    refine vl_light 0 [1, 3, 4, 5] rfl rfl rfl (by kernel_rfl) (by kernel_rfl) (by kernel_rfl) (by kernel_rfl) (by kernel_rfl) (wnt_none rfl) (lt_move_ref rfl) ?_
                    refine vl_light 1 [0, 3, 4, 5] rfl rfl rfl (by kernel_rfl) (by kernel_rfl) (by kernel_rfl) (by kernel_rfl) (by kernel_rfl) (wnt_none rfl) (lt_move_pv rfl) ?_
                    refine vl_light 2 [0, 1, 3, 4, 5] rfl rfl rfl (by kernel_rfl) (by kernel_rfl) (by kernel_rfl) (by kernel_rfl) (by kernel_rfl) (wnt_none rfl) (lt_slice_ref rfl rfl rfl rfl E32.und inf37 sz37 sd sd sd) ?_
                    try simp only [Int.toNat_natCast, Int.toNat_zero]
                    refine vl_light 3 [0, 1, 2, 4] rfl rfl rfl (by kernel_rfl) (by kernel_rfl) (by kernel_rfl) (by kernel_rfl) (by kernel_rfl) (wnt_none rfl) (lt_move_ref rfl) ?_
                    refine vl_light 4 [0, 1, 2, 3] rfl rfl rfl (by kernel_rfl) (by kernel_rfl) (by kernel_rfl) (by kernel_rfl) (by kernel_rfl) (wnt_none rfl) (lt_move_pv rfl) ?_
                    refine vl_light 5 [0, 1, 2, 3, 4] rfl rfl rfl (by kernel_rfl) (by kernel_rfl) (by kernel_rfl) (by kernel_rfl) (by kernel_rfl) (wnt_none rfl) (lt_slice_ref rfl rfl rfl rfl E32.und inf37 sz37 sd sd sd) ?_
                    try simp only [Int.toNat_natCast, Int.toNat_zero]
                    refine vl_one 6 rfl (by kernel_rfl) rfl ?_
                    refine vo_append_del rfl (by omega) rfl rfl rfl sd sd sd sd E32.und inf37 sz37 ?_
                    refine vo_stM ?_
                    try simp only [app_ints, app_intss, app_bools, List.nil_append, app_pairs, ← List.map_take, ← List.map_drop, ← List.map_append]
                    refine vo_done ⟨rfl, ?_⟩
                    refine vl_one 7 rfl (by kernel_rfl) rfl ?_
                    refine vo_assign_sub rfl rfl ?_
                    refine vo_done ⟨rfl, ?_⟩
                    refine vl_nil (by kernel_rfl) ?_
                    refine hK37 _ ?_
                    refine vc_seq fun K38 hK38 => ?_
                    refine vc_region ?_
                    refine vo_move_sub rfl rfl ?_
                    refine vo_move_sub rfl rfl ?_
                    refine vo_len_sub rfl rfl Try.underlying32 ?_
                    refine vo_move_pv rfl rfl ?_
                    refine vo_slice_sub rfl rfl rfl rfl E32.und inf37 sz37 sd sd sd ?_
                    try simp only [Int.toNat_natCast, Int.toNat_zero]
                    refine vo_clearTail E32 rfl rfl sd ?_
                    refine vo_nil ?_
                    refine hK38 _ ?_
                    refine vc_seq fun K39 hK39 => ?_
                    refine vc_region ?_
                    refine vo_move_sub rfl rfl ?_
                    refine vo_assign_sub rfl rfl ?_
                    refine vo_unsub 6 rfl rfl sd ?_
                    refine vo_stM ?_
                    refine vo_nil ?_
                    refine hK39 _ ?_
                    refine vc_ret ?_
                    refine inQ_ret rfl rfl ?_
                    refine vo_stM ?_
                    refine vo_nilCheck_ptr rfl rfl ?_
                    refine vo_fieldAddr_ptr rfl rfl Try.underlying95 rfl inf70 (by rw [sz70]; decide) ?_
                    try simp only [Nat.zero_add]
                    refine vo_fieldAddr_ptr rfl rfl Try.underlying70 rfl inf32 (by rw [sz32]; decide) ?_
                    try simp only [Nat.zero_add]
                    refine vo_store_varG rfl rfl rfl rfl inf32 sz32 rfl ?_
                    refine vo_stM ?_
                    refine vo_nil ?_
                    refine hK31 _ ?_
                    refine vc_seq fun K40 hK40 => ?_
                    refine vc_region ?_
                    refine vo_move_ptr rfl rfl ?_
                    refine vo_nilCheck_ptr rfl rfl ?_
                    refine vo_fieldAddr_ptr rfl rfl Try.underlying95 rfl inf93 (by rw [sz93]; decide) ?_
                    try simp only [Nat.zero_add]
                    refine vo_load_var rfl rfl rfl Try.underlying93 rfl rfl ?_
                    refine vo_move_pv rfl rfl ?_
                    refine vo_delete rfl rfl rfl Try.underlying93 Try.underlying3 ?_
                    refine vo_stM ?_
                    refine vo_nil ?_
                    refine hK40 _ ?_
                    refine vc_seq fun K41 hK41 => ?_
                    refine vc_region ?_
                    refine vo_move_ptr rfl rfl ?_
                    refine vo_nilCheck_ptr rfl rfl ?_
                    refine vo_fieldAddr_ptr rfl rfl Try.underlying95 rfl inf70 (by rw [sz70]; decide) ?_
                    try simp only [Nat.zero_add]
                    refine vo_fieldAddr_ptr rfl rfl Try.underlying70 rfl inf32 (by rw [sz32]; decide) ?_
                    try simp only [Nat.zero_add]
                    refine vo_load_var rfl rfl rfl Try.underlying32 rfl rfl ?_
                    refine vo_move_pv rfl rfl ?_
                    refine vo_slice_ref rfl rfl rfl rfl rfl E32.und inf37 sz37 sd sd sd ?_
                    try simp only [Int.toNat_natCast, Int.toNat_zero]
                    refine vo_len_sub rfl rfl Try.underlying32 ?_
                    refine vo_move_pv rfl rfl ?_
                    refine vo_nil ?_
                    refine hK41 _ ?_
                    refine vc_block ?_
                    refine vc_stM ?_
                    refine vc_loopE [0, 4, 43, 44] [45] [3] _ _ (fun mz vs rs => ∃ (k2 : Nat), mz = (delP (plpK list who k) (list.getD k ⟨0, 0, 0, false⟩).name).length - ((plM (plpK list who k) (list.getD k ⟨0, 0, 0, false⟩).name).getD 0).toNat - k2 ∧ (k2 ≤ (delP (plpK list who k) (list.getD k ⟨0, 0, 0, false⟩).name).length - ((plM (plpK list who k) (list.getD k ⟨0, 0, 0, false⟩).name).getD 0).toNat) ∧ vs = [i64 k2] ∧ rs = [.mp (mapI (mpS (delI (plM (plpK list who k)) (list.getD k ⟨0, 0, 0, false⟩).name) (delP (plpK list who k) (list.getD k ⟨0, 0, 0, false⟩).name) ((plM (plpK list who k) (list.getD k ⟨0, 0, 0, false⟩).name).getD 0) k2))]) ((delP (plpK list who k) (list.getD k ⟨0, 0, 0, false⟩).name).length - ((plM (plpK list who k) (list.getD k ⟨0, 0, 0, false⟩).name).getD 0).toNat) rfl rfl (le_len hC rfl) ⟨rfl, rfl, rfl⟩ rfl ⟨0, rfl, Nat.zero_le _, rfl, rfl⟩ ?_
                    rintro mz vs rs - - ⟨k2, rfl, hk2, rfl, rfl⟩
                    refine vc_stM ?_
                    refine vc_seq fun K42 hK42 => ?_
                    refine vc_region ?_
                    refine vo_binI rfl rfl rfl rfl trivial ?_
                    refine vo_nil ?_
                    refine hK42 _ ?_
                    refine vc_seq fun K43 hK43 => ?_
                    refine vc_cond rfl (fun hci42 => ?_) (fun hci42 => ?_)
                    · try simp only [decide_eq_true_eq, decide_eq_false_iff_not, beq_iff_eq, bne_iff_ne, beq_eq_false_iff_ne, bne_eq_false_iff_eq, Bool.not_eq_true, Bool.not_eq_false, Bool.not_eq_eq_eq_not, Bool.not_true, Bool.not_false, List.length_map, Int.not_lt, Int.not_le, ne_eq, Decidable.not_not] at hci42
                      refine vc_skip ?_
                      refine hK43 _ ?_
                      refine vc_seq fun K44 hK44 => ?_
                      refine vc_block ?_
                      refine vc_seq fun K45 hK45 => ?_
                      refine vc_region ?_
                      refine vo_move_pv rfl rfl ?_
                      refine vo_index_sub rfl rfl rfl E32.und inf37 sz37 sd sd ?_
                      try simp only [Int.toNat_natCast]
                      refine vo_load_ownS (d := (.agg [.int .i64 0, .int .i64 0])) rfl rfl rfl Try.underlying37 rfl inf37 sz37 sd (getD_pairs _ _) (Nat.le_of_ble_eq_true rfl) ?_
                      try simp only [Int.toNat_natCast]
                      refine vo_st (by (try simp only [St.put, PV.cells, PV.scal, List.drop_succ_cons, List.drop_zero, List.take_succ_cons, List.take_zero, List.map_cons, List.map_nil, Bool.or_true, Bool.or_false, Bool.false_or, Bool.true_or]); exact eq_refl _) ?_
                      refine vo_alloc Z37 rfl ?_
                      refine vo_stM ?_
                      refine vo_assign_pv rfl rfl ?_
                      refine vo_store_varS rfl rfl rfl inf37 sz37 rfl ?_
                      refine vo_stM ?_
                      refine vo_nil ?_
                      refine hK45 _ ?_
                      refine vc_drawL [9] (by kernel_rfl) ?_
                      change VL [9] _ _ _ 10 _ _ _
                      refine vl_light 0 [4, 5, 6, 7, 8] rfl rfl rfl (by kernel_rfl) (by kernel_rfl) (by kernel_rfl) (by kernel_rfl) (by kernel_rfl) (wnt_none rfl) (lt_move_ptr rfl) ?_
                      refine vl_light 1 [0, 4, 5, 6, 7, 8] rfl rfl rfl (by kernel_rfl) (by kernel_rfl) (by kernel_rfl) (by kernel_rfl) (by kernel_rfl) (wnt_none rfl) (lt_nilCheck_ptr rfl) ?_
                      refine vl_light 2 [0, 1, 4, 5, 6, 7, 8] rfl rfl rfl (by kernel_rfl) (by kernel_rfl) (by kernel_rfl) (by kernel_rfl) (by kernel_rfl) (wnt_none rfl) (lt_fieldAddr_ptr rfl Try.underlying95 rfl inf93 (by rw [sz93]; decide)) ?_
                      try simp only [Nat.zero_add]
                      refine vl_light 3 [0, 1, 2, 4, 5, 6, 7, 8] rfl rfl rfl (by kernel_rfl) (by kernel_rfl) (by kernel_rfl) (by kernel_rfl) (by kernel_rfl) (wnt_none rfl) (lt_load_var rfl rfl Try.underlying93 rfl rfl) ?_
                      refine vl_light 4 [0, 1, 2, 3, 6, 7, 8] rfl rfl rfl (by kernel_rfl) (by kernel_rfl) (by kernel_rfl) (by kernel_rfl) (by kernel_rfl) (wnt_none rfl) (lt_fieldAddr_ptr rfl Try.underlying37 rfl inf3 (by rw [sz3]; decide)) ?_
                      try simp only [Nat.zero_add]
                      refine vl_light 5 [0, 1, 2, 3, 4, 6, 7, 8] rfl rfl rfl (by kernel_rfl) (by kernel_rfl) (by kernel_rfl) (by kernel_rfl) (by kernel_rfl) (wnt_none rfl) (lt_load_var rfl rfl Try.underlying3 rfl rfl) ?_
                      refine vl_light 6 [0, 1, 2, 3, 4, 5, 7] rfl rfl rfl (by kernel_rfl) (by kernel_rfl) (by kernel_rfl) (by kernel_rfl) (by kernel_rfl) (wnt_none rfl) (lt_move_pv rfl) ?_
                      refine vl_light 7 [0, 1, 2, 3, 4, 5, 6] rfl rfl rfl (by kernel_rfl) (by kernel_rfl) (by kernel_rfl) (by kernel_rfl) (by kernel_rfl) (wnt_none rfl) (lt_move_pv rfl) ?_
                      refine vl_light 8 [0, 1, 2, 3, 4, 5, 6, 7] rfl rfl rfl (by kernel_rfl) (by kernel_rfl) (by kernel_rfl) (by kernel_rfl) (by kernel_rfl) (wnt_none rfl) (lt_binI rfl rfl rfl sd) ?_
                      refine vl_one 9 rfl (by kernel_rfl) rfl ?_
                      refine vo_mapUpdate rfl rfl rfl rfl Try.underlying93 Try.underlying3 ?_
                      refine vo_stM ?_
                      refine vo_done ⟨rfl, ?_⟩
                      refine vl_nil (by kernel_rfl) ?_
                      refine hK44 _ ?_
                      refine vc_region ?_
                      refine vo_binI rfl rfl rfl rfl sd ?_
                      refine vo_move_pv rfl rfl ?_
                      refine vo_nil ?_
                      change againE _ _ _ _ _ _ _ _ _ _
                      refine againE_mk rfl rfl rfl rfl rfl rfl ⟨_, ?_, k2 + 1, rfl, ?_, rfl, rfl⟩
                      · omega
                      · omega
                    · try simp only [decide_eq_true_eq, decide_eq_false_iff_not, beq_iff_eq, bne_iff_ne, beq_eq_false_iff_ne, bne_eq_false_iff_eq, Bool.not_eq_true, Bool.not_eq_false, Bool.not_eq_eq_eq_not, Bool.not_true, Bool.not_false, List.length_map, Int.not_lt, Int.not_le, ne_eq, Decidable.not_not] at hci42
                      refine vc_exit ?_
                      refine inQ_nrm rfl rfl ?_
                      refine vo_stM ?_
                      refine vo_nil ?_
                      refine inQ_nrm rfl rfl ?_
                      refine vo_stM ?_
                      refine vo_nil ?_
                      refine hK22 _ ?_
                      refine vc_region ?_
                      refine vo_binI rfl rfl rfl rfl sd ?_
                      refine vo_move_pv rfl rfl ?_
                      refine vo_nil ?_
                      change againE _ _ _ _ _ _ _ _ _ _
                      refine againE_mk rfl rfl rfl rfl rfl rfl ⟨_, ?_, k + 1, rfl, ?_, rfl, (by rw [hE, ← plM_del hnd hpos (K := k2) (by omega)]; rfl)⟩
                      · omega
                      · omega
              · try simp only [decide_eq_true_eq, decide_eq_false_iff_not, beq_iff_eq, bne_iff_ne, beq_eq_false_iff_ne, bne_eq_false_iff_eq, Bool.not_eq_true, Bool.not_eq_false, Bool.not_eq_eq_eq_not, Bool.not_true, Bool.not_false, List.length_map, Int.not_lt, Int.not_le, ne_eq, Decidable.not_not] at hci32
                rw [hgi31] at hci32; cases hci32
            · try simp only [decide_eq_true_eq, decide_eq_false_iff_not, beq_iff_eq, bne_iff_ne, beq_eq_false_iff_ne, bne_eq_false_iff_eq, Bool.not_eq_true, Bool.not_eq_false, Bool.not_eq_eq_eq_not, Bool.not_true, Bool.not_false, List.length_map, Int.not_lt, Int.not_le, ne_eq, Decidable.not_not] at hgi31
              have hgone := hgi31
              refine vo_guard_off rfl rfl rfl rfl rfl ?_
              refine vo_guard_off rfl rfl rfl rfl rfl ?_
              refine vo_guard_off rfl rfl rfl rfl rfl ?_
              refine vo_guard_off rfl rfl rfl rfl rfl ?_
              refine vo_guard_off rfl rfl rfl rfl rfl ?_
              refine vo_pick_f rfl rfl ?_
              refine vo_assign_pv rfl rfl ?_
              refine vo_nil ?_
              refine hK26 _ ?_
              refine vc_cond_f rfl ?_
              refine vc_seq fun K46 hK46 => ?_
              refine vc_region ?_
              refine vo_fieldAddr_ptr rfl rfl Try.underlying46 rfl inf4 (by rw [sz4]; decide) ?_
              try simp only [Nat.zero_add]
              refine vo_load_var rfl rfl rfl Try.underlying4 rfl rfl ?_
              refine vo_assign_pv rfl rfl ?_
              refine vo_nil ?_
              refine hK46 _ ?_
              refine vc_cond rfl (fun hci33 => ?_) (fun hci33 => ?_)
              · try simp only [decide_eq_true_eq, decide_eq_false_iff_not, beq_iff_eq, bne_iff_ne, beq_eq_false_iff_ne, bne_eq_false_iff_eq, Bool.not_eq_true, Bool.not_eq_false, Bool.not_eq_eq_eq_not, Bool.not_true, Bool.not_false, List.length_map, Int.not_lt, Int.not_le, ne_eq, Decidable.not_not] at hci33
                rw [hgi31] at hci33; cases hci33
              · try simp only [decide_eq_true_eq, decide_eq_false_iff_not, beq_iff_eq, bne_iff_ne, beq_eq_false_iff_ne, bne_eq_false_iff_eq, Bool.not_eq_true, Bool.not_eq_false, Bool.not_eq_eq_eq_not, Bool.not_true, Bool.not_false, List.length_map, Int.not_lt, Int.not_le, ne_eq, Decidable.not_not] at hci33
                refine vc_region ?_
                refine vo_move_ptr rfl rfl ?_
                refine vo_fieldAddr_ptr rfl rfl Try.underlying46 rfl inf3 (by rw [sz3]; decide) ?_
                try simp only [Nat.zero_add]
                refine vo_load_var rfl rfl rfl Try.underlying3 rfl rfl ?_
                refine vo_fieldAddr_ptr rfl rfl Try.underlying46 rfl inf3 (by rw [sz3]; decide) ?_
                try simp only [Nat.zero_add]
                refine vo_load_var rfl rfl rfl Try.underlying3 rfl rfl ?_
                refine vo_inline [] [] Try.func97 rfl rfl rfl rfl (Nat.le_of_ble_eq_true rfl) (fun r h => by cases h) rfl rfl fun us6 => ?_
                rw [Try.ntmps97]
                refine vc_stM ?_
                refine vc_seq fun K47 hK47 => ?_
                refine vc_seq fun K48 hK48 => ?_
                refine vc_region ?_
                refine vo_move_ptr rfl rfl ?_
                refine vo_nilCheck_ptr rfl rfl ?_
                refine vo_fieldAddr_ptr rfl rfl Try.underlying95 rfl inf70 (by rw [sz70]; decide) ?_
                try simp only [Nat.zero_add]
                refine vo_fieldAddr_ptr rfl rfl Try.underlying70 rfl inf4 (by rw [sz4]; decide) ?_
                try simp only [Nat.zero_add]
                refine vo_load_var rfl rfl rfl Try.underlying4 rfl rfl ?_
                refine vo_move_pv rfl rfl ?_
                refine vo_guard_off rfl rfl rfl rfl rfl ?_
                refine vo_guard_off rfl rfl rfl rfl rfl ?_
                refine vo_guard_off rfl rfl rfl rfl rfl ?_
                refine vo_guard_off rfl rfl rfl rfl rfl ?_
                refine vo_pick_f rfl rfl ?_
                refine vo_nil ?_
                refine hK48 _ ?_
                refine vc_cond_f rfl ?_
                refine vc_skip ?_
                refine hK47 _ ?_
                refine vc_seq fun K49 hK49 => ?_
                refine vc_region ?_
                refine vo_move_ptr rfl rfl ?_
                refine vo_nilCheck_ptr rfl rfl ?_
                refine vo_fieldAddr_ptr rfl rfl Try.underlying95 rfl inf70 (by rw [sz70]; decide) ?_
                try simp only [Nat.zero_add]
                refine vo_fieldAddr_ptr rfl rfl Try.underlying70 rfl inf4 (by rw [sz4]; decide) ?_
                try simp only [Nat.zero_add]
                refine vo_load_var rfl rfl rfl Try.underlying4 rfl rfl ?_
                refine vo_nil ?_
                refine hK49 _ ?_
                refine vc_cond_f rfl ?_
                refine vc_region ?_
                refine vo_move_ptr rfl rfl ?_
                refine vo_move_pv rfl rfl ?_
                refine vo_move_pv rfl rfl ?_
                refine vo_inline [] [] Try.func115 rfl rfl rfl rfl (Nat.le_of_ble_eq_true rfl) (fun r h => by cases h) rfl rfl fun us7 => ?_
                rw [Try.ntmps115]
                refine vc_stM ?_
                refine vc_seq fun K50 hK50 => ?_
                refine vc_seq fun K51 hK51 => ?_
                refine vc_region ?_
                refine vo_move_ptr rfl rfl ?_
                refine vo_nilCheck_ptr rfl rfl ?_
                refine vo_fieldAddr_ptr rfl rfl Try.underlying95 rfl inf93 (by rw [sz93]; decide) ?_
                try simp only [Nat.zero_add]
                refine vo_load_var rfl rfl rfl Try.underlying93 rfl rfl ?_
                refine vo_move_pv rfl rfl ?_
                refine vo_lookup rfl rfl rfl rfl Try.underlying93 Try.underlying3 inf3 (by kernel_rfl) ?_
                refine vo_move rfl ?_
                refine vo_stM ?_
                refine vo_extract rfl rfl rfl ?_
                refine vo_extract rfl rfl rfl ?_
                refine vo_assign_pv rfl rfl ?_
                refine vo_assign_pv rfl rfl ?_
                refine vo_nil ?_
                refine hK51 _ ?_
                refine vc_seq fun K52 hK52 => ?_
                refine vc_region ?_
                refine vo_move_pv rfl rfl ?_
                refine vo_nil ?_
                refine hK52 _ ?_
                refine vc_cond rfl (fun hci71 => ?_) (fun hci71 => ?_)
                · try simp only [decide_eq_true_eq, decide_eq_false_iff_not, beq_iff_eq, bne_iff_ne, beq_eq_false_iff_ne, bne_eq_false_iff_eq, Bool.not_eq_true, Bool.not_eq_false, Bool.not_eq_eq_eq_not, Bool.not_true, Bool.not_false, List.length_map, Int.not_lt, Int.not_le, ne_eq, Decidable.not_not] at hci71
                  have hpos := (plM_has (plpK list who k) (list.getD k ⟨0, 0, 0, false⟩).name).1 (by first | exact hci71 | simpa using hci71)
                  have hlt := findM_lt hpos
                  have hval := plM_val hpos
                  have hb : 0 ≤ ((plM (plpK list who k) (list.getD k ⟨0, 0, 0, false⟩).name).getD 0) ∧ ((plM (plpK list who k) (list.getD k ⟨0, 0, 0, false⟩).name).getD 0) < (plpK list who k).length := by rw [hval]; exact ⟨hpos, hlt⟩
                  have hE : plpK list who (k+1) = (plpK list who k).set ((plM (plpK list who k) (list.getD k ⟨0, 0, 0, false⟩).name).getD 0).toNat (((plpK list who k).getD ((plM (plpK list who k) (list.getD k ⟨0, 0, 0, false⟩).name).getD 0).toNat (0, 0)).1, (list.getD k ⟨0, 0, 0, false⟩).value) := by rw [plpK_yes (by omega) hwho]; unfold chg; rw [if_neg (by rw [hgone]; decide), if_pos hpos, hval]
                  refine vc_seq fun K53 hK53 => ?_
                  refine vc_region ?_
                  refine vo_move_ptr rfl rfl ?_
                  refine vo_nilCheck_ptr rfl rfl ?_
                  refine vo_fieldAddr_ptr rfl rfl Try.underlying95 rfl inf70 (by rw [sz70]; decide) ?_
                  try simp only [Nat.zero_add]
                  refine vo_fieldAddr_ptr rfl rfl Try.underlying70 rfl inf32 (by rw [sz32]; decide) ?_
                  try simp only [Nat.zero_add]
                  refine vo_load_var rfl rfl rfl Try.underlying32 rfl rfl ?_
                  refine vo_move_pv rfl rfl ?_
                  refine vo_move_pv rfl rfl ?_
                  refine vo_index_ref rfl rfl rfl rfl E32.und inf37 sz37 sd sd ?_
                  try simp only [Int.toNat_natCast]
                  refine vo_fieldAddr_ptr rfl rfl Try.underlying37 rfl inf3 (by rw [sz3]; decide) ?_
                  try simp only [Nat.zero_add]
                  refine vo_store_ownC rfl rfl rfl rfl inf3 sz3 (getE_pairs (by omega)) rfl ?_
                  try simp only [List.set_cons_zero, List.set_cons_succ, Int.toNat_natCast, Int.toNat_zero]
                  refine vo_stM ?_
                  refine vo_nil ?_
                  refine hK53 _ ?_
                  refine vc_ret ?_
                  refine inQ_ret rfl rfl ?_
                  refine vo_stM ?_
                  refine vo_nil ?_
                  refine inQ_nrm rfl rfl ?_
                  refine vo_stM ?_
                  refine vo_nil ?_
                  refine inQ_nrm rfl rfl ?_
                  refine vo_stM ?_
                  refine vo_nil ?_
                  refine hK22 _ ?_
                  refine vc_region ?_
                  refine vo_binI rfl rfl rfl rfl sd ?_
                  refine vo_move_pv rfl rfl ?_
                  refine vo_nil ?_
                  change againE _ _ _ _ _ _ _ _ _ _
                  refine againE_mk rfl rfl rfl rfl rfl rfl ⟨_, ?_, k + 1, rfl, ?_, rfl, (by rw [hE, plM_set (by omega), ← set_pair1]; rfl)⟩
                  · omega
                  · omega
                · try simp only [decide_eq_true_eq, decide_eq_false_iff_not, beq_iff_eq, bne_iff_ne, beq_eq_false_iff_ne, bne_eq_false_iff_eq, Bool.not_eq_true, Bool.not_eq_false, Bool.not_eq_eq_eq_not, Bool.not_true, Bool.not_false, List.length_map, Int.not_lt, Int.not_le, ne_eq, Decidable.not_not] at hci71
                  have hneg : findM (list.getD k ⟨0, 0, 0, false⟩).name (nms (plpK list who k)) 0 < 0 := by
                    have h9 : ¬ 0 ≤ findM (list.getD k ⟨0, 0, 0, false⟩).name (nms (plpK list who k)) 0 := fun h9 => by have := (plM_has (plpK list who k) (list.getD k ⟨0, 0, 0, false⟩).name).2 h9; simp_all
                    omega
                  have hE : plpK list who (k+1) = (plpK list who k) ++ [((list.getD k ⟨0, 0, 0, false⟩).name, (list.getD k ⟨0, 0, 0, false⟩).value)] := by rw [plpK_yes (by omega) hwho]; unfold chg; rw [if_neg (by rw [hgone]; decide), if_neg (by omega)]
                  refine vc_skip ?_
                  refine hK50 _ ?_
                  refine vc_seq fun K54 hK54 => ?_
                  refine vc_drawL [11] (by kernel_rfl) ?_
                  change VL [11] _ _ _ 12 _ _ _
                  refine vl_light 0 [4, 5, 6, 7, 8, 9, 10] rfl rfl rfl (by kernel_rfl) (by kernel_rfl) (by kernel_rfl) (by kernel_rfl) (by kernel_rfl) (wnt_none rfl) (lt_move_ptr rfl) ?_
                  refine vl_light 1 [0, 4, 5, 6, 7, 8, 9, 10] rfl rfl rfl (by kernel_rfl) (by kernel_rfl) (by kernel_rfl) (by kernel_rfl) (by kernel_rfl) (wnt_none rfl) (lt_nilCheck_ptr rfl) ?_
                  refine vl_light 2 [0, 1, 4, 5, 6, 7, 8, 9, 10] rfl rfl rfl (by kernel_rfl) (by kernel_rfl) (by kernel_rfl) (by kernel_rfl) (by kernel_rfl) (wnt_none rfl) (lt_fieldAddr_ptr rfl Try.underlying95 rfl inf93 (by rw [sz93]; decide)) ?_
                  try simp only [Nat.zero_add]
                  refine vl_light 3 [0, 1, 2, 4, 5, 6, 7, 8, 9, 10] rfl rfl rfl (by kernel_rfl) (by kernel_rfl) (by kernel_rfl) (by kernel_rfl) (by kernel_rfl) (wnt_none rfl) (lt_load_var rfl rfl Try.underlying93 rfl rfl) ?_
                  refine vl_light 4 [0, 1, 2, 3, 5, 6, 7, 8, 9, 10] rfl rfl rfl (by kernel_rfl) (by kernel_rfl) (by kernel_rfl) (by kernel_rfl) (by kernel_rfl) (wnt_none rfl) (lt_move_pv rfl) ?_
                  refine vl_light 5 [0, 1, 2, 3, 4] rfl rfl rfl (by kernel_rfl) (by kernel_rfl) (by kernel_rfl) (by kernel_rfl) (by kernel_rfl) (wnt_none rfl) (lt_move_ptr rfl) ?_
                  refine vl_light 6 [0, 1, 2, 3, 4, 5] rfl rfl rfl (by kernel_rfl) (by kernel_rfl) (by kernel_rfl) (by kernel_rfl) (by kernel_rfl) (wnt_none rfl) (lt_nilCheck_ptr rfl) ?_
                  refine vl_light 7 [0, 1, 2, 3, 4, 5, 6] rfl rfl rfl (by kernel_rfl) (by kernel_rfl) (by kernel_rfl) (by kernel_rfl) (by kernel_rfl) (wnt_none rfl) (lt_fieldAddr_ptr rfl Try.underlying95 rfl inf70 (by rw [sz70]; decide)) ?_
                  try simp only [Nat.zero_add]
                  refine vl_light 8 [0, 1, 2, 3, 4, 5, 6, 7] rfl rfl rfl (by kernel_rfl) (by kernel_rfl) (by kernel_rfl) (by kernel_rfl) (by kernel_rfl) (wnt_none rfl) (lt_fieldAddr_ptr rfl Try.underlying70 rfl inf32 (by rw [sz32]; decide)) ?_
                  try simp only [Nat.zero_add]
                  refine vl_light 9 [0, 1, 2, 3, 4, 5, 6, 7, 8] rfl rfl rfl (by kernel_rfl) (by kernel_rfl) (by kernel_rfl) (by kernel_rfl) (by kernel_rfl) (wnt_none rfl) (lt_load_var rfl rfl Try.underlying32 rfl rfl) ?_
                  refine vl_light 10 [0, 1, 2, 3, 4, 5, 6, 7, 8, 9] rfl rfl rfl (by kernel_rfl) (by kernel_rfl) (by kernel_rfl) (by kernel_rfl) (by kernel_rfl) (wnt_none rfl) (lt_len_ref rfl rfl Try.underlying32) ?_
                  refine vl_one 11 rfl (by kernel_rfl) rfl ?_
                  refine vo_mapUpdate rfl rfl rfl rfl Try.underlying93 Try.underlying3 ?_
                  refine vo_stM ?_
                  refine vo_done ⟨rfl, ?_⟩
                  refine vl_nil (by kernel_rfl) ?_
                  refine hK54 _ ?_
                  refine vc_region ?_
                  refine vo_move_ptr rfl rfl ?_
                  refine vo_move_ptr rfl rfl ?_
                  refine vo_nilCheck_ptr rfl rfl ?_
                  refine vo_fieldAddr_ptr rfl rfl Try.underlying95 rfl inf70 (by rw [sz70]; decide) ?_
                  try simp only [Nat.zero_add]
                  refine vo_fieldAddr_ptr rfl rfl Try.underlying70 rfl inf32 (by rw [sz32]; decide) ?_
                  try simp only [Nat.zero_add]
                  refine vo_load_var rfl rfl rfl Try.underlying32 rfl rfl ?_
                  refine vo_move_pv rfl rfl ?_
                  refine vo_move_pv rfl rfl ?_
                  refine vo_build S37 rfl rfl rfl ?_
                  refine vo_stM ?_
                  refine vo_buildSlice E32 rfl rfl rfl rfl rfl ?_
                  refine vo_stM ?_
                  refine vo_append E32 rfl (by omega) rfl rfl rfl sd sd ?_
                  refine vo_stM ?_
                  try simp only [app_ints, app_intss, app_bools, List.nil_append, app_pairs, ← List.map_take, ← List.map_drop, ← List.map_append]
                  refine vo_nilCheck_ptr rfl rfl ?_
                  refine vo_fieldAddr_ptr rfl rfl Try.underlying95 rfl inf70 (by rw [sz70]; decide) ?_
                  try simp only [Nat.zero_add]
                  refine vo_fieldAddr_ptr rfl rfl Try.underlying70 rfl inf32 (by rw [sz32]; decide) ?_
                  try simp only [Nat.zero_add]
                  refine vo_store_varG rfl rfl rfl rfl inf32 sz32 rfl ?_
                  refine vo_stM ?_
                  refine vo_nil ?_
                  refine inQ_nrm rfl rfl ?_
                  refine vo_stM ?_
                  refine vo_nil ?_
                  refine inQ_nrm rfl rfl ?_
                  refine vo_stM ?_
                  refine vo_nil ?_
                  refine inQ_nrm rfl rfl ?_
                  refine vo_stM ?_
                  refine vo_nil ?_
                  refine hK22 _ ?_
                  refine vc_region ?_
                  refine vo_binI rfl rfl rfl rfl sd ?_
                  refine vo_move_pv rfl rfl ?_
                  refine vo_nil ?_
                  change againE _ _ _ _ _ _ _ _ _ _
                  refine againE_mk rfl rfl rfl rfl rfl rfl ⟨_, ?_, k + 1, rfl, ?_, rfl, (by rw [hE, plM_app hneg]; rfl)⟩
                  · omega
                  · omega
          · try simp only [decide_eq_true_eq, decide_eq_false_iff_not, beq_iff_eq, bne_iff_ne, beq_eq_false_iff_ne, bne_eq_false_iff_eq, Bool.not_eq_true, Bool.not_eq_false, Bool.not_eq_eq_eq_not, Bool.not_true, Bool.not_false, List.length_map, Int.not_lt, Int.not_le, ne_eq, Decidable.not_not] at hc4
            refine vc_skip ?_
            refine hK22 _ ?_
            refine vc_region ?_
            refine vo_binI rfl rfl rfl rfl sd ?_
            refine vo_move_pv rfl rfl ?_
            refine vo_nil ?_
            change againE _ _ _ _ _ _ _ _ _ _
            refine againE_mk rfl rfl rfl rfl rfl rfl ⟨_, ?_, k + 1, rfl, ?_, rfl, (by rw [plpK_no (by omega) (by assumption)]; rfl)⟩
            · omega
            · omega
        · try simp only [decide_eq_true_eq, decide_eq_false_iff_not, beq_iff_eq, bne_iff_ne, beq_eq_false_iff_ne, bne_eq_false_iff_eq, Bool.not_eq_true, Bool.not_eq_false, Bool.not_eq_eq_eq_not, Bool.not_true, Bool.not_false, List.length_map, Int.not_lt, Int.not_le, ne_eq, Decidable.not_not] at hc3
          refine vc_exit ?_
          refine hK18 _ ?_
          refine vc_seq fun K55 hK55 => ?_
          refine vc_region ?_
          refine vo_move_ptr rfl rfl ?_
          refine vo_nilCheck_ptr rfl rfl ?_
          refine vo_fieldAddr_ptr rfl rfl Try.underlying95 rfl inf70 (by rw [sz70]; decide) ?_
          try simp only [Nat.zero_add]
          refine vo_fieldAddr_ptr rfl rfl Try.underlying70 rfl inf32 (by rw [sz32]; decide) ?_
          try simp only [Nat.zero_add]
          refine vo_load_var rfl rfl rfl Try.underlying32 rfl rfl ?_
          refine vo_assign_ref rfl rfl ?_
          refine vo_nil ?_
          refine hK55 _ ?_
          refine vc_ret ?_
          change retQ _ _ _ _ _
          refine retQ_sel [6] (srows := [_]) (.inr rfl) hC rfl rfl rfl rfl rfl rfl rfl ?_
          have e : plp list who = plpK list who k := by unfold plp; rw [if_pos ⟨hg1, hc2⟩, show k = list.length by omega]
          rw [e]; exact ⟨_, rfl, rfl⟩

end Go.Vl


namespace Go.Vl
set_option linter.unusedVariables false
set_option linter.unusedSimpArgs false
open Go.Proofs

/-- A reader that has given p numbers. -/
abbrev rdr (nl : Option Bool) (c : List (Fin 256)) (p : Nat) : Row := .var 113 [.pv false (.sl nl 1 (c.map byteP)), i64 p]
/-- Bases as the readers make them. -/
def SB (B : List (List Int)) : Prop := 1 ≤ B.length ∧ B.getD 0 [] = [] ∧ ∀ i, i < B.length → 0 < i → B.getD i [] ≠ [] ∧ (B.getD i []).length ≤ 3 ∧ (B.getD i []).Nodup ∧ ∀ x ∈ B.getD i [], 0 ≤ x ∧ x < i
theorem newReader_sat {nl : Option Bool} {c : List (Fin 256)} (hl : c.length < 1000000000) : SatAt Try.prog 53 [.pv false (.sl nl 1 (c.map byteP))] [] (fun res rows => ∃ nl2 c2, c2.length ≤ 2000 ∧ res = [.ptr 0 0 0 0] ∧ rows = [rdr nl2 c2 0]) := by
  refine sat_entry_g (ts := [2]) Try.func53 rfl rfl (by decide) (Nat.le_of_ble_eq_true rfl) fun C hC => ?_
  rw [Try.ntmps53]
  replace hC : C.nb = 0 := hC
  refine vc_seq fun K1 hK1 => ?_
  refine vc_region ?_
  refine vo_assign rfl ?_
  refine vo_nil ?_
  refine hK1 _ ?_
  refine vc_seq fun K2 hK2 => ?_
  refine vc_seq fun K3 hK3 => ?_
  refine vc_region ?_
  refine vo_move_pv rfl rfl ?_
  refine vo_len_pv rfl rfl Try.underlying22 ?_
  refine vo_binI rfl rfl rfl rfl trivial ?_
  refine vo_nil ?_
  refine hK3 _ ?_
  refine vc_cond rfl (fun hc1 => ?_) (fun hc1 => ?_)
  · try simp only [decide_eq_true_eq, decide_eq_false_iff_not, beq_iff_eq, bne_iff_ne, beq_eq_false_iff_ne, bne_eq_false_iff_eq, Bool.not_eq_true, Bool.not_eq_false, Bool.not_eq_eq_eq_not, Bool.not_true, Bool.not_false, List.length_map, Int.not_lt, Int.not_le, ne_eq, Decidable.not_not] at hc1
    refine vc_region ?_
    refine vo_move_pv rfl rfl ?_
    refine vo_slice_pv rfl rfl rfl rfl E22.und inf5 sz5 sd sd sd ?_
    simp only [Int.toNat_natCast, Int.toNat_zero, List.drop_zero, Nat.sub_zero, ← List.map_drop, ← List.map_take]
    refine vo_assign_pv rfl rfl ?_
    refine vo_nil ?_
    refine hK2 _ ?_
    refine vc_seq fun K4 hK4 => ?_
    refine vc_region ?_
    refine vo_move_pv rfl rfl ?_
    refine vo_build S113 rfl rfl rfl ?_
    refine vo_box rfl rfl ?_
    refine vo_assign_ptr rfl rfl ?_
    refine vo_nil ?_
    refine hK4 _ ?_
    refine vc_ret ?_
    change retG _ _ _ _ _
    refine retG_one 0 hC rfl rfl rfl rfl rfl ?_
    refine ⟨_, _, ?_, rfl, rfl⟩
    first | omega | (simp; omega)
  · try simp only [decide_eq_true_eq, decide_eq_false_iff_not, beq_iff_eq, bne_iff_ne, beq_eq_false_iff_ne, bne_eq_false_iff_eq, Bool.not_eq_true, Bool.not_eq_false, Bool.not_eq_eq_eq_not, Bool.not_true, Bool.not_false, List.length_map, Int.not_lt, Int.not_le, ne_eq, Decidable.not_not] at hc1
    refine vc_skip ?_
    refine hK2 _ ?_
    refine vc_seq fun K5 hK5 => ?_
    refine vc_region ?_
    refine vo_move_pv rfl rfl ?_
    refine vo_build S113 rfl rfl rfl ?_
    refine vo_box rfl rfl ?_
    refine vo_assign_ptr rfl rfl ?_
    refine vo_nil ?_
    refine hK5 _ ?_
    refine vc_ret ?_
    change retG _ _ _ _ _
    refine retG_one 0 hC rfl rfl rfl rfl rfl ?_
    refine ⟨_, _, ?_, rfl, rfl⟩
    first | omega | (simp; omega)


theorem pick_sat {nl : Option Bool} {c : List (Fin 256)} {p : Nat} {n : Int} (hc : c.length ≤ 2000) (hp : p < 1000000) : SatAt Try.prog 58 [.ptr 0 0 0 0, i64 n] [rdr nl c p] (fun res rows => ∃ x, (0 ≤ x ∧ (1 ≤ n → x < n)) ∧ res = [i64 x] ∧ rows = [rdr nl c (p + 1)]) := by
  have hL : ((c.map byteP).length : Int) = c.length := by simp
  refine sat_entry_g (ts := [4]) Try.func58 rfl rfl (by decide) (Nat.le_of_ble_eq_true rfl) fun C hC => ?_
  rw [Try.ntmps58]
  replace hC : C.nb = 1 := hC
  refine vc_seq fun K1 hK1 => ?_
  refine vc_region ?_
  refine vo_assign_pv rfl rfl ?_
  refine vo_nil ?_
  refine hK1 _ ?_
  refine vc_seq fun K2 hK2 => ?_
  refine vc_region ?_
  refine vo_move_ptr rfl rfl ?_
  refine vo_move_ptr rfl rfl ?_
  refine vo_nilCheck_ptr rfl rfl ?_
  refine vo_fieldAddr_ptr rfl rfl Try.underlying113 rfl inf3 (by rw [sz3]; decide) ?_
  refine vo_load_var rfl rfl rfl Try.underlying3 rfl rfl ?_
  refine vo_binI rfl rfl rfl rfl sd ?_
  refine vo_nilCheck_ptr rfl rfl ?_
  refine vo_fieldAddr_ptr rfl rfl Try.underlying113 rfl inf3 (by rw [sz3]; decide) ?_
  refine vo_store_var rfl rfl rfl rfl inf3 sz3 rfl ?_
  refine vo_nil ?_
  refine hK2 _ ?_
  refine vc_seq fun K3 hK3 => ?_
  refine vc_seq fun K4 hK4 => ?_
  refine vc_region ?_
  refine vo_move_pv rfl rfl ?_
  refine vo_binI rfl rfl rfl rfl trivial ?_
  refine vo_move_pv rfl rfl ?_
  refine vo_split 17 rfl (fun hg1 => ?_) (fun hg1 => ?_)
  · try simp only [decide_eq_true_eq, decide_eq_false_iff_not, beq_iff_eq, bne_iff_ne, beq_eq_false_iff_ne, bne_eq_false_iff_eq, Bool.not_eq_true, Bool.not_eq_false, Bool.not_eq_eq_eq_not, Bool.not_true, Bool.not_false, List.length_map, Int.not_lt, Int.not_le, ne_eq, Decidable.not_not] at hg1
    refine vo_guard_off rfl rfl rfl rfl rfl ?_
    refine vo_guard_off rfl rfl rfl rfl rfl ?_
    refine vo_guard_off rfl rfl rfl rfl rfl ?_
    refine vo_guard_off rfl rfl rfl rfl rfl ?_
    refine vo_guard_off rfl rfl rfl rfl rfl ?_
    refine vo_guard_off rfl rfl rfl rfl rfl ?_
    refine vo_pick_t rfl rfl ?_
    refine vo_nil ?_
    refine hK4 _ ?_
    refine vc_cond_t rfl ?_
    refine vc_seq fun K5 hK5 => ?_
    refine vc_region ?_
    refine vo_assign_pv rfl rfl ?_
    refine vo_nil ?_
    refine hK5 _ ?_
    refine vc_ret ?_
    change retG _ _ _ _ _
    refine retG_sel [] [] hC rfl rfl rfl rfl rfl rfl ?_
    exact ⟨_, ⟨by omega, by omega⟩, rfl, rfl⟩
  · try simp only [decide_eq_true_eq, decide_eq_false_iff_not, beq_iff_eq, bne_iff_ne, beq_eq_false_iff_ne, bne_eq_false_iff_eq, Bool.not_eq_true, Bool.not_eq_false, Bool.not_eq_eq_eq_not, Bool.not_true, Bool.not_false, List.length_map, Int.not_lt, Int.not_le, ne_eq, Decidable.not_not] at hg1
    refine vo_guard_on rfl rfl rfl ?_
    refine vo_move_ptr rfl rfl ?_
    refine vo_guard_on rfl rfl rfl ?_
    refine vo_nilCheck_ptr rfl rfl ?_
    refine vo_guard_on rfl rfl rfl ?_
    refine vo_fieldAddr_ptr rfl rfl Try.underlying113 rfl inf22 (by rw [sz22]; decide) ?_
    refine vo_guard_on rfl rfl rfl ?_
    refine vo_load_var rfl rfl rfl Try.underlying22 rfl rfl ?_
    refine vo_guard_on rfl rfl rfl ?_
    refine vo_len_pv rfl rfl Try.underlying22 ?_
    refine vo_guard_on rfl rfl rfl ?_
    refine vo_binI rfl rfl rfl rfl trivial ?_
    refine vo_pick_f rfl rfl ?_
    refine vo_nil ?_
    refine hK4 _ ?_
    refine vc_cond rfl (fun hc2 => ?_) (fun hc2 => ?_)
    · try simp only [decide_eq_true_eq, decide_eq_false_iff_not, beq_iff_eq, bne_iff_ne, beq_eq_false_iff_ne, bne_eq_false_iff_eq, Bool.not_eq_true, Bool.not_eq_false, Bool.not_eq_eq_eq_not, Bool.not_true, Bool.not_false, List.length_map, Int.not_lt, Int.not_le, ne_eq, Decidable.not_not] at hc2
      refine vc_seq fun K6 hK6 => ?_
      refine vc_region ?_
      refine vo_assign_pv rfl rfl ?_
      refine vo_nil ?_
      refine hK6 _ ?_
      refine vc_ret ?_
      change retG _ _ _ _ _
      refine retG_sel [] [] hC rfl rfl rfl rfl rfl rfl ?_
      exact ⟨_, ⟨by omega, by omega⟩, rfl, rfl⟩
    · try simp only [decide_eq_true_eq, decide_eq_false_iff_not, beq_iff_eq, bne_iff_ne, beq_eq_false_iff_ne, bne_eq_false_iff_eq, Bool.not_eq_true, Bool.not_eq_false, Bool.not_eq_eq_eq_not, Bool.not_true, Bool.not_false, List.length_map, Int.not_lt, Int.not_le, ne_eq, Decidable.not_not] at hc2
      refine vc_skip ?_
      refine hK3 _ ?_
      refine vc_seq fun K7 hK7 => ?_
      refine vc_region ?_
      refine vo_move_ptr rfl rfl ?_
      refine vo_nilCheck_ptr rfl rfl ?_
      refine vo_fieldAddr_ptr rfl rfl Try.underlying113 rfl inf3 (by rw [sz3]; decide) ?_
      refine vo_load_var rfl rfl rfl Try.underlying3 rfl rfl ?_
      refine vo_binI rfl rfl rfl rfl sd ?_
      refine vo_assign_pv rfl rfl ?_
      refine vo_nil ?_
      refine hK7 _ ?_
      refine vc_seq fun K8 hK8 => ?_
      refine vc_seq fun K9 hK9 => ?_
      refine vc_region ?_
      refine vo_move_pv rfl rfl ?_
      refine vo_move_ptr rfl rfl ?_
      refine vo_nilCheck_ptr rfl rfl ?_
      refine vo_fieldAddr_ptr rfl rfl Try.underlying113 rfl inf22 (by rw [sz22]; decide) ?_
      refine vo_load_var rfl rfl rfl Try.underlying22 rfl rfl ?_
      refine vo_len_pv rfl rfl Try.underlying22 ?_
      refine vo_binI rfl rfl rfl rfl trivial ?_
      refine vo_nil ?_
      refine hK9 _ ?_
      refine vc_cond rfl (fun hc3 => ?_) (fun hc3 => ?_)
      · try simp only [decide_eq_true_eq, decide_eq_false_iff_not, beq_iff_eq, bne_iff_ne, beq_eq_false_iff_ne, bne_eq_false_iff_eq, Bool.not_eq_true, Bool.not_eq_false, Bool.not_eq_eq_eq_not, Bool.not_true, Bool.not_false, List.length_map, Int.not_lt, Int.not_le, ne_eq, Decidable.not_not] at hc3
        refine vc_seq fun K10 hK10 => ?_
        refine vc_region ?_
        refine vo_move_ptr rfl rfl ?_
        refine vo_nilCheck_ptr rfl rfl ?_
        refine vo_fieldAddr_ptr rfl rfl Try.underlying113 rfl inf22 (by rw [sz22]; decide) ?_
        refine vo_load_var rfl rfl rfl Try.underlying22 rfl rfl ?_
        refine vo_move_pv rfl rfl ?_
        refine vo_index_pv (.int .u8 0) rfl rfl rfl E22.und inf5 sz5 sd sd ?_
        simp only [Int.toNat_natCast, Int.toNat_zero, getD_ints, getD_intss, getD_bools, getD_bytes, PV.cells]
        refine vo_load_adr rfl rfl Try.underlying5 rfl ?_
        refine vo_convI rfl rfl Try.underlying5 Try.underlying3 sd ?_
        refine vo_move_pv rfl rfl ?_
        refine vo_binI rfl rfl rfl rfl sd ?_
        refine vo_assign_pv rfl rfl ?_
        refine vo_nil ?_
        refine hK10 _ ?_
        refine vc_ret ?_
        change retG _ _ _ _ _
        refine retG_sel [] [] hC rfl rfl rfl rfl rfl rfl ?_
        exact ⟨_, ⟨Int.emod_nonneg _ (by omega), fun h => Int.emod_lt_of_pos _ (by omega)⟩, rfl, rfl⟩
      · try simp only [decide_eq_true_eq, decide_eq_false_iff_not, beq_iff_eq, bne_iff_ne, beq_eq_false_iff_ne, bne_eq_false_iff_eq, Bool.not_eq_true, Bool.not_eq_false, Bool.not_eq_eq_eq_not, Bool.not_true, Bool.not_false, List.length_map, Int.not_lt, Int.not_le, ne_eq, Decidable.not_not] at hc3
        have e1 : 0 ≤ ((p : Int) + 1 - 1) % ((c.map byteP).length : Int) := Int.emod_nonneg _ (by omega)
        have e2 : ((p : Int) + 1 - 1) % ((c.map byteP).length : Int) < ((c.map byteP).length : Int) := Int.emod_lt_of_pos _ (by omega)
        have e3 : 0 ≤ (((p : Int) + 1 - 1) * 7 + 3) % ((c.map byteP).length : Int) := Int.emod_nonneg _ (by omega)
        have e4 : (((p : Int) + 1 - 1) * 7 + 3) % ((c.map byteP).length : Int) < ((c.map byteP).length : Int) := Int.emod_lt_of_pos _ (by omega)
        have e5 : 0 ≤ ((p : Int) + 1 - 1) / ((c.map byteP).length : Int) := Int.ediv_nonneg (by omega) (by omega)
        have e6 : ((p : Int) + 1 - 1) / ((c.map byteP).length : Int) ≤ (p : Int) + 1 - 1 := Int.ediv_le_self _ (by omega)
        refine vc_skip ?_
        refine hK8 _ ?_
        refine vc_seq fun K11 hK11 => ?_
        refine vc_draw (by kernel_rfl) ?_
        change VD _ _ _ 46 _ _ _
        refine vd_light 0 rfl rfl rfl (by kernel_rfl) (by kernel_rfl) (by kernel_rfl) (wnt_none rfl) (lt_move_ptr rfl) ?_
        refine vd_light 1 rfl rfl rfl (by kernel_rfl) (by kernel_rfl) (by kernel_rfl) (wnt_none rfl) (lt_nilCheck_ptr rfl) ?_
        refine vd_light 2 rfl rfl rfl (by kernel_rfl) (by kernel_rfl) (by kernel_rfl) (wnt_none rfl) (lt_fieldAddr_ptr rfl Try.underlying113 rfl inf22 (by rw [sz22]; decide)) ?_
        refine vd_light 3 rfl rfl rfl (by kernel_rfl) (by kernel_rfl) (by kernel_rfl) (wnt_none rfl) (lt_load_var rfl rfl Try.underlying22 rfl rfl) ?_
        refine vd_light 4 rfl rfl rfl (by kernel_rfl) (by kernel_rfl) (by kernel_rfl) (wnt_none rfl) (lt_move_pv rfl) ?_
        refine vd_light 5 rfl rfl rfl (by kernel_rfl) (by kernel_rfl) (by kernel_rfl) (wnt_none rfl) (lt_move_ptr rfl) ?_
        refine vd_light 6 rfl rfl rfl (by kernel_rfl) (by kernel_rfl) (by kernel_rfl) (wnt_none rfl) (lt_nilCheck_ptr rfl) ?_
        refine vd_light 7 rfl rfl rfl (by kernel_rfl) (by kernel_rfl) (by kernel_rfl) (wnt_none rfl) (lt_fieldAddr_ptr rfl Try.underlying113 rfl inf22 (by rw [sz22]; decide)) ?_
        refine vd_light 8 rfl rfl rfl (by kernel_rfl) (by kernel_rfl) (by kernel_rfl) (wnt_none rfl) (lt_load_var rfl rfl Try.underlying22 rfl rfl) ?_
        refine vd_light 9 rfl rfl rfl (by kernel_rfl) (by kernel_rfl) (by kernel_rfl) (wnt_none rfl) (lt_len_pv rfl Try.underlying22) ?_
        refine vd_light 10 rfl rfl rfl (by kernel_rfl) (by kernel_rfl) (by kernel_rfl) (wnt_none rfl) (lt_binI rfl rfl rfl sd) ?_
        refine vd_light 11 rfl rfl rfl (by kernel_rfl) (by kernel_rfl) (by kernel_rfl) (wnt_none rfl) (lt_index_pv (.int .u8 0) rfl rfl E22.und inf5 sz5 sd sd) ?_
        simp only [Int.toNat_natCast, Int.toNat_zero, getD_ints, getD_intss, getD_bools, getD_bytes, PV.cells]
        refine vd_light 12 rfl rfl rfl (by kernel_rfl) (by kernel_rfl) (by kernel_rfl) (wnt_none rfl) (lt_load_adr rfl Try.underlying5 rfl) ?_
        refine vd_light 13 rfl rfl rfl (by kernel_rfl) (by kernel_rfl) (by kernel_rfl) (wnt_none rfl) (lt_convI rfl Try.underlying5 Try.underlying3 sd) ?_
        refine vd_light 14 rfl rfl rfl (by kernel_rfl) (by kernel_rfl) (by kernel_rfl) (wnt_none rfl) (lt_binI rfl rfl rfl sd) ?_
        refine vd_light 15 rfl rfl rfl (by kernel_rfl) (by kernel_rfl) (by kernel_rfl) (wnt_none rfl) (lt_move_ptr rfl) ?_
        refine vd_light 16 rfl rfl rfl (by kernel_rfl) (by kernel_rfl) (by kernel_rfl) (wnt_none rfl) (lt_nilCheck_ptr rfl) ?_
        refine vd_light 17 rfl rfl rfl (by kernel_rfl) (by kernel_rfl) (by kernel_rfl) (wnt_none rfl) (lt_fieldAddr_ptr rfl Try.underlying113 rfl inf22 (by rw [sz22]; decide)) ?_
        refine vd_light 18 rfl rfl rfl (by kernel_rfl) (by kernel_rfl) (by kernel_rfl) (wnt_none rfl) (lt_load_var rfl rfl Try.underlying22 rfl rfl) ?_
        refine vd_light 19 rfl rfl rfl (by kernel_rfl) (by kernel_rfl) (by kernel_rfl) (wnt_none rfl) (lt_move_pv rfl) ?_
        refine vd_light 20 rfl rfl rfl (by kernel_rfl) (by kernel_rfl) (by kernel_rfl) (wnt_none rfl) (lt_binI rfl rfl rfl sd) ?_
        refine vd_light 21 rfl rfl rfl (by kernel_rfl) (by kernel_rfl) (by kernel_rfl) (wnt_none rfl) (lt_binI rfl rfl rfl sd) ?_
        refine vd_light 22 rfl rfl rfl (by kernel_rfl) (by kernel_rfl) (by kernel_rfl) (wnt_none rfl) (lt_move_ptr rfl) ?_
        refine vd_light 23 rfl rfl rfl (by kernel_rfl) (by kernel_rfl) (by kernel_rfl) (wnt_none rfl) (lt_nilCheck_ptr rfl) ?_
        refine vd_light 24 rfl rfl rfl (by kernel_rfl) (by kernel_rfl) (by kernel_rfl) (wnt_none rfl) (lt_fieldAddr_ptr rfl Try.underlying113 rfl inf22 (by rw [sz22]; decide)) ?_
        refine vd_light 25 rfl rfl rfl (by kernel_rfl) (by kernel_rfl) (by kernel_rfl) (wnt_none rfl) (lt_load_var rfl rfl Try.underlying22 rfl rfl) ?_
        refine vd_light 26 rfl rfl rfl (by kernel_rfl) (by kernel_rfl) (by kernel_rfl) (wnt_none rfl) (lt_len_pv rfl Try.underlying22) ?_
        refine vd_light 27 rfl rfl rfl (by kernel_rfl) (by kernel_rfl) (by kernel_rfl) (wnt_none rfl) (lt_binI rfl rfl rfl sd) ?_
        refine vd_light 28 rfl rfl rfl (by kernel_rfl) (by kernel_rfl) (by kernel_rfl) (wnt_none rfl) (lt_index_pv (.int .u8 0) rfl rfl E22.und inf5 sz5 sd sd) ?_
        simp only [Int.toNat_natCast, Int.toNat_zero, getD_ints, getD_intss, getD_bools, getD_bytes, PV.cells]
        refine vd_light 29 rfl rfl rfl (by kernel_rfl) (by kernel_rfl) (by kernel_rfl) (wnt_none rfl) (lt_load_adr rfl Try.underlying5 rfl) ?_
        refine vd_light 30 rfl rfl rfl (by kernel_rfl) (by kernel_rfl) (by kernel_rfl) (wnt_none rfl) (lt_convI rfl Try.underlying5 Try.underlying3 sd) ?_
        refine vd_light 31 rfl rfl rfl (by kernel_rfl) (by kernel_rfl) (by kernel_rfl) (wnt_none rfl) (lt_binI rfl rfl rfl sd) ?_
        refine vd_light 32 rfl rfl rfl (by kernel_rfl) (by kernel_rfl) (by kernel_rfl) (wnt_none rfl) (lt_binI rfl rfl rfl sd) ?_
        refine vd_light 33 rfl rfl rfl (by kernel_rfl) (by kernel_rfl) (by kernel_rfl) (wnt_none rfl) (lt_move_pv rfl) ?_
        refine vd_light 34 rfl rfl rfl (by kernel_rfl) (by kernel_rfl) (by kernel_rfl) (wnt_none rfl) (lt_binI rfl rfl rfl sd) ?_
        refine vd_light 35 rfl rfl rfl (by kernel_rfl) (by kernel_rfl) (by kernel_rfl) (wnt_none rfl) (lt_binI rfl rfl rfl sd) ?_
        refine vd_light 36 rfl rfl rfl (by kernel_rfl) (by kernel_rfl) (by kernel_rfl) (wnt_none rfl) (lt_move_pv rfl) ?_
        refine vd_light 37 rfl rfl rfl (by kernel_rfl) (by kernel_rfl) (by kernel_rfl) (wnt_none rfl) (lt_move_ptr rfl) ?_
        refine vd_light 38 rfl rfl rfl (by kernel_rfl) (by kernel_rfl) (by kernel_rfl) (wnt_none rfl) (lt_nilCheck_ptr rfl) ?_
        refine vd_light 39 rfl rfl rfl (by kernel_rfl) (by kernel_rfl) (by kernel_rfl) (wnt_none rfl) (lt_fieldAddr_ptr rfl Try.underlying113 rfl inf22 (by rw [sz22]; decide)) ?_
        refine vd_light 40 rfl rfl rfl (by kernel_rfl) (by kernel_rfl) (by kernel_rfl) (wnt_none rfl) (lt_load_var rfl rfl Try.underlying22 rfl rfl) ?_
        refine vd_light 41 rfl rfl rfl (by kernel_rfl) (by kernel_rfl) (by kernel_rfl) (wnt_none rfl) (lt_len_pv rfl Try.underlying22) ?_
        refine vd_light 42 rfl rfl rfl (by kernel_rfl) (by kernel_rfl) (by kernel_rfl) (wnt_none rfl) (lt_binI rfl rfl rfl sd) ?_
        refine vd_light 43 rfl rfl rfl (by kernel_rfl) (by kernel_rfl) (by kernel_rfl) (wnt_none rfl) (lt_binI rfl rfl rfl sd) ?_
        refine vd_light 44 rfl rfl rfl (by kernel_rfl) (by kernel_rfl) (by kernel_rfl) (wnt_none rfl) (lt_binI rfl rfl rfl sd) ?_
        refine vd_light 45 rfl rfl rfl (by kernel_rfl) (by kernel_rfl) (by kernel_rfl) (wnt_none rfl) (lt_assign_pv rfl) ?_
        refine vd_nil (by kernel_rfl) ?_
        refine hK11 _ ?_
        refine vc_seq fun K12 hK12 => ?_
        refine vc_region ?_
        refine vo_move_pv rfl rfl ?_
        refine vo_move_pv rfl rfl ?_
        refine vo_binI rfl rfl rfl rfl sd ?_
        refine vo_xor rfl rfl rfl sd sd sd sd ?_
        refine vo_assign_pv rfl rfl ?_
        refine vo_nil ?_
        refine hK12 _ ?_
        refine vc_seq fun K13 hK13 => ?_
        refine vc_region ?_
        refine vo_move_pv rfl rfl ?_
        refine vo_move_pv rfl rfl ?_
        refine vo_binI rfl rfl rfl rfl sd ?_
        refine vo_assign_pv rfl rfl ?_
        refine vo_nil ?_
        refine hK13 _ ?_
        refine vc_ret ?_
        change retG _ _ _ _ _
        refine retG_sel [] [] hC rfl rfl rfl rfl rfl rfl ?_
        exact ⟨_, ⟨Int.emod_nonneg _ (by omega), fun h => Int.emod_lt_of_pos _ (by omega)⟩, rfl, rfl⟩


theorem one_sat {nl : Option Bool} {c : List (Fin 256)} {p : Nat} {nl2 : Option Bool} {list : List Int} (hc : c.length ≤ 2000) (hp : p < 1000000) (hn : list ≠ []) (hl : list.length < 1000000000) : SatAt Try.prog 65 [.ptr 0 0 0 0, .pv false (.sl nl2 1 (list.map intP))] [rdr nl c p] (fun res rows => ∃ x, x ∈ list ∧ res = [i64 x] ∧ rows = [rdr nl c (p + 1)]) := by
  have hL : ((list.map intP).length : Int) = list.length := by simp
  have hN := List.length_pos_iff.2 hn
  refine sat_entry_g (ts := [4]) Try.func65 rfl rfl (by decide) (Nat.le_of_ble_eq_true rfl) fun C hC => ?_
  rw [Try.ntmps65]
  replace hC : C.nb = 1 := hC
  refine vc_seq fun K1 hK1 => ?_
  refine vc_region ?_
  refine vo_assign_pv rfl rfl ?_
  refine vo_nil ?_
  refine hK1 _ ?_
  refine vc_seq fun K2 hK2 => ?_
  refine vc_region ?_
  refine vo_move_pv rfl rfl ?_
  refine vo_move_ptr rfl rfl ?_
  refine vo_move_pv rfl rfl ?_
  refine vo_len_pv rfl rfl Try.underlying50 ?_
  refine vo_call [0] Try.func58 rfl rfl rfl rfl rfl rfl rfl (pick_sat hc (by omega)) ?_
  rintro _ _ ⟨x, ⟨hx0, hx1⟩, rfl, rfl⟩
  refine ⟨Nat.le_of_ble_eq_true rfl, ⟨rfl, rfl, rfl, rfl⟩, .inl rfl, ?_⟩
  refine vo_stN ?_
  refine vo_index_pv (.int .i64 0) rfl rfl rfl E50.und inf3 sz3 sd sd ?_
  simp only [Int.toNat_natCast, Int.toNat_zero, getD_ints, getD_intss, getD_bools, getD_bytes, PV.cells]
  refine vo_load_adr rfl rfl Try.underlying3 rfl ?_
  refine vo_assign_pv rfl rfl ?_
  refine vo_nil ?_
  refine hK2 _ ?_
  refine vc_ret ?_
  change retG _ _ _ _ _
  refine retG_sel [] [] hC rfl rfl rfl rfl rfl rfl ?_
  exact ⟨_, getD_mem (by omega) 0, rfl, rfl⟩

end Go.Vl


namespace Go.Vl
set_option linter.unusedVariables false
set_option linter.unusedSimpArgs false
open Go.Proofs

end Go.Vl


namespace Go.Vl
set_option linter.unusedVariables false
set_option linter.unusedSimpArgs false
open Go.Proofs

theorem someOps_sat {nl : Option Bool} {c : List (Fin 256)} {p : Nat} (hc : c.length ≤ 2000) (hp : p < 999000) : SatAt Try.prog 52 [.ptr 0 0 0 0] [rdr nl c p] (fun res rows => ∃ (l : List OpM) (q : Nat), (l.length ≤ 20 ∧ q ≤ p + 300) ∧ res = [.ref 1] ∧ rows = [rdr nl c q, Row.own 46 4 (some false) true (l.map opP)]) := by
  refine sat_entry_G (rs := [(2, none)]) Try.func52 rfl rfl (Nat.le_of_ble_eq_true rfl) (Nat.le_of_ble_eq_true rfl) (resTs1 trivial) fun C hC => ?_
  rw [Try.ntmps52]
  replace hC : C.nb = 1 := hC
  refine vc_seq fun K1 hK1 => ?_
  refine vc_region ?_
  refine vo_assign_pv rfl rfl ?_
  refine vo_nil ?_
  refine hK1 _ ?_
  refine vc_seq fun K2 hK2 => ?_
  refine vc_region ?_
  refine vo_buildSlice E23 rfl rfl rfl rfl rfl ?_
  refine vo_stM ?_
  refine vo_assign_ref rfl rfl ?_
  refine vo_nil ?_
  refine hK2 _ ?_
  refine vc_seq fun K3 hK3 => ?_
  refine vc_seq fun K4 hK4 => ?_
  refine vc_region ?_
  refine vo_move_ptr rfl rfl ?_
  refine vo_buildSlice E50 rfl rfl rfl rfl rfl ?_
  refine vo_stM ?_
  refine vo_expose 2 (by omega) rfl ?_
  refine vo_stM ?_
  refine vo_weaken 7 rfl ?_
  refine vo_stM ?_
  refine vo_call [0] Try.func65 rfl rfl rfl rfl rfl rfl rfl (one_sat (list := [_,_,_,_,_,_]) hc (by omega) (by simp) (by simp)) ?_
  rintro _ _ ⟨y8, hy8, rfl, rfl⟩
  refine ⟨Nat.le_of_ble_eq_true rfl, ⟨rfl, rfl, rfl, rfl⟩, .inl rfl, ?_⟩
  refine vo_stM ?_
  refine vo_assign_pv rfl rfl ?_
  refine vo_nil ?_
  refine hK4 _ ?_
  refine vc_block ?_
  refine vc_stM ?_
  refine vc_loopE [0] [3, 4] [0, 1] _ _ (fun mz vs rs => ∃ (l : List OpM) (q : Nat) (n : Int), mz = n.toNat ∧ ((0 ≤ n ∧ l.length + n ≤ 20)) ∧ ((q + 7 * n ≤ p + 200)) ∧ vs = [.ref 1, i64 n] ∧ rs = [rdr nl c q, Row.own 46 4 (some false) true (l.map opP)]) (y8.toNat) rfl rfl (le_len hC rfl) ⟨rfl, rfl, rfl⟩ rfl ⟨[], p+1, y8, rfl, (by simp at hy8; simp; omega), (by simp at hy8; omega), rfl, rfl⟩ ?_
  rintro mz vs rs - - ⟨l, q, n, rfl, hn, hq, rfl, rfl⟩
  refine vc_stM ?_
  refine vc_seq fun K5 hK5 => ?_
  refine vc_seq fun K6 hK6 => ?_
  refine vc_region ?_
  refine vo_move_pv rfl rfl ?_
  refine vo_binI rfl rfl rfl rfl trivial ?_
  refine vo_nil ?_
  refine hK6 _ ?_
  refine vc_cond rfl (fun hc1 => ?_) (fun hc1 => ?_)
  · try simp only [decide_eq_true_eq, decide_eq_false_iff_not, beq_iff_eq, bne_iff_ne, beq_eq_false_iff_ne, bne_eq_false_iff_eq, Bool.not_eq_true, Bool.not_eq_false, Bool.not_eq_eq_eq_not, Bool.not_true, Bool.not_false, List.length_map, Int.not_lt, Int.not_le, ne_eq, Decidable.not_not] at hc1
    refine vc_skip ?_
    refine hK5 _ ?_
    refine vc_seq fun K7 hK7 => ?_
    refine vc_block ?_
    refine vc_region ?_
    refine vo_move_ref rfl rfl ?_
    refine vo_move_ptr rfl rfl ?_
    refine vo_move_ptr rfl rfl ?_
    refine vo_call [0] Try.func58 rfl rfl rfl rfl rfl rfl rfl (pick_sat hc (by omega)) ?_
    rintro _ _ ⟨x16, ⟨hx160, hx161⟩, rfl, rfl⟩
    refine ⟨Nat.le_of_ble_eq_true rfl, ⟨rfl, rfl, rfl, rfl⟩, .inl rfl, ?_⟩
    refine vo_stM ?_
    refine vo_buildSlice E50 rfl rfl rfl rfl rfl ?_
    refine vo_stM ?_
    refine vo_expose 3 (by omega) rfl ?_
    refine vo_stM ?_
    refine vo_weaken 17 rfl ?_
    refine vo_stM ?_
    refine vo_call [0] Try.func65 rfl rfl rfl rfl rfl rfl rfl (one_sat (list := [_,_,_,_]) hc (by omega) (by simp) (by simp)) ?_
    rintro _ _ ⟨y18, hy18, rfl, rfl⟩
    refine ⟨Nat.le_of_ble_eq_true rfl, ⟨rfl, rfl, rfl, rfl⟩, .inl rfl, ?_⟩
    refine vo_stM ?_
    refine vo_move_ptr rfl rfl ?_
    refine vo_move_ptr rfl rfl ?_
    refine vo_call [0] Try.func58 rfl rfl rfl rfl rfl rfl rfl (pick_sat hc (by omega)) ?_
    rintro _ _ ⟨x21, ⟨hx210, hx211⟩, rfl, rfl⟩
    refine ⟨Nat.le_of_ble_eq_true rfl, ⟨rfl, rfl, rfl, rfl⟩, .inl rfl, ?_⟩
    refine vo_stM ?_
    refine vo_buildSlice E50 rfl rfl rfl rfl rfl ?_
    refine vo_stM ?_
    refine vo_expose 4 (by omega) rfl ?_
    refine vo_stM ?_
    refine vo_weaken 22 rfl ?_
    refine vo_stM ?_
    refine vo_call [0] Try.func65 rfl rfl rfl rfl rfl rfl rfl (one_sat (list := [_,_,_,_,_]) hc (by omega) (by simp) (by simp)) ?_
    rintro _ _ ⟨y23, hy23, rfl, rfl⟩
    refine ⟨Nat.le_of_ble_eq_true rfl, ⟨rfl, rfl, rfl, rfl⟩, .inl rfl, ?_⟩
    refine vo_stM ?_
    refine vo_move_ptr rfl rfl ?_
    refine vo_call [0] Try.func58 rfl rfl rfl rfl rfl rfl rfl (pick_sat hc (by omega)) ?_
    rintro _ _ ⟨x25, ⟨hx250, hx251⟩, rfl, rfl⟩
    refine ⟨Nat.le_of_ble_eq_true rfl, ⟨rfl, rfl, rfl, rfl⟩, .inl rfl, ?_⟩
    refine vo_stM ?_
    refine vo_move_ptr rfl rfl ?_
    refine vo_call [0] Try.func58 rfl rfl rfl rfl rfl rfl rfl (pick_sat hc (by omega)) ?_
    rintro _ _ ⟨x27, ⟨hx270, hx271⟩, rfl, rfl⟩
    refine ⟨Nat.le_of_ble_eq_true rfl, ⟨rfl, rfl, rfl, rfl⟩, .inl rfl, ?_⟩
    refine vo_stM ?_
    refine vo_binI rfl rfl rfl rfl trivial ?_
    refine vo_build S46 rfl rfl rfl ?_
    refine vo_stM ?_
    refine vo_buildSlice E23 rfl rfl rfl rfl rfl ?_
    refine vo_stM ?_
    refine vo_append E23 rfl (by omega) rfl rfl rfl sd sd ?_
    refine vo_stM ?_
    try simp only [app_ints, app_intss, app_bools]
    refine vo_assign_ref rfl rfl ?_
    refine vo_nil ?_
    refine hK7 _ ?_
    refine vc_region ?_
    refine vo_move_pv rfl rfl ?_
    refine vo_binI rfl rfl rfl rfl sd ?_
    refine vo_assign_pv rfl rfl ?_
    refine vo_nil ?_
    change againE _ _ _ _ _ _ _ _ _ _
    refine againE_mk rfl rfl rfl rfl rfl rfl ⟨_, ?_, l ++ [⟨y18, y23, x25, decide (x27 = 0)⟩], q + 6, n - 1, rfl, ?_, ?_, rfl, (by simp only [List.map_append]; rfl)⟩
    · omega
    · refine ⟨by omega, ?_⟩; rw [List.length_append, List.length_singleton]; omega
    · omega
  · try simp only [decide_eq_true_eq, decide_eq_false_iff_not, beq_iff_eq, bne_iff_ne, beq_eq_false_iff_ne, bne_eq_false_iff_eq, Bool.not_eq_true, Bool.not_eq_false, Bool.not_eq_eq_eq_not, Bool.not_true, Bool.not_false, List.length_map, Int.not_lt, Int.not_le, ne_eq, Decidable.not_not] at hc1
    refine vc_exit ?_
    refine hK3 _ ?_
    refine vc_seq fun K8 hK8 => ?_
    refine vc_seq fun K9 hK9 => ?_
    refine vc_region ?_
    refine vo_move_ref rfl rfl ?_
    refine vo_len_ref rfl rfl rfl Try.underlying23 ?_
    refine vo_binI rfl rfl rfl rfl trivial ?_
    refine vo_move_pv rfl rfl ?_
    refine vo_split 35 rfl (fun hg2 => ?_) (fun hg2 => ?_)
    · try simp only [decide_eq_true_eq, decide_eq_false_iff_not, beq_iff_eq, bne_iff_ne, beq_eq_false_iff_ne, bne_eq_false_iff_eq, Bool.not_eq_true, Bool.not_eq_false, Bool.not_eq_eq_eq_not, Bool.not_true, Bool.not_false, List.length_map, Int.not_lt, Int.not_le, ne_eq, Decidable.not_not] at hg2
      obtain ⟨o, l, rfl⟩ := List.exists_cons_of_length_pos (show 0 < l.length by omega)
      have hl9 : (o :: l).length ≤ 20 := by omega
      refine vo_guard_on rfl rfl rfl ?_
      refine vo_move_ptr rfl rfl ?_
      refine vo_guard_on rfl rfl rfl ?_
      refine vo_call [0] Try.func58 rfl rfl rfl rfl rfl rfl rfl (pick_sat hc (by omega)) ?_
      rintro _ _ ⟨x37, ⟨hx370, hx371⟩, rfl, rfl⟩
      refine ⟨Nat.le_of_ble_eq_true rfl, ⟨rfl, rfl, rfl, rfl⟩, .inl rfl, ?_⟩
      refine vo_stM ?_
      refine vo_guard_on rfl rfl rfl ?_
      refine vo_binI rfl rfl rfl rfl trivial ?_
      refine vo_pick_t rfl rfl ?_
      refine vo_nil ?_
      refine hK9 _ ?_
      refine vc_cond rfl (fun hc3 => ?_) (fun hc3 => ?_)
      · try simp only [decide_eq_true_eq, decide_eq_false_iff_not, beq_iff_eq, bne_iff_ne, beq_eq_false_iff_ne, bne_eq_false_iff_eq, Bool.not_eq_true, Bool.not_eq_false, Bool.not_eq_eq_eq_not, Bool.not_true, Bool.not_false, List.length_map, Int.not_lt, Int.not_le, ne_eq, Decidable.not_not] at hc3
        refine vc_region ?_
        refine vo_move_ref rfl rfl ?_
        refine vo_move_ptr rfl rfl ?_
        refine vo_buildSlice E50 rfl rfl rfl rfl rfl ?_
        refine vo_stM ?_
        refine vo_expose 3 (by omega) rfl ?_
        refine vo_stM ?_
        refine vo_weaken 42 rfl ?_
        refine vo_stM ?_
        refine vo_call [0] Try.func65 rfl rfl rfl rfl rfl rfl rfl (one_sat (list := [_,_]) hc (by omega) (by simp) (by simp)) ?_
        rintro _ _ ⟨y43, hy43, rfl, rfl⟩
        refine ⟨Nat.le_of_ble_eq_true rfl, ⟨rfl, rfl, rfl, rfl⟩, .inl rfl, ?_⟩
        refine vo_stM ?_
        refine vo_index_ref rfl rfl rfl rfl E23.und inf46 sz46 sd sd ?_
        try simp only [Int.toNat_natCast]
        refine vo_fieldAddr_ptr rfl rfl Try.underlying46 rfl inf3 (by rw [sz3]; decide) ?_
        try simp only [Nat.zero_add]
        refine vo_store_ownC rfl rfl rfl rfl inf3 sz3 rfl rfl ?_
        try simp only [List.set_cons_zero, List.set_cons_succ, Int.toNat_natCast, Int.toNat_zero]
        refine vo_stM ?_
        refine vo_nil ?_
        refine hK8 _ ?_
        refine vc_seq fun K10 hK10 => ?_
        refine vc_region ?_
        refine vo_move_ref rfl rfl ?_
        refine vo_assign_ref rfl rfl ?_
        refine vo_nil ?_
        refine hK10 _ ?_
        refine vc_ret ?_
        change retQ _ _ _ _ _
        refine retQ_sel [1] (srows := [_]) (.inr rfl) hC rfl rfl rfl rfl rfl rfl rfl ?_
        exact ⟨⟨o.who, y43, o.value, o.gone⟩ :: l, _, ⟨hl9, by omega⟩, rfl, rfl⟩
      · try simp only [decide_eq_true_eq, decide_eq_false_iff_not, beq_iff_eq, bne_iff_ne, beq_eq_false_iff_ne, bne_eq_false_iff_eq, Bool.not_eq_true, Bool.not_eq_false, Bool.not_eq_eq_eq_not, Bool.not_true, Bool.not_false, List.length_map, Int.not_lt, Int.not_le, ne_eq, Decidable.not_not] at hc3
        refine vc_skip ?_
        refine hK8 _ ?_
        refine vc_seq fun K11 hK11 => ?_
        refine vc_region ?_
        refine vo_move_ref rfl rfl ?_
        refine vo_assign_ref rfl rfl ?_
        refine vo_nil ?_
        refine hK11 _ ?_
        refine vc_ret ?_
        change retQ _ _ _ _ _
        refine retQ_sel [1] (srows := [_]) (.inr rfl) hC rfl rfl rfl rfl rfl rfl rfl ?_
        exact ⟨o :: l, _, ⟨hl9, by omega⟩, rfl, rfl⟩
    · try simp only [decide_eq_true_eq, decide_eq_false_iff_not, beq_iff_eq, bne_iff_ne, beq_eq_false_iff_ne, bne_eq_false_iff_eq, Bool.not_eq_true, Bool.not_eq_false, Bool.not_eq_eq_eq_not, Bool.not_true, Bool.not_false, List.length_map, Int.not_lt, Int.not_le, ne_eq, Decidable.not_not] at hg2
      refine vo_guard_off rfl rfl rfl rfl rfl ?_
      refine vo_guard_off rfl rfl rfl rfl rfl ?_
      refine vo_guard_off rfl rfl rfl rfl rfl ?_
      refine vo_pick_f rfl rfl ?_
      refine vo_nil ?_
      refine hK9 _ ?_
      refine vc_cond_f rfl ?_
      refine vc_skip ?_
      refine hK8 _ ?_
      refine vc_seq fun K12 hK12 => ?_
      refine vc_region ?_
      refine vo_move_ref rfl rfl ?_
      refine vo_assign_ref rfl rfl ?_
      refine vo_nil ?_
      refine hK12 _ ?_
      refine vc_ret ?_
      change retQ _ _ _ _ _
      refine retQ_sel [1] (srows := [_]) (.inr rfl) hC rfl rfl rfl rfl rfl rfl rfl ?_
      exact ⟨l, _, ⟨by omega, by omega⟩, rfl, rfl⟩


end Go.Vl


namespace Go.Vl
set_option linter.unusedVariables false
set_option linter.unusedSimpArgs false
open Go.Proofs

def AGG (xs : List PV) : Prop := ∀ x ∈ xs, ∃ cs, x = .agg cs
theorem AGG.get {xs : List PV} (h : AGG xs) {i : Nat} (hi : i < xs.length) : ∃ cs, xs[i]? = some (.agg cs) := by
  obtain ⟨cs, hc⟩ := h xs[i] (List.getElem_mem hi)
  exact ⟨cs, by rw [List.getElem?_eq_getElem hi, hc]⟩
theorem AGG.set {xs : List PV} (h : AGG xs) (i : Nat) (cs : List PV) : AGG (xs.set i (.agg cs)) := by
  intro x hx
  rcases List.mem_or_eq_of_mem_set hx with h1 | h1
  · exact h x h1
  · exact ⟨cs, h1⟩
theorem AGG.ops (l : List OpM) : AGG (l.map opP) := by
  intro x hx; obtain ⟨o, _, rfl⟩ := List.mem_map.1 hx; exact ⟨_, rfl⟩
def MkP (L : List (Int × Int)) (k : Int) (n : Nat) : Prop := ∀ j : Nat, j < n → L.getD j (0, 0) = (k + 2 * j, k + 2 * j + 1)
theorem MkP.set {L : List (Int × Int)} {k y : Int} {n : Nat} (h : MkP L k n) (hn : n < L.length) (hy : y = k + 2 * n) : MkP (L.set n (y, y + 1)) k (n + 1) := by
  intro j hj
  rcases Nat.lt_or_ge j n with h1 | h1
  · rw [← h j h1]
    simp [List.getD, List.getElem?_set, show n ≠ j by omega]
  · have : j = n := by omega
    subst this
    rw [hy]
    simp [List.getD, List.getElem?_set, hn]
end Go.Vl


namespace Go.Vl
set_option linter.unusedVariables false
set_option linter.unusedSimpArgs false
open Go.Proofs

def LastP (list : List OpM) (who z : Int) (k : Nat) : Prop := (z = -1 ∧ plpK list who k = []) ∨ ∃ j : Nat, z = j ∧ j < k ∧ plpK list who k = chg (plpK list who j) (list.getD j ⟨0, 0, 0, false⟩)
theorem LastP.yes {list : List OpM} {who : Int} {k : Nat} (h : k < list.length) (hw : (list.getD k ⟨0, 0, 0, false⟩).who = who) : LastP list who k (k+1) := .inr ⟨k, rfl, by omega, plpK_yes h hw⟩
theorem LastP.no {list : List OpM} {who z : Int} {k : Nat} (h : k < list.length) (hw : ¬ (list.getD k ⟨0, 0, 0, false⟩).who = who) (hl : LastP list who z k) : LastP list who z (k+1) := by
  unfold LastP; rw [plpK_no h hw]
  rcases hl with hl | ⟨j, h1, h2, h3⟩
  · exact .inl hl
  · exact .inr ⟨j, h1, by omega, h3⟩
theorem nodup_ne {L : List (Int × Int)} (h : (nms L).Nodup) {k i : Nat} (hk : k < i) (hi : i < L.length) : (L.getD k (0, 0)).1 ≠ (L.getD i (0, 0)).1 := fun e => by
  have h1 := findM_nd h (q := k) (k := 0) (by rw [nms_len]; omega)
  have h2 := findM_nd h (q := i) (k := 0) (by rw [nms_len]; omega)
  rw [getD_nms] at h1 h2
  rw [e] at h1; omega
theorem mem_take_succ {L : List (Int × Int)} {i : Nat} (h : i < L.length) (p : Int × Int) : p ∈ L.take (i+1) ↔ p ∈ L.take i ∨ ((L.getD i (0, 0)).1 = p.1 ∧ (L.getD i (0, 0)).2 = p.2) := by
  rw [List.take_add_one, List.getElem?_eq_getElem h]
  simp only [List.mem_append, Option.toList_some, List.mem_singleton, List.getD, List.getElem?_eq_getElem h, Option.getD_some]
  constructor
  · rintro (h1 | rfl)
    · exact .inl h1
    · exact .inr ⟨rfl, rfl⟩
  · rintro (h1 | ⟨h1, h2⟩)
    · exact .inl h1
    · exact .inr (Prod.ext h1.symm h2.symm)
/-- What the last change says of the pairs. -/
theorem chg_tells {L : List (Int × Int)} {o : OpM} (hn : (nms L).Nodup) : (o.name, o.value) ∈ chg L o ↔ o.gone = false := by
  constructor
  · intro hm
    cases hg : o.gone with
    | false => rfl
    | true =>
      exfalso
      unfold chg at hm
      rw [if_pos hg] at hm
      split at hm
      · rename_i h0
        obtain ⟨i, hi, h1, h2⟩ := findM_of h0
        have hd := delP_eq h1
        rw [h1, Int.toNat_natCast, show ((i : Int) + 1).toNat = i + 1 by omega] at hm
        rw [nms_len] at hi
        have key : ∀ q, q < L.length → q ≠ i → (L.getD q (0, 0)).1 ≠ o.name := fun q hq hqi e => by
          rw [← h2, getD_nms] at e
          rcases Nat.lt_or_ge q i with h3 | h3
          · exact nodup_ne hn h3 hi e
          · exact nodup_ne hn (show i < q by omega) hq e.symm
        rcases List.mem_append.1 hm with h3 | h3
        · obtain ⟨q, hq, h4⟩ := List.getElem_of_mem h3
          rw [List.length_take] at hq
          rw [List.getElem_take] at h4
          exact key q (by omega) (by omega) (by simp [List.getD, List.getElem?_eq_getElem (show q < L.length by omega), h4])
        · obtain ⟨q, hq, h4⟩ := List.getElem_of_mem h3
          rw [List.length_drop] at hq
          rw [List.getElem_drop] at h4
          exact key (i + 1 + q) (by omega) (by omega) (by simp [List.getD, List.getElem?_eq_getElem (show i + 1 + q < L.length by omega), h4])
      · rename_i h0
        exact (findM_not o.name _ 0 (by omega)).1 (by omega) (pair_mem_nms hm)
  · intro hg
    unfold chg
    rw [if_neg (by rw [hg]; decide)]
    split
    · rename_i h0
      obtain ⟨i, hi, h1, h2⟩ := findM_of h0
      rw [nms_len] at hi
      rw [h1, Int.toNat_natCast]
      rw [getD_nms] at h2
      rw [h2]
      exact List.mem_set hi _
    · simp

theorem equalPairs_sat {nl0 : Option Bool} {a : List (Int × Int)} {nl1 : Option Bool} {b : List (Int × Int)} (ha : a.length < 1000000000) (hb : b.length < 1000000000)  : SatAt Try.prog 29 [.pv false (.sl nl0 2 (a.map pairP)), .pv false (.sl nl1 2 (b.map pairP))] [] (fun res rows => res = [bo (decide (a = b))] ∧ rows = []) := by
  refine sat_entry_G (rs := [(4, none)]) Try.func29 rfl rfl (Nat.le_of_ble_eq_true rfl) (Nat.le_of_ble_eq_true rfl) (resTs1 trivial) fun C hC => ?_
  rw [Try.ntmps29]
  replace hC : C.nb = 0 := hC
  refine vc_seq fun K1 hK1 => ?_
  refine vc_region ?_
  refine vo_assign_pv rfl rfl ?_
  refine vo_nil ?_
  refine hK1 _ ?_
  refine vc_seq fun K2 hK2 => ?_
  refine vc_seq fun K3 hK3 => ?_
  refine vc_region ?_
  refine vo_move_pv rfl rfl ?_
  refine vo_len_pv rfl rfl Try.underlying32 ?_
  refine vo_move_pv rfl rfl ?_
  refine vo_len_pv rfl rfl Try.underlying32 ?_
  refine vo_binI rfl rfl rfl rfl trivial ?_
  refine vo_nil ?_
  refine hK3 _ ?_
  refine vc_cond rfl (fun hc1 => ?_) (fun hc1 => ?_)
  · try simp only [decide_eq_true_eq, decide_eq_false_iff_not, beq_iff_eq, bne_iff_ne, beq_eq_false_iff_ne, bne_eq_false_iff_eq, Bool.not_eq_true, Bool.not_eq_false, Bool.not_eq_eq_eq_not, Bool.not_true, Bool.not_false, List.length_map, Int.not_lt, Int.not_le, ne_eq, Decidable.not_not] at hc1
    refine vc_seq fun K4 hK4 => ?_
    refine vc_region ?_
    refine vo_assign_pv rfl rfl ?_
    refine vo_nil ?_
    refine hK4 _ ?_
    refine vc_ret ?_
    change retQ _ _ _ _ _
    refine retQ_sel [] (srows := []) (.inr rfl) hC rfl rfl rfl rfl rfl rfl rfl ?_
    refine ⟨?_, rfl⟩
    refine (congrArg (fun b => [bo b]) (?_ : _ = _) : [bo _] = [bo _])
    exact bF fun h => by rw [h] at hc1; exact hc1 rfl
  · try simp only [decide_eq_true_eq, decide_eq_false_iff_not, beq_iff_eq, bne_iff_ne, beq_eq_false_iff_ne, bne_eq_false_iff_eq, Bool.not_eq_true, Bool.not_eq_false, Bool.not_eq_eq_eq_not, Bool.not_true, Bool.not_false, List.length_map, Int.not_lt, Int.not_le, ne_eq, Decidable.not_not] at hc1
    refine vc_skip ?_
    refine hK2 _ ?_
    refine vc_seq fun K5 hK5 => ?_
    refine vc_seq fun K6 hK6 => ?_
    refine vc_region ?_
    refine vo_assign_pv rfl rfl ?_
    refine vo_nil ?_
    refine hK6 _ ?_
    refine vc_block ?_
    refine vc_stM ?_
    refine vc_loopE [0, 1] [5] [] _ _ (fun mz vs rs => ∃ (k : Nat), mz = a.length - k ∧ (k ≤ a.length) ∧ (a.take k = b.take k) ∧ vs = [i64 k] ∧ rs = []) (a.length) rfl rfl (le_len hC rfl) ⟨rfl, rfl, rfl⟩ rfl ⟨0, rfl, Nat.zero_le _, (by simp), rfl, rfl⟩ ?_
    rintro mz vs rs - - ⟨k, rfl, hk, hf, rfl, rfl⟩
    refine vc_stM ?_
    refine vc_seq fun K7 hK7 => ?_
    refine vc_seq fun K8 hK8 => ?_
    refine vc_region ?_
    refine vo_move_pv rfl rfl ?_
    refine vo_move_pv rfl rfl ?_
    refine vo_len_pv rfl rfl Try.underlying32 ?_
    refine vo_binI rfl rfl rfl rfl trivial ?_
    refine vo_nil ?_
    refine hK8 _ ?_
    refine vc_cond rfl (fun hc2 => ?_) (fun hc2 => ?_)
    · try simp only [decide_eq_true_eq, decide_eq_false_iff_not, beq_iff_eq, bne_iff_ne, beq_eq_false_iff_ne, bne_eq_false_iff_eq, Bool.not_eq_true, Bool.not_eq_false, Bool.not_eq_eq_eq_not, Bool.not_true, Bool.not_false, List.length_map, Int.not_lt, Int.not_le, ne_eq, Decidable.not_not] at hc2
      refine vc_skip ?_
      refine hK7 _ ?_
      refine vc_seq fun K9 hK9 => ?_
      refine vc_block ?_
      refine vc_seq fun K10 hK10 => ?_
      refine vc_draw (by kernel_rfl) ?_
      change VD _ _ _ 9 _ _ _
      refine vd_light 0 rfl rfl rfl (by kernel_rfl) (by kernel_rfl) (by kernel_rfl) (wnt_none rfl) (lt_move_pv rfl) ?_
      refine vd_light 1 rfl rfl rfl (by kernel_rfl) (by kernel_rfl) (by kernel_rfl) (wnt_none rfl) (lt_move_pv rfl) ?_
      refine vd_light 2 rfl rfl rfl (by kernel_rfl) (by kernel_rfl) (by kernel_rfl) (wnt_none rfl) (lt_index_pv (.agg [(.int .i64 0), (.int .i64 0)]) rfl rfl E32.und inf37 sz37 sd sd) ?_
      simp only [Int.toNat_natCast, Int.toNat_zero, getD_ints, getD_intss, getD_bools, getD_bytes, PV.cells, getD_ops, getD_pairs, getD_insts]
      refine vd_light 3 rfl rfl rfl (by kernel_rfl) (by kernel_rfl) (by kernel_rfl) (wnt_none rfl) (lt_load_adrS rfl Try.underlying37 rfl inf37 sz37 rfl) ?_
      refine vd_st (by (try simp only [St.put, PV.cells, PV.scal, List.drop_succ_cons, List.drop_zero, List.take_succ_cons, List.take_zero, List.map_cons, List.map_nil, Bool.or_true, Bool.or_false, Bool.false_or, Bool.true_or, opP, pairP, instP, heapP]); exact eq_refl _) ?_
      refine vd_light 4 rfl rfl rfl (by kernel_rfl) (by kernel_rfl) (by kernel_rfl) (wnt_none rfl) (lt_move_pv rfl) ?_
      refine vd_light 5 rfl rfl rfl (by kernel_rfl) (by kernel_rfl) (by kernel_rfl) (wnt_none rfl) (lt_move_pv rfl) ?_
      refine vd_light 6 rfl rfl rfl (by kernel_rfl) (by kernel_rfl) (by kernel_rfl) (wnt_none rfl) (lt_index_pv (.agg [(.int .i64 0), (.int .i64 0)]) rfl rfl E32.und inf37 sz37 sd sd) ?_
      simp only [Int.toNat_natCast, Int.toNat_zero, getD_ints, getD_intss, getD_bools, getD_bytes, PV.cells, getD_ops, getD_pairs, getD_insts]
      refine vd_light 7 rfl rfl rfl (by kernel_rfl) (by kernel_rfl) (by kernel_rfl) (wnt_none rfl) (lt_load_adrS rfl Try.underlying37 rfl inf37 sz37 rfl) ?_
      refine vd_st (by (try simp only [St.put, PV.cells, PV.scal, List.drop_succ_cons, List.drop_zero, List.take_succ_cons, List.take_zero, List.map_cons, List.map_nil, Bool.or_true, Bool.or_false, Bool.false_or, Bool.true_or, opP, pairP, instP, heapP]); exact eq_refl _) ?_
      refine vd_light 8 rfl rfl rfl (by kernel_rfl) (by kernel_rfl) (by kernel_rfl) (wnt_none rfl) (lt_neqS2 Q37 rfl rfl) ?_
      refine vd_nil (by kernel_rfl) ?_
      refine hK10 _ ?_
      refine vc_cond rfl (fun hc3 => ?_) (fun hc3 => ?_)
      · try simp only [decide_eq_true_eq, decide_eq_false_iff_not, beq_iff_eq, bne_iff_ne, beq_eq_false_iff_ne, bne_eq_false_iff_eq, Bool.not_eq_true, Bool.not_eq_false, Bool.not_eq_eq_eq_not, Bool.not_true, Bool.not_false, List.length_map, Int.not_lt, Int.not_le, ne_eq, Decidable.not_not] at hc3
        refine vc_seq fun K11 hK11 => ?_
        refine vc_region ?_
        refine vo_assign_pv rfl rfl ?_
        refine vo_nil ?_
        refine hK11 _ ?_
        refine vc_ret ?_
        change retQ _ _ _ _ _
        refine retQ_sel [] (srows := []) (.inr rfl) hC rfl rfl rfl rfl rfl rfl rfl ?_
        refine ⟨?_, rfl⟩
        refine (congrArg (fun b => [bo b]) (?_ : _ = _) : [bo _] = [bo _])
        exact bF fun h => by rw [h] at hc3; simp at hc3
      · try simp only [decide_eq_true_eq, decide_eq_false_iff_not, beq_iff_eq, bne_iff_ne, beq_eq_false_iff_ne, bne_eq_false_iff_eq, Bool.not_eq_true, Bool.not_eq_false, Bool.not_eq_eq_eq_not, Bool.not_true, Bool.not_false, List.length_map, Int.not_lt, Int.not_le, ne_eq, Decidable.not_not] at hc3
        refine vc_skip ?_
        refine hK9 _ ?_
        refine vc_region ?_
        refine vo_move_pv rfl rfl ?_
        refine vo_binI rfl rfl rfl rfl sd ?_
        refine vo_assign_pv rfl rfl ?_
        refine vo_nil ?_
        change againE _ _ _ _ _ _ _ _ _ _
        refine againE_mk rfl rfl rfl rfl rfl rfl ⟨_, ?_, k + 1, rfl, ?_, ?_, rfl, rfl⟩
        · omega
        · omega
        · exact (take_eqS (0, 0) (by omega) (by omega)).2 ⟨hf, Prod.ext_iff.2 (by first | exact hc3 | exact ⟨hc3.1, hc3.2⟩ | (simp at hc3; exact hc3))⟩
    · try simp only [decide_eq_true_eq, decide_eq_false_iff_not, beq_iff_eq, bne_iff_ne, beq_eq_false_iff_ne, bne_eq_false_iff_eq, Bool.not_eq_true, Bool.not_eq_false, Bool.not_eq_eq_eq_not, Bool.not_true, Bool.not_false, List.length_map, Int.not_lt, Int.not_le, ne_eq, Decidable.not_not] at hc2
      refine vc_exit ?_
      refine hK5 _ ?_
      refine vc_seq fun K12 hK12 => ?_
      refine vc_region ?_
      refine vo_assign_pv rfl rfl ?_
      refine vo_nil ?_
      refine hK12 _ ?_
      refine vc_ret ?_
      change retQ _ _ _ _ _
      refine retQ_sel [] (srows := []) (.inr rfl) hC rfl rfl rfl rfl rfl rfl rfl ?_
      refine ⟨?_, rfl⟩
      refine (congrArg (fun b => [bo b]) (?_ : _ = _) : [bo _] = [bo _])
      rw [take_all (by omega), take_all (by omega)] at hf; exact bT hf


theorem DrawPlainPairs_sat {nl : Option Bool} {c : List (Fin 256)} (hl : c.length < 1000000000) : SatAt Try.prog 27 [.pv false (.sl nl 1 (c.map byteP))] [] (fun res rows => ∃ (l : List OpM) (z : Int), l.length ≤ 20 ∧ res = [.pv true (.sl (some false) 4 (l.map opP)), i64 z] ∧ rows = []) := by
  refine sat_entry_G (rs := [(2, none), (3, none)]) Try.func27 rfl rfl (Nat.le_of_ble_eq_true rfl) (Nat.le_of_ble_eq_true rfl) (resTs2 trivial trivial) fun C hC => ?_
  rw [Try.ntmps27]
  replace hC : C.nb = 0 := hC
  refine vc_seq fun K1 hK1 => ?_
  refine vc_region ?_
  refine vo_assign_pv rfl rfl ?_
  refine vo_assign_pv rfl rfl ?_
  refine vo_nil ?_
  refine hK1 _ ?_
  refine vc_seq fun K2 hK2 => ?_
  refine vc_region ?_
  refine vo_move_pv rfl rfl ?_
  refine vo_call [] Try.func53 rfl rfl rfl rfl rfl rfl rfl (newReader_sat (by omega)) ?_
  rintro _ _ ⟨nl2, c2, hc, rfl, rfl⟩
  refine ⟨Nat.le_of_ble_eq_true rfl, ⟨rfl, rfl, rfl, rfl⟩, .inl rfl, ?_⟩
  refine vo_stM ?_
  refine vo_assign_ptr rfl rfl ?_
  refine vo_nil ?_
  refine hK2 _ ?_
  refine vc_seq fun K3 hK3 => ?_
  refine vc_region ?_
  refine vo_move_ptr rfl rfl ?_
  refine vo_call [0] Try.func52 rfl rfl rfl rfl rfl rfl rfl (someOps_sat hc (by omega)) ?_
  rintro _ _ ⟨l, q, ⟨hl1, hq⟩, rfl, rfl⟩
  refine ⟨Nat.le_of_ble_eq_true rfl, ⟨rfl, rfl, rfl, rfl⟩, .inl rfl, ?_⟩
  refine vo_stM ?_
  refine vo_move_ptr rfl rfl ?_
  refine vo_buildSlice E50 rfl rfl rfl rfl rfl ?_
  refine vo_stM ?_
  refine vo_expose 2 (by omega) rfl ?_
  refine vo_stM ?_
  refine vo_weaken 10 rfl ?_
  refine vo_stM ?_
  refine vo_call [0] Try.func65 rfl rfl rfl rfl rfl rfl rfl (one_sat (list := [_,_,_,_,_,_]) hc (by omega) (by simp) (by simp)) ?_
  rintro _ _ ⟨z, hz, rfl, rfl⟩
  refine ⟨Nat.le_of_ble_eq_true rfl, ⟨rfl, rfl, rfl, rfl⟩, .inl rfl, ?_⟩
  refine vo_stM ?_
  refine vo_assign_ref rfl rfl ?_
  refine vo_assign_pv rfl rfl ?_
  refine vo_nil ?_
  refine hK3 _ ?_
  refine vc_expose 1 (by omega) rfl ?_
  refine vc_stM ?_
  refine vc_ret ?_
  change retQ _ _ _ _ _
  refine retQ_sel [] (srows := []) (.inr rfl) hC rfl rfl rfl rfl rfl rfl rfl ?_
  exact ⟨l, z, hl1, rfl, rfl⟩


theorem FnPlainPairs_sat {nl : Option Bool} {code : List (Fin 256)} : SatAt Try.prog 7 [.pv false (.sl nl 1 (code.map byteP))] [] (fun res rows => res = [bo true] ∧ rows = []) := by
  refine sat_entry_G (rs := [(2, none)]) Try.func7 rfl rfl (Nat.le_of_ble_eq_true rfl) (Nat.le_of_ble_eq_true rfl) (resTs1 trivial) fun C hC => ?_
  rw [Try.ntmps7]
  replace hC : C.nb = 0 := hC
  refine vc_seq fun K1 hK1 => ?_
  refine vc_region ?_
  refine vo_assign_pv rfl rfl ?_
  refine vo_nil ?_
  refine hK1 _ ?_
  refine vc_seq fun K2 hK2 => ?_
  refine vc_seq fun K3 hK3 => ?_
  refine vc_region ?_
  refine vo_move_pv rfl rfl ?_
  refine vo_len_pv rfl rfl Try.underlying22 ?_
  refine vo_binI rfl rfl rfl rfl trivial ?_
  refine vo_nil ?_
  refine hK3 _ ?_
  refine vc_cond rfl (fun hc1 => ?_) (fun hc1 => ?_)
  · try simp only [decide_eq_true_eq, decide_eq_false_iff_not, beq_iff_eq, bne_iff_ne, beq_eq_false_iff_ne, bne_eq_false_iff_eq, Bool.not_eq_true, Bool.not_eq_false, Bool.not_eq_eq_eq_not, Bool.not_true, Bool.not_false, List.length_map, Int.not_lt, Int.not_le, ne_eq, Decidable.not_not] at hc1
    refine vc_seq fun K4 hK4 => ?_
    refine vc_region ?_
    refine vo_assign_pv rfl rfl ?_
    refine vo_nil ?_
    refine hK4 _ ?_
    refine vc_ret ?_
    change retQ _ _ _ _ _
    refine retQ_sel [] (srows := []) (.inr rfl) hC rfl rfl rfl rfl rfl rfl rfl ?_
    exact ⟨rfl, rfl⟩
  · try simp only [decide_eq_true_eq, decide_eq_false_iff_not, beq_iff_eq, bne_iff_ne, beq_eq_false_iff_ne, bne_eq_false_iff_eq, Bool.not_eq_true, Bool.not_eq_false, Bool.not_eq_eq_eq_not, Bool.not_true, Bool.not_false, List.length_map, Int.not_lt, Int.not_le, ne_eq, Decidable.not_not] at hc1
    have hlen : code.length ≤ 1048576 := by omega
    refine vc_skip ?_
    refine hK2 _ ?_
    refine vc_seq fun K5 hK5 => ?_
    refine vc_region ?_
    refine vo_move_pv rfl rfl ?_
    refine vo_call0 Try.func27 rfl rfl rfl rfl (DrawPlainPairs_sat (by omega)) ?_
    rintro _ _ ⟨list, who, hl1, rfl, rfl⟩
    refine ⟨rfl, rfl, .inl rfl, ?_⟩
    refine vo_stM ?_
    refine vo_move rfl ?_
    refine vo_stM ?_
    refine vo_extract rfl rfl rfl ?_
    refine vo_extract rfl rfl rfl ?_
    refine vo_assign_pv rfl rfl ?_
    refine vo_assign_pv rfl rfl ?_
    refine vo_nil ?_
    refine hK5 _ ?_
    refine vc_seq fun K6 hK6 => ?_
    refine vc_region ?_
    refine vo_move_pv rfl rfl ?_
    refine vo_move_pv rfl rfl ?_
    refine vo_call [] Try.func28 rfl rfl rfl rfl rfl rfl rfl (implPlainPairs_sat (by omega)) ?_
    rintro _ _ ⟨nlg, rfl, rfl⟩
    refine ⟨Nat.le_of_ble_eq_true rfl, ⟨rfl, rfl, rfl, rfl⟩, .inl rfl, ?_⟩
    refine vo_stM ?_
    refine vo_expose 0 (by omega) rfl ?_
    refine vo_stM ?_
    refine vo_weaken 21 rfl ?_
    refine vo_stM ?_
    refine vo_assign_pv rfl rfl ?_
    refine vo_nil ?_
    refine hK6 _ ?_
    refine vc_seq fun K7 hK7 => ?_
    refine vc_seq fun K8 hK8 => ?_
    refine vc_region ?_
    refine vo_move_pv rfl rfl ?_
    refine vo_move_pv rfl rfl ?_
    refine vo_move_pv rfl rfl ?_
    refine vo_call0 Try.func30 rfl rfl rfl rfl (specPlainPairs_sat (by omega)) ?_
    rintro _ _ ⟨nlw, rfl, rfl⟩
    refine ⟨rfl, rfl, .inl rfl, ?_⟩
    refine vo_stM ?_
    refine vo_call0 Try.func29 rfl rfl rfl rfl (equalPairs_sat (by have := plp_len list who; omega) (by have := plp_len list who; omega)) ?_
    rintro _ _ ⟨rfl, rfl⟩
    refine ⟨rfl, rfl, .inl rfl, ?_⟩
    refine vo_stM ?_
    refine vo_not rfl rfl ?_
    refine vo_move_pv rfl rfl ?_
    refine vo_split 28 rfl (fun hg2 => ?_) (fun hg2 => ?_)
    · try simp only [decide_eq_true_eq, decide_eq_false_iff_not, beq_iff_eq, bne_iff_ne, beq_eq_false_iff_ne, bne_eq_false_iff_eq, Bool.not_eq_true, Bool.not_eq_false, Bool.not_eq_eq_eq_not, Bool.not_true, Bool.not_false, List.length_map, Int.not_lt, Int.not_le, ne_eq, Decidable.not_not] at hg2
      refine vo_guard_off rfl rfl rfl rfl rfl ?_
      refine vo_guard_off rfl rfl rfl rfl rfl ?_
      refine vo_guard_off rfl rfl rfl rfl rfl ?_
      refine vo_pick_t rfl rfl ?_
      refine vo_move_pv rfl rfl ?_
      refine vo_guard_off rfl rfl rfl rfl rfl ?_
      refine vo_guard_off rfl rfl rfl rfl rfl ?_
      refine vo_pick_t rfl rfl ?_
      refine vo_move_pv rfl rfl ?_
      refine vo_guard_off rfl rfl rfl rfl rfl ?_
      refine vo_guard_off rfl rfl rfl rfl rfl ?_
      refine vo_pick_t rfl rfl ?_
      refine vo_nil ?_
      refine hK8 _ ?_
      refine vc_cond_t rfl ?_
      refine vc_seq fun K9 hK9 => ?_
      refine vc_region ?_
      refine vo_move_pv rfl rfl ?_
      refine vo_move_pv rfl rfl ?_
      refine vo_move_pv rfl rfl ?_
      refine vo_call0 Try.func30 rfl rfl rfl rfl (specPlainPairs_sat (by omega)) ?_
      rintro _ _ ⟨nlw, rfl, rfl⟩
      refine ⟨rfl, rfl, .inl rfl, ?_⟩
      refine vo_stM ?_
      refine vo_call0 Try.func29 rfl rfl rfl rfl (equalPairs_sat (by have := plp_len list who; omega) (by have := plp_len list who; omega)) ?_
      rintro _ _ ⟨rfl, rfl⟩
      refine ⟨rfl, rfl, .inl rfl, ?_⟩
      refine vo_stM ?_
      refine vo_assign_pv rfl rfl ?_
      refine vo_nil ?_
      refine hK9 _ ?_
      refine vc_ret ?_
      change retQ _ _ _ _ _
      refine retQ_sel [] (srows := []) (.inr rfl) hC rfl rfl rfl rfl rfl rfl rfl ?_
      first
        | exact absurd trivial ‹¬True›
        | (refine ⟨(congrArg (fun b => [bo b]) (?_ : _ = true) : [bo _] = [bo true]), rfl⟩; simp; done)
        | (rcases hend with ⟨h1, h2⟩ | ⟨h1, h2⟩
           · first
               | (exfalso; omega)
               | (exfalso; apply hg15; rw [h2]; rfl)
               | exact ⟨rfl, rfl⟩
               | (refine ⟨(congrArg (fun b => [bo b]) (?_ : _ = true) : [bo _] = [bo true]), rfl⟩; simp [h2]; done)
           · first
               | (exfalso; omega)
               | (refine ⟨(congrArg (fun b => [bo b]) (?_ : _ = true) : [bo _] = [bo true]), rfl⟩
                  cases mb <;> cases hgo : (list.getD z.toNat ⟨0, 0, 0, false⟩).gone <;> simp_all <;> done))
        | (trace_state; skip)
    · try simp only [decide_eq_true_eq, decide_eq_false_iff_not, beq_iff_eq, bne_iff_ne, beq_eq_false_iff_ne, bne_eq_false_iff_eq, Bool.not_eq_true, Bool.not_eq_false, Bool.not_eq_eq_eq_not, Bool.not_true, Bool.not_false, List.length_map, Int.not_lt, Int.not_le, ne_eq, Decidable.not_not] at hg2
      refine vo_guard_on rfl rfl rfl ?_
      refine vo_move_pv rfl rfl ?_
      refine vo_guard_on rfl rfl rfl ?_
      refine vo_call0 Try.func16 rfl rfl rfl rfl (implValidOps_sat (by omega)) ?_
      rintro _ _ ⟨rfl, rfl⟩
      refine ⟨rfl, rfl, .inl rfl, ?_⟩
      refine vo_stM ?_
      refine vo_guard_on rfl rfl rfl ?_
      refine vo_not rfl rfl ?_
      refine vo_pick_f rfl rfl ?_
      refine vo_move_pv rfl rfl ?_
      refine vo_split 33 rfl (fun hg3 => ?_) (fun hg3 => ?_)
      · try simp only [decide_eq_true_eq, decide_eq_false_iff_not, beq_iff_eq, bne_iff_ne, beq_eq_false_iff_ne, bne_eq_false_iff_eq, Bool.not_eq_true, Bool.not_eq_false, Bool.not_eq_eq_eq_not, Bool.not_true, Bool.not_false, List.length_map, Int.not_lt, Int.not_le, ne_eq, Decidable.not_not] at hg3
        refine vo_guard_off rfl rfl rfl rfl rfl ?_
        refine vo_guard_off rfl rfl rfl rfl rfl ?_
        refine vo_pick_t rfl rfl ?_
        refine vo_move_pv rfl rfl ?_
        refine vo_guard_off rfl rfl rfl rfl rfl ?_
        refine vo_guard_off rfl rfl rfl rfl rfl ?_
        refine vo_pick_t rfl rfl ?_
        refine vo_nil ?_
        refine hK8 _ ?_
        refine vc_cond_t rfl ?_
        refine vc_seq fun K10 hK10 => ?_
        refine vc_region ?_
        refine vo_move_pv rfl rfl ?_
        refine vo_move_pv rfl rfl ?_
        refine vo_move_pv rfl rfl ?_
        refine vo_call0 Try.func30 rfl rfl rfl rfl (specPlainPairs_sat (by omega)) ?_
        rintro _ _ ⟨nlw, rfl, rfl⟩
        refine ⟨rfl, rfl, .inl rfl, ?_⟩
        refine vo_stM ?_
        refine vo_call0 Try.func29 rfl rfl rfl rfl (equalPairs_sat (by have := plp_len list who; omega) (by have := plp_len list who; omega)) ?_
        rintro _ _ ⟨rfl, rfl⟩
        refine ⟨rfl, rfl, .inl rfl, ?_⟩
        refine vo_stM ?_
        refine vo_assign_pv rfl rfl ?_
        refine vo_nil ?_
        refine hK10 _ ?_
        refine vc_ret ?_
        change retQ _ _ _ _ _
        refine retQ_sel [] (srows := []) (.inr rfl) hC rfl rfl rfl rfl rfl rfl rfl ?_
        first
          | exact absurd trivial ‹¬True›
          | (refine ⟨(congrArg (fun b => [bo b]) (?_ : _ = true) : [bo _] = [bo true]), rfl⟩; simp; done)
          | (rcases hend with ⟨h1, h2⟩ | ⟨h1, h2⟩
             · first
                 | (exfalso; omega)
                 | (exfalso; apply hg15; rw [h2]; rfl)
                 | exact ⟨rfl, rfl⟩
                 | (refine ⟨(congrArg (fun b => [bo b]) (?_ : _ = true) : [bo _] = [bo true]), rfl⟩; simp [h2]; done)
             · first
                 | (exfalso; omega)
                 | (refine ⟨(congrArg (fun b => [bo b]) (?_ : _ = true) : [bo _] = [bo true]), rfl⟩
                    cases mb <;> cases hgo : (list.getD z.toNat ⟨0, 0, 0, false⟩).gone <;> simp_all <;> done))
          | (trace_state; skip)
      · try simp only [decide_eq_true_eq, decide_eq_false_iff_not, beq_iff_eq, bne_iff_ne, beq_eq_false_iff_ne, bne_eq_false_iff_eq, Bool.not_eq_true, Bool.not_eq_false, Bool.not_eq_eq_eq_not, Bool.not_true, Bool.not_false, List.length_map, Int.not_lt, Int.not_le, ne_eq, Decidable.not_not] at hg3
        refine vo_guard_on rfl rfl rfl ?_
        refine vo_move_pv rfl rfl ?_
        refine vo_guard_on rfl rfl rfl ?_
        refine vo_binI rfl rfl rfl rfl trivial ?_
        refine vo_pick_f rfl rfl ?_
        refine vo_move_pv rfl rfl ?_
        refine vo_split 37 rfl (fun hg4 => ?_) (fun hg4 => ?_)
        · try simp only [decide_eq_true_eq, decide_eq_false_iff_not, beq_iff_eq, bne_iff_ne, beq_eq_false_iff_ne, bne_eq_false_iff_eq, Bool.not_eq_true, Bool.not_eq_false, Bool.not_eq_eq_eq_not, Bool.not_true, Bool.not_false, List.length_map, Int.not_lt, Int.not_le, ne_eq, Decidable.not_not] at hg4
          refine vo_guard_off rfl rfl rfl rfl rfl ?_
          refine vo_guard_off rfl rfl rfl rfl rfl ?_
          refine vo_pick_t rfl rfl ?_
          refine vo_nil ?_
          refine hK8 _ ?_
          refine vc_cond_t rfl ?_
          refine vc_seq fun K11 hK11 => ?_
          refine vc_region ?_
          refine vo_move_pv rfl rfl ?_
          refine vo_move_pv rfl rfl ?_
          refine vo_move_pv rfl rfl ?_
          refine vo_call0 Try.func30 rfl rfl rfl rfl (specPlainPairs_sat (by omega)) ?_
          rintro _ _ ⟨nlw, rfl, rfl⟩
          refine ⟨rfl, rfl, .inl rfl, ?_⟩
          refine vo_stM ?_
          refine vo_call0 Try.func29 rfl rfl rfl rfl (equalPairs_sat (by have := plp_len list who; omega) (by have := plp_len list who; omega)) ?_
          rintro _ _ ⟨rfl, rfl⟩
          refine ⟨rfl, rfl, .inl rfl, ?_⟩
          refine vo_stM ?_
          refine vo_assign_pv rfl rfl ?_
          refine vo_nil ?_
          refine hK11 _ ?_
          refine vc_ret ?_
          change retQ _ _ _ _ _
          refine retQ_sel [] (srows := []) (.inr rfl) hC rfl rfl rfl rfl rfl rfl rfl ?_
          first
            | exact absurd trivial ‹¬True›
            | (refine ⟨(congrArg (fun b => [bo b]) (?_ : _ = true) : [bo _] = [bo true]), rfl⟩; simp; done)
            | (rcases hend with ⟨h1, h2⟩ | ⟨h1, h2⟩
               · first
                   | (exfalso; omega)
                   | (exfalso; apply hg15; rw [h2]; rfl)
                   | exact ⟨rfl, rfl⟩
                   | (refine ⟨(congrArg (fun b => [bo b]) (?_ : _ = true) : [bo _] = [bo true]), rfl⟩; simp [h2]; done)
               · first
                   | (exfalso; omega)
                   | (refine ⟨(congrArg (fun b => [bo b]) (?_ : _ = true) : [bo _] = [bo true]), rfl⟩
                      cases mb <;> cases hgo : (list.getD z.toNat ⟨0, 0, 0, false⟩).gone <;> simp_all <;> done))
            | (trace_state; skip)
        · try simp only [decide_eq_true_eq, decide_eq_false_iff_not, beq_iff_eq, bne_iff_ne, beq_eq_false_iff_ne, bne_eq_false_iff_eq, Bool.not_eq_true, Bool.not_eq_false, Bool.not_eq_eq_eq_not, Bool.not_true, Bool.not_false, List.length_map, Int.not_lt, Int.not_le, ne_eq, Decidable.not_not] at hg4
          refine vo_guard_on rfl rfl rfl ?_
          refine vo_move_pv rfl rfl ?_
          refine vo_guard_on rfl rfl rfl ?_
          refine vo_binI rfl rfl rfl rfl trivial ?_
          refine vo_pick_f rfl rfl ?_
          refine vo_nil ?_
          refine hK8 _ ?_
          refine vc_cond rfl (fun hc5 => ?_) (fun hc5 => ?_)
          · try simp only [decide_eq_true_eq, decide_eq_false_iff_not, beq_iff_eq, bne_iff_ne, beq_eq_false_iff_ne, bne_eq_false_iff_eq, Bool.not_eq_true, Bool.not_eq_false, Bool.not_eq_eq_eq_not, Bool.not_true, Bool.not_false, List.length_map, Int.not_lt, Int.not_le, ne_eq, Decidable.not_not] at hc5
            refine vc_seq fun K12 hK12 => ?_
            refine vc_region ?_
            refine vo_move_pv rfl rfl ?_
            refine vo_move_pv rfl rfl ?_
            refine vo_move_pv rfl rfl ?_
            refine vo_call0 Try.func30 rfl rfl rfl rfl (specPlainPairs_sat (by omega)) ?_
            rintro _ _ ⟨nlw, rfl, rfl⟩
            refine ⟨rfl, rfl, .inl rfl, ?_⟩
            refine vo_stM ?_
            refine vo_call0 Try.func29 rfl rfl rfl rfl (equalPairs_sat (by have := plp_len list who; omega) (by have := plp_len list who; omega)) ?_
            rintro _ _ ⟨rfl, rfl⟩
            refine ⟨rfl, rfl, .inl rfl, ?_⟩
            refine vo_stM ?_
            refine vo_assign_pv rfl rfl ?_
            refine vo_nil ?_
            refine hK12 _ ?_
            refine vc_ret ?_
            change retQ _ _ _ _ _
            refine retQ_sel [] (srows := []) (.inr rfl) hC rfl rfl rfl rfl rfl rfl rfl ?_
            first
              | exact absurd trivial ‹¬True›
              | (refine ⟨(congrArg (fun b => [bo b]) (?_ : _ = true) : [bo _] = [bo true]), rfl⟩; simp; done)
              | (rcases hend with ⟨h1, h2⟩ | ⟨h1, h2⟩
                 · first
                     | (exfalso; omega)
                     | (exfalso; apply hg15; rw [h2]; rfl)
                     | exact ⟨rfl, rfl⟩
                     | (refine ⟨(congrArg (fun b => [bo b]) (?_ : _ = true) : [bo _] = [bo true]), rfl⟩; simp [h2]; done)
                 · first
                     | (exfalso; omega)
                     | (refine ⟨(congrArg (fun b => [bo b]) (?_ : _ = true) : [bo _] = [bo true]), rfl⟩
                        cases mb <;> cases hgo : (list.getD z.toNat ⟨0, 0, 0, false⟩).gone <;> simp_all <;> done))
              | (trace_state; skip)
          · try simp only [decide_eq_true_eq, decide_eq_false_iff_not, beq_iff_eq, bne_iff_ne, beq_eq_false_iff_ne, bne_eq_false_iff_eq, Bool.not_eq_true, Bool.not_eq_false, Bool.not_eq_eq_eq_not, Bool.not_true, Bool.not_false, List.length_map, Int.not_lt, Int.not_le, ne_eq, Decidable.not_not] at hc5
            have hV : VOps list ∧ 0 ≤ who ∧ who ≤ 3 := ⟨hg3, hg4, by omega⟩
            have e : plp list who = plpK list who list.length := by unfold plp; rw [if_pos hV]
            have hnd : (nms (plp list who)).Nodup := by rw [e]; exact plpK_nodup list who _ (Nat.le_refl _)
            have hpl := plp_len list who
            refine vc_skip ?_
            refine hK7 _ ?_
            refine vc_seq fun K13 hK13 => ?_
            refine vc_region ?_
            refine vo_assign_pv rfl rfl ?_
            refine vo_nil ?_
            refine hK13 _ ?_
            refine vc_seq fun K14 hK14 => ?_
            refine vc_seq fun K15 hK15 => ?_
            refine vc_region ?_
            refine vo_assign_pv rfl rfl ?_
            refine vo_nil ?_
            refine hK15 _ ?_
            refine vc_block ?_
            refine vc_stM ?_
            refine vc_loopE [3, 4, 5] [6, 7] [] _ _ (fun mz vs rs => ∃ (k : Nat) (z : Int), mz = list.length - k ∧ (k ≤ list.length) ∧ (LastP list who z k) ∧ vs = [i64 z, i64 k] ∧ rs = []) (list.length) rfl rfl (le_len hC rfl) ⟨rfl, rfl, rfl⟩ rfl ⟨0, -1, rfl, Nat.zero_le _, (.inl ⟨rfl, rfl⟩), rfl, rfl⟩ ?_
            rintro mz vs rs - - ⟨k, z, rfl, hk, hL, rfl, rfl⟩
            refine vc_stM ?_
            refine vc_seq fun K16 hK16 => ?_
            refine vc_seq fun K17 hK17 => ?_
            refine vc_region ?_
            refine vo_move_pv rfl rfl ?_
            refine vo_move_pv rfl rfl ?_
            refine vo_len_pv rfl rfl Try.underlying23 ?_
            refine vo_binI rfl rfl rfl rfl trivial ?_
            refine vo_nil ?_
            refine hK17 _ ?_
            refine vc_cond rfl (fun hc6 => ?_) (fun hc6 => ?_)
            · try simp only [decide_eq_true_eq, decide_eq_false_iff_not, beq_iff_eq, bne_iff_ne, beq_eq_false_iff_ne, bne_eq_false_iff_eq, Bool.not_eq_true, Bool.not_eq_false, Bool.not_eq_eq_eq_not, Bool.not_true, Bool.not_false, List.length_map, Int.not_lt, Int.not_le, ne_eq, Decidable.not_not] at hc6
              refine vc_skip ?_
              refine hK16 _ ?_
              refine vc_seq fun K18 hK18 => ?_
              refine vc_block ?_
              refine vc_seq fun K19 hK19 => ?_
              refine vc_region ?_
              refine vo_move_pv rfl rfl ?_
              refine vo_move_pv rfl rfl ?_
              refine vo_index_pv (.agg [(.int .i64 0), (.int .i64 0), (.int .i64 0), (.bool false)]) rfl rfl rfl E23.und inf46 sz46 sd sd ?_
              simp only [Int.toNat_natCast, Int.toNat_zero, getD_ints, getD_intss, getD_bools, getD_bytes, PV.cells, getD_ops, getD_pairs, getD_insts]
              refine vo_fieldAddr_adr rfl rfl Try.underlying46 rfl inf3 (by rw [sz3]; decide) ?_
              refine vo_load_adr rfl rfl Try.underlying3 rfl ?_
              refine vo_move_pv rfl rfl ?_
              refine vo_binI rfl rfl rfl rfl trivial ?_
              refine vo_nil ?_
              refine hK19 _ ?_
              refine vc_cond rfl (fun hc7 => ?_) (fun hc7 => ?_)
              · try simp only [decide_eq_true_eq, decide_eq_false_iff_not, beq_iff_eq, bne_iff_ne, beq_eq_false_iff_ne, bne_eq_false_iff_eq, Bool.not_eq_true, Bool.not_eq_false, Bool.not_eq_eq_eq_not, Bool.not_true, Bool.not_false, List.length_map, Int.not_lt, Int.not_le, ne_eq, Decidable.not_not] at hc7
                refine vc_region ?_
                refine vo_move_pv rfl rfl ?_
                refine vo_assign_pv rfl rfl ?_
                refine vo_nil ?_
                refine hK18 _ ?_
                refine vc_region ?_
                refine vo_move_pv rfl rfl ?_
                refine vo_binI rfl rfl rfl rfl sd ?_
                refine vo_assign_pv rfl rfl ?_
                refine vo_nil ?_
                change againE _ _ _ _ _ _ _ _ _ _
                refine againE_mk rfl rfl rfl rfl rfl rfl ⟨_, ?_, k + 1, k, rfl, ?_, ?_, rfl, rfl⟩
                · omega
                · omega
                · exact .yes (by omega) (by assumption)
              · try simp only [decide_eq_true_eq, decide_eq_false_iff_not, beq_iff_eq, bne_iff_ne, beq_eq_false_iff_ne, bne_eq_false_iff_eq, Bool.not_eq_true, Bool.not_eq_false, Bool.not_eq_eq_eq_not, Bool.not_true, Bool.not_false, List.length_map, Int.not_lt, Int.not_le, ne_eq, Decidable.not_not] at hc7
                refine vc_skip ?_
                refine hK18 _ ?_
                refine vc_region ?_
                refine vo_move_pv rfl rfl ?_
                refine vo_binI rfl rfl rfl rfl sd ?_
                refine vo_assign_pv rfl rfl ?_
                refine vo_nil ?_
                change againE _ _ _ _ _ _ _ _ _ _
                refine againE_mk rfl rfl rfl rfl rfl rfl ⟨_, ?_, k + 1, z, rfl, ?_, ?_, rfl, rfl⟩
                · omega
                · omega
                · exact hL.no (by omega) (by assumption)
            · try simp only [decide_eq_true_eq, decide_eq_false_iff_not, beq_iff_eq, bne_iff_ne, beq_eq_false_iff_ne, bne_eq_false_iff_eq, Bool.not_eq_true, Bool.not_eq_false, Bool.not_eq_eq_eq_not, Bool.not_true, Bool.not_false, List.length_map, Int.not_lt, Int.not_le, ne_eq, Decidable.not_not] at hc6
              have hLz : LastP list who z list.length := by
                have h9 : k = list.length := by omega
                rw [← h9]; exact hL
              have hzb : z < list.length ∧ -1 ≤ z := by rcases hLz with h | ⟨j, h1, h2, _⟩ <;> omega
              refine vc_exit ?_
              refine hK14 _ ?_
              refine vc_seq fun K20 hK20 => ?_
              refine vc_region ?_
              refine vo_assign_pv rfl rfl ?_
              refine vo_nil ?_
              refine hK20 _ ?_
              refine vc_seq fun K21 hK21 => ?_
              refine vc_seq fun K22 hK22 => ?_
              refine vc_region ?_
              refine vo_assign_pv rfl rfl ?_
              refine vo_nil ?_
              refine hK22 _ ?_
              refine vc_block ?_
              refine vc_stM ?_
              refine vc_loopE [3, 5, 6] [8, 9] [] _ _ (fun mz vs rs => ∃ (i : Nat) (mb : Bool), mz = (plp list who).length - i ∧ (i ≤ (plp list who).length) ∧ ((mb = true ↔ 0 ≤ z ∧ ((list.getD z.toNat ⟨0, 0, 0, false⟩).name, (list.getD z.toNat ⟨0, 0, 0, false⟩).value) ∈ (plp list who).take i)) ∧ vs = [bo mb, i64 i] ∧ rs = []) ((plp list who).length) rfl rfl (le_len hC rfl) ⟨rfl, rfl, rfl⟩ rfl ⟨0, false, rfl, Nat.zero_le _, (by simp), rfl, rfl⟩ ?_
              rintro mz vs rs - - ⟨i, mb, rfl, hi, hm, rfl, rfl⟩
              refine vc_stM ?_
              refine vc_seq fun K23 hK23 => ?_
              refine vc_seq fun K24 hK24 => ?_
              refine vc_region ?_
              refine vo_move_pv rfl rfl ?_
              refine vo_move_pv rfl rfl ?_
              refine vo_len_pv rfl rfl Try.underlying32 ?_
              refine vo_binI rfl rfl rfl rfl trivial ?_
              refine vo_nil ?_
              refine hK24 _ ?_
              refine vc_cond rfl (fun hc8 => ?_) (fun hc8 => ?_)
              · try simp only [decide_eq_true_eq, decide_eq_false_iff_not, beq_iff_eq, bne_iff_ne, beq_eq_false_iff_ne, bne_eq_false_iff_eq, Bool.not_eq_true, Bool.not_eq_false, Bool.not_eq_eq_eq_not, Bool.not_true, Bool.not_false, List.length_map, Int.not_lt, Int.not_le, ne_eq, Decidable.not_not] at hc8
                refine vc_skip ?_
                refine hK23 _ ?_
                refine vc_seq fun K25 hK25 => ?_
                refine vc_block ?_
                refine vc_seq fun K26 hK26 => ?_
                refine vc_seq fun K27 hK27 => ?_
                refine vc_region ?_
                refine vo_assign_pv rfl rfl ?_
                refine vo_nil ?_
                refine hK27 _ ?_
                refine vc_block ?_
                refine vc_stM ?_
                refine vc_loopE [3, 5, 6, 8, 9] [10] [] _ _ (fun mz vs rs => ∃ (q : Nat), mz = i - q ∧ (q ≤ i) ∧ vs = [i64 q] ∧ rs = []) (i) rfl rfl (le_len hC rfl) ⟨rfl, rfl, rfl⟩ rfl ⟨0, rfl, Nat.zero_le _, rfl, rfl⟩ ?_
                rintro mz vs rs - - ⟨q, rfl, hq, rfl, rfl⟩
                refine vc_stM ?_
                refine vc_seq fun K28 hK28 => ?_
                refine vc_seq fun K29 hK29 => ?_
                refine vc_region ?_
                refine vo_move_pv rfl rfl ?_
                refine vo_move_pv rfl rfl ?_
                refine vo_binI rfl rfl rfl rfl trivial ?_
                refine vo_nil ?_
                refine hK29 _ ?_
                refine vc_cond rfl (fun hc9 => ?_) (fun hc9 => ?_)
                · try simp only [decide_eq_true_eq, decide_eq_false_iff_not, beq_iff_eq, bne_iff_ne, beq_eq_false_iff_ne, bne_eq_false_iff_eq, Bool.not_eq_true, Bool.not_eq_false, Bool.not_eq_eq_eq_not, Bool.not_true, Bool.not_false, List.length_map, Int.not_lt, Int.not_le, ne_eq, Decidable.not_not] at hc9
                  refine vc_skip ?_
                  refine hK28 _ ?_
                  refine vc_seq fun K30 hK30 => ?_
                  refine vc_block ?_
                  refine vc_seq fun K31 hK31 => ?_
                  refine vc_draw (by kernel_rfl) ?_
                  change VD _ _ _ 11 _ _ _
                  refine vd_light 0 rfl rfl rfl (by kernel_rfl) (by kernel_rfl) (by kernel_rfl) (wnt_none rfl) (lt_move_pv rfl) ?_
                  refine vd_light 1 rfl rfl rfl (by kernel_rfl) (by kernel_rfl) (by kernel_rfl) (wnt_none rfl) (lt_move_pv rfl) ?_
                  refine vd_light 2 rfl rfl rfl (by kernel_rfl) (by kernel_rfl) (by kernel_rfl) (wnt_none rfl) (lt_index_pv (.agg [(.int .i64 0), (.int .i64 0)]) rfl rfl E32.und inf37 sz37 sd sd) ?_
                  simp only [Int.toNat_natCast, Int.toNat_zero, getD_ints, getD_intss, getD_bools, getD_bytes, PV.cells, getD_ops, getD_pairs, getD_insts]
                  refine vd_light 3 rfl rfl rfl (by kernel_rfl) (by kernel_rfl) (by kernel_rfl) (wnt_none rfl) (lt_fieldAddr_adr rfl Try.underlying37 rfl inf3 (by rw [sz3]; decide)) ?_
                  refine vd_light 4 rfl rfl rfl (by kernel_rfl) (by kernel_rfl) (by kernel_rfl) (wnt_none rfl) (lt_load_adr rfl Try.underlying3 rfl) ?_
                  refine vd_light 5 rfl rfl rfl (by kernel_rfl) (by kernel_rfl) (by kernel_rfl) (wnt_none rfl) (lt_move_pv rfl) ?_
                  refine vd_light 6 rfl rfl rfl (by kernel_rfl) (by kernel_rfl) (by kernel_rfl) (wnt_none rfl) (lt_move_pv rfl) ?_
                  refine vd_light 7 rfl rfl rfl (by kernel_rfl) (by kernel_rfl) (by kernel_rfl) (wnt_none rfl) (lt_index_pv (.agg [(.int .i64 0), (.int .i64 0)]) rfl rfl E32.und inf37 sz37 sd sd) ?_
                  simp only [Int.toNat_natCast, Int.toNat_zero, getD_ints, getD_intss, getD_bools, getD_bytes, PV.cells, getD_ops, getD_pairs, getD_insts]
                  refine vd_light 8 rfl rfl rfl (by kernel_rfl) (by kernel_rfl) (by kernel_rfl) (wnt_none rfl) (lt_fieldAddr_adr rfl Try.underlying37 rfl inf3 (by rw [sz3]; decide)) ?_
                  refine vd_light 9 rfl rfl rfl (by kernel_rfl) (by kernel_rfl) (by kernel_rfl) (wnt_none rfl) (lt_load_adr rfl Try.underlying3 rfl) ?_
                  refine vd_light 10 rfl rfl rfl (by kernel_rfl) (by kernel_rfl) (by kernel_rfl) (wnt_none rfl) (lt_binI rfl rfl rfl trivial) ?_
                  refine vd_nil (by kernel_rfl) ?_
                  refine hK31 _ ?_
                  refine vc_cond rfl (fun hc10 => ?_) (fun hc10 => ?_)
                  · try simp only [decide_eq_true_eq, decide_eq_false_iff_not, beq_iff_eq, bne_iff_ne, beq_eq_false_iff_ne, bne_eq_false_iff_eq, Bool.not_eq_true, Bool.not_eq_false, Bool.not_eq_eq_eq_not, Bool.not_true, Bool.not_false, List.length_map, Int.not_lt, Int.not_le, ne_eq, Decidable.not_not] at hc10
                    exact absurd hc10 (nodup_ne hnd (show q < i by omega) (by omega))
                  · try simp only [decide_eq_true_eq, decide_eq_false_iff_not, beq_iff_eq, bne_iff_ne, beq_eq_false_iff_ne, bne_eq_false_iff_eq, Bool.not_eq_true, Bool.not_eq_false, Bool.not_eq_eq_eq_not, Bool.not_true, Bool.not_false, List.length_map, Int.not_lt, Int.not_le, ne_eq, Decidable.not_not] at hc10
                    refine vc_skip ?_
                    refine hK30 _ ?_
                    refine vc_region ?_
                    refine vo_move_pv rfl rfl ?_
                    refine vo_binI rfl rfl rfl rfl sd ?_
                    refine vo_assign_pv rfl rfl ?_
                    refine vo_nil ?_
                    change againE _ _ _ _ _ _ _ _ _ _
                    refine againE_mk rfl rfl rfl rfl rfl rfl ⟨_, ?_, q + 1, rfl, ?_, rfl, rfl⟩
                    · omega
                    · omega
                · try simp only [decide_eq_true_eq, decide_eq_false_iff_not, beq_iff_eq, bne_iff_ne, beq_eq_false_iff_ne, bne_eq_false_iff_eq, Bool.not_eq_true, Bool.not_eq_false, Bool.not_eq_eq_eq_not, Bool.not_true, Bool.not_false, List.length_map, Int.not_lt, Int.not_le, ne_eq, Decidable.not_not] at hc9
                  refine vc_exit ?_
                  refine hK26 _ ?_
                  refine vc_draw (by kernel_rfl) ?_
                  change VD _ _ _ 32 _ _ _
                  refine vd_light 0 rfl rfl rfl (by kernel_rfl) (by kernel_rfl) (by kernel_rfl) (wnt_none rfl) (lt_move_pv rfl) ?_
                  refine vd_light 1 rfl rfl rfl (by kernel_rfl) (by kernel_rfl) (by kernel_rfl) (wnt_none rfl) (lt_move_pv rfl) ?_
                  refine vd_split 83 rfl (fun hg11 => ?_) (fun hg11 => ?_)
                  · try simp only [decide_eq_true_eq, decide_eq_false_iff_not, beq_iff_eq, bne_iff_ne, beq_eq_false_iff_ne, bne_eq_false_iff_eq, Bool.not_eq_true, Bool.not_eq_false, Bool.not_eq_eq_eq_not, Bool.not_true, Bool.not_false, List.length_map, Int.not_lt, Int.not_le, ne_eq, Decidable.not_not] at hg11
                    refine vd_skip 2 rfl rfl rfl (by kernel_rfl) (by kernel_rfl) (by kernel_rfl) (wnt_off rfl rfl rfl rfl rfl) ?_
                    refine vd_skip 3 rfl rfl rfl (by kernel_rfl) (by kernel_rfl) (by kernel_rfl) (wnt_off rfl rfl rfl rfl rfl) ?_
                    refine vd_skip 4 rfl rfl rfl (by kernel_rfl) (by kernel_rfl) (by kernel_rfl) (wnt_off rfl rfl rfl rfl rfl) ?_
                    refine vd_skip 5 rfl rfl rfl (by kernel_rfl) (by kernel_rfl) (by kernel_rfl) (wnt_und rfl rfl rfl rfl) ?_
                    refine vd_skip 6 rfl rfl rfl (by kernel_rfl) (by kernel_rfl) (by kernel_rfl) (wnt_und rfl rfl rfl rfl) ?_
                    refine vd_skip 7 rfl rfl rfl (by kernel_rfl) (by kernel_rfl) (by kernel_rfl) (wnt_und rfl rfl rfl rfl) ?_
                    refine vd_skip 8 rfl rfl rfl (by kernel_rfl) (by kernel_rfl) (by kernel_rfl) (wnt_und rfl rfl rfl rfl) ?_
                    refine vd_skip 9 rfl rfl rfl (by kernel_rfl) (by kernel_rfl) (by kernel_rfl) (wnt_und rfl rfl rfl rfl) ?_
                    refine vd_skip 10 rfl rfl rfl (by kernel_rfl) (by kernel_rfl) (by kernel_rfl) (wnt_und rfl rfl rfl rfl) ?_
                    refine vd_skip 11 rfl rfl rfl (by kernel_rfl) (by kernel_rfl) (by kernel_rfl) (wnt_und rfl rfl rfl rfl) ?_
                    refine vd_skip 12 rfl rfl rfl (by kernel_rfl) (by kernel_rfl) (by kernel_rfl) (wnt_und rfl rfl rfl rfl) ?_
                    refine vd_skip 13 rfl rfl rfl (by kernel_rfl) (by kernel_rfl) (by kernel_rfl) (wnt_und rfl rfl rfl rfl) ?_
                    refine vd_skip 14 rfl rfl rfl (by kernel_rfl) (by kernel_rfl) (by kernel_rfl) (wnt_und rfl rfl rfl rfl) ?_
                    refine vd_skip 15 rfl rfl rfl (by kernel_rfl) (by kernel_rfl) (by kernel_rfl) (wnt_und rfl rfl rfl rfl) ?_
                    refine vd_skip 16 rfl rfl rfl (by kernel_rfl) (by kernel_rfl) (by kernel_rfl) (wnt_off rfl rfl rfl rfl rfl) ?_
                    refine vd_skip 17 rfl rfl rfl (by kernel_rfl) (by kernel_rfl) (by kernel_rfl) (wnt_off rfl rfl rfl rfl rfl) ?_
                    refine vd_skip 18 rfl rfl rfl (by kernel_rfl) (by kernel_rfl) (by kernel_rfl) (wnt_und rfl rfl rfl rfl) ?_
                    refine vd_skip 19 rfl rfl rfl (by kernel_rfl) (by kernel_rfl) (by kernel_rfl) (wnt_und rfl rfl rfl rfl) ?_
                    refine vd_skip 20 rfl rfl rfl (by kernel_rfl) (by kernel_rfl) (by kernel_rfl) (wnt_und rfl rfl rfl rfl) ?_
                    refine vd_skip 21 rfl rfl rfl (by kernel_rfl) (by kernel_rfl) (by kernel_rfl) (wnt_und rfl rfl rfl rfl) ?_
                    refine vd_skip 22 rfl rfl rfl (by kernel_rfl) (by kernel_rfl) (by kernel_rfl) (wnt_und rfl rfl rfl rfl) ?_
                    refine vd_skip 23 rfl rfl rfl (by kernel_rfl) (by kernel_rfl) (by kernel_rfl) (wnt_und rfl rfl rfl rfl) ?_
                    refine vd_skip 24 rfl rfl rfl (by kernel_rfl) (by kernel_rfl) (by kernel_rfl) (wnt_und rfl rfl rfl rfl) ?_
                    refine vd_skip 25 rfl rfl rfl (by kernel_rfl) (by kernel_rfl) (by kernel_rfl) (wnt_und rfl rfl rfl rfl) ?_
                    refine vd_skip 26 rfl rfl rfl (by kernel_rfl) (by kernel_rfl) (by kernel_rfl) (wnt_und rfl rfl rfl rfl) ?_
                    refine vd_skip 27 rfl rfl rfl (by kernel_rfl) (by kernel_rfl) (by kernel_rfl) (wnt_und rfl rfl rfl rfl) ?_
                    refine vd_skip 28 rfl rfl rfl (by kernel_rfl) (by kernel_rfl) (by kernel_rfl) (wnt_und rfl rfl rfl rfl) ?_
                    refine vd_skip 29 rfl rfl rfl (by kernel_rfl) (by kernel_rfl) (by kernel_rfl) (wnt_off rfl rfl rfl rfl rfl) ?_
                    refine vd_light 30 rfl rfl rfl (by kernel_rfl) (by kernel_rfl) (by kernel_rfl) (wnt_none rfl) (lt_pick_t rfl) ?_
                    refine vd_light 31 rfl rfl rfl (by kernel_rfl) (by kernel_rfl) (by kernel_rfl) (wnt_none rfl) (lt_assign_pv rfl) ?_
                    refine vd_nil (by kernel_rfl) ?_
                    refine hK25 _ ?_
                    refine vc_region ?_
                    refine vo_move_pv rfl rfl ?_
                    refine vo_binI rfl rfl rfl rfl sd ?_
                    refine vo_assign_pv rfl rfl ?_
                    refine vo_nil ?_
                    change againE _ _ _ _ _ _ _ _ _ _
                    refine againE_mk rfl rfl rfl rfl rfl rfl ⟨_, ?_, i + 1, _, rfl, ?_, ?_, rfl, rfl⟩
                    · omega
                    · omega
                    · rw [mem_take_succ (by omega)]
                      first
                        | exact ⟨fun _ => ⟨(hm.1 hg11).1, .inl (hm.1 hg11).2⟩, fun _ => rfl⟩
                        | (have hM := fun h => hg11f (hm.2 h)
                           first
                             | exact ⟨fun h => (by cases h), fun h => by have := h.1; omega⟩
                             | exact ⟨fun h => ⟨hg12, .inr ⟨hg13, beq_iff_eq.1 h⟩⟩, fun h => beq_iff_eq.2 (h.2.elim (fun h1 => (hM ⟨hg12, h1⟩).elim) (fun h1 => h1.2))⟩
                             | exact ⟨fun h => (by cases h), fun h => h.2.elim (fun h1 => (hM ⟨hg12, h1⟩).elim) (fun h1 => absurd h1.1 hg13)⟩)
                  · try simp only [decide_eq_true_eq, decide_eq_false_iff_not, beq_iff_eq, bne_iff_ne, beq_eq_false_iff_ne, bne_eq_false_iff_eq, Bool.not_eq_true, Bool.not_eq_false, Bool.not_eq_eq_eq_not, Bool.not_true, Bool.not_false, List.length_map, Int.not_lt, Int.not_le, ne_eq, Decidable.not_not] at hg11
                    have hg11f : ¬ mb = true := by rw [hg11]; decide
                    refine vd_light 2 rfl rfl rfl (by kernel_rfl) (by kernel_rfl) (by kernel_rfl) (wnt_on rfl rfl rfl rfl) (lt_move_pv rfl) ?_
                    refine vd_light 3 rfl rfl rfl (by kernel_rfl) (by kernel_rfl) (by kernel_rfl) (wnt_on rfl rfl rfl rfl) (lt_binI rfl rfl rfl trivial) ?_
                    refine vd_light 4 rfl rfl rfl (by kernel_rfl) (by kernel_rfl) (by kernel_rfl) (wnt_on rfl rfl rfl rfl) (lt_move_pv rfl) ?_
                    refine vd_split 86 rfl (fun hg12 => ?_) (fun hg12 => ?_)
                    · try simp only [decide_eq_true_eq, decide_eq_false_iff_not, beq_iff_eq, bne_iff_ne, beq_eq_false_iff_ne, bne_eq_false_iff_eq, Bool.not_eq_true, Bool.not_eq_false, Bool.not_eq_eq_eq_not, Bool.not_true, Bool.not_false, List.length_map, Int.not_lt, Int.not_le, ne_eq, Decidable.not_not] at hg12
                      refine vd_light 5 rfl rfl rfl (by kernel_rfl) (by kernel_rfl) (by kernel_rfl) (wnt_on rfl rfl rfl rfl) (lt_move_pv rfl) ?_
                      refine vd_light 6 rfl rfl rfl (by kernel_rfl) (by kernel_rfl) (by kernel_rfl) (wnt_on rfl rfl rfl rfl) (lt_move_pv rfl) ?_
                      refine vd_light 7 rfl rfl rfl (by kernel_rfl) (by kernel_rfl) (by kernel_rfl) (wnt_on rfl rfl rfl rfl) (lt_index_pv (.agg [(.int .i64 0), (.int .i64 0)]) rfl rfl E32.und inf37 sz37 sd sd) ?_
                      simp only [Int.toNat_natCast, Int.toNat_zero, getD_ints, getD_intss, getD_bools, getD_bytes, PV.cells, getD_ops, getD_pairs, getD_insts]
                      refine vd_light 8 rfl rfl rfl (by kernel_rfl) (by kernel_rfl) (by kernel_rfl) (wnt_on rfl rfl rfl rfl) (lt_fieldAddr_adr rfl Try.underlying37 rfl inf3 (by rw [sz3]; decide)) ?_
                      refine vd_light 9 rfl rfl rfl (by kernel_rfl) (by kernel_rfl) (by kernel_rfl) (wnt_on rfl rfl rfl rfl) (lt_load_adr rfl Try.underlying3 rfl) ?_
                      refine vd_light 10 rfl rfl rfl (by kernel_rfl) (by kernel_rfl) (by kernel_rfl) (wnt_on rfl rfl rfl rfl) (lt_move_pv rfl) ?_
                      refine vd_light 11 rfl rfl rfl (by kernel_rfl) (by kernel_rfl) (by kernel_rfl) (wnt_on rfl rfl rfl rfl) (lt_move_pv rfl) ?_
                      refine vd_light 12 rfl rfl rfl (by kernel_rfl) (by kernel_rfl) (by kernel_rfl) (wnt_on rfl rfl rfl rfl) (lt_index_pv (.agg [(.int .i64 0), (.int .i64 0), (.int .i64 0), (.bool false)]) rfl rfl E23.und inf46 sz46 sd sd) ?_
                      simp only [Int.toNat_natCast, Int.toNat_zero, getD_ints, getD_intss, getD_bools, getD_bytes, PV.cells, getD_ops, getD_pairs, getD_insts]
                      refine vd_light 13 rfl rfl rfl (by kernel_rfl) (by kernel_rfl) (by kernel_rfl) (wnt_on rfl rfl rfl rfl) (lt_fieldAddr_adr rfl Try.underlying46 rfl inf3 (by rw [sz3]; decide)) ?_
                      refine vd_light 14 rfl rfl rfl (by kernel_rfl) (by kernel_rfl) (by kernel_rfl) (wnt_on rfl rfl rfl rfl) (lt_load_adr rfl Try.underlying3 rfl) ?_
                      refine vd_light 15 rfl rfl rfl (by kernel_rfl) (by kernel_rfl) (by kernel_rfl) (wnt_on rfl rfl rfl rfl) (lt_binI rfl rfl rfl trivial) ?_
                      refine vd_light 16 rfl rfl rfl (by kernel_rfl) (by kernel_rfl) (by kernel_rfl) (wnt_on rfl rfl rfl rfl) (lt_pick_t rfl) ?_
                      refine vd_light 17 rfl rfl rfl (by kernel_rfl) (by kernel_rfl) (by kernel_rfl) (wnt_on rfl rfl rfl rfl) (lt_move_pv rfl) ?_
                      refine vd_split 99 rfl (fun hg13 => ?_) (fun hg13 => ?_)
                      · try simp only [decide_eq_true_eq, decide_eq_false_iff_not, beq_iff_eq, bne_iff_ne, beq_eq_false_iff_ne, bne_eq_false_iff_eq, Bool.not_eq_true, Bool.not_eq_false, Bool.not_eq_eq_eq_not, Bool.not_true, Bool.not_false, List.length_map, Int.not_lt, Int.not_le, ne_eq, Decidable.not_not] at hg13
                        refine vd_light 18 rfl rfl rfl (by kernel_rfl) (by kernel_rfl) (by kernel_rfl) (wnt_on rfl rfl rfl rfl) (lt_move_pv rfl) ?_
                        refine vd_light 19 rfl rfl rfl (by kernel_rfl) (by kernel_rfl) (by kernel_rfl) (wnt_on rfl rfl rfl rfl) (lt_move_pv rfl) ?_
                        refine vd_light 20 rfl rfl rfl (by kernel_rfl) (by kernel_rfl) (by kernel_rfl) (wnt_on rfl rfl rfl rfl) (lt_index_pv (.agg [(.int .i64 0), (.int .i64 0)]) rfl rfl E32.und inf37 sz37 sd sd) ?_
                        simp only [Int.toNat_natCast, Int.toNat_zero, getD_ints, getD_intss, getD_bools, getD_bytes, PV.cells, getD_ops, getD_pairs, getD_insts]
                        refine vd_light 21 rfl rfl rfl (by kernel_rfl) (by kernel_rfl) (by kernel_rfl) (wnt_on rfl rfl rfl rfl) (lt_fieldAddr_adr rfl Try.underlying37 rfl inf3 (by rw [sz3]; decide)) ?_
                        refine vd_light 22 rfl rfl rfl (by kernel_rfl) (by kernel_rfl) (by kernel_rfl) (wnt_on rfl rfl rfl rfl) (lt_load_adr rfl Try.underlying3 rfl) ?_
                        refine vd_light 23 rfl rfl rfl (by kernel_rfl) (by kernel_rfl) (by kernel_rfl) (wnt_on rfl rfl rfl rfl) (lt_move_pv rfl) ?_
                        refine vd_light 24 rfl rfl rfl (by kernel_rfl) (by kernel_rfl) (by kernel_rfl) (wnt_on rfl rfl rfl rfl) (lt_move_pv rfl) ?_
                        refine vd_light 25 rfl rfl rfl (by kernel_rfl) (by kernel_rfl) (by kernel_rfl) (wnt_on rfl rfl rfl rfl) (lt_index_pv (.agg [(.int .i64 0), (.int .i64 0), (.int .i64 0), (.bool false)]) rfl rfl E23.und inf46 sz46 sd sd) ?_
                        simp only [Int.toNat_natCast, Int.toNat_zero, getD_ints, getD_intss, getD_bools, getD_bytes, PV.cells, getD_ops, getD_pairs, getD_insts]
                        refine vd_light 26 rfl rfl rfl (by kernel_rfl) (by kernel_rfl) (by kernel_rfl) (wnt_on rfl rfl rfl rfl) (lt_fieldAddr_adr rfl Try.underlying46 rfl inf3 (by rw [sz3]; decide)) ?_
                        refine vd_light 27 rfl rfl rfl (by kernel_rfl) (by kernel_rfl) (by kernel_rfl) (wnt_on rfl rfl rfl rfl) (lt_load_adr rfl Try.underlying3 rfl) ?_
                        refine vd_light 28 rfl rfl rfl (by kernel_rfl) (by kernel_rfl) (by kernel_rfl) (wnt_on rfl rfl rfl rfl) (lt_binI rfl rfl rfl trivial) ?_
                        refine vd_light 29 rfl rfl rfl (by kernel_rfl) (by kernel_rfl) (by kernel_rfl) (wnt_on rfl rfl rfl rfl) (lt_pick_t rfl) ?_
                        refine vd_light 30 rfl rfl rfl (by kernel_rfl) (by kernel_rfl) (by kernel_rfl) (wnt_none rfl) (lt_pick_f rfl) ?_
                        refine vd_light 31 rfl rfl rfl (by kernel_rfl) (by kernel_rfl) (by kernel_rfl) (wnt_none rfl) (lt_assign_pv rfl) ?_
                        refine vd_nil (by kernel_rfl) ?_
                        refine hK25 _ ?_
                        refine vc_region ?_
                        refine vo_move_pv rfl rfl ?_
                        refine vo_binI rfl rfl rfl rfl sd ?_
                        refine vo_assign_pv rfl rfl ?_
                        refine vo_nil ?_
                        change againE _ _ _ _ _ _ _ _ _ _
                        refine againE_mk rfl rfl rfl rfl rfl rfl ⟨_, ?_, i + 1, _, rfl, ?_, ?_, rfl, rfl⟩
                        · omega
                        · omega
                        · rw [mem_take_succ (by omega)]
                          first
                            | exact ⟨fun _ => ⟨(hm.1 hg11).1, .inl (hm.1 hg11).2⟩, fun _ => rfl⟩
                            | (have hM := fun h => hg11f (hm.2 h)
                               first
                                 | exact ⟨fun h => (by cases h), fun h => by have := h.1; omega⟩
                                 | exact ⟨fun h => ⟨hg12, .inr ⟨hg13, beq_iff_eq.1 h⟩⟩, fun h => beq_iff_eq.2 (h.2.elim (fun h1 => (hM ⟨hg12, h1⟩).elim) (fun h1 => h1.2))⟩
                                 | exact ⟨fun h => (by cases h), fun h => h.2.elim (fun h1 => (hM ⟨hg12, h1⟩).elim) (fun h1 => absurd h1.1 hg13)⟩)
                      · try simp only [decide_eq_true_eq, decide_eq_false_iff_not, beq_iff_eq, bne_iff_ne, beq_eq_false_iff_ne, bne_eq_false_iff_eq, Bool.not_eq_true, Bool.not_eq_false, Bool.not_eq_eq_eq_not, Bool.not_true, Bool.not_false, List.length_map, Int.not_lt, Int.not_le, ne_eq, Decidable.not_not] at hg13
                        refine vd_skip 18 rfl rfl rfl (by kernel_rfl) (by kernel_rfl) (by kernel_rfl) (wnt_off rfl rfl rfl rfl rfl) ?_
                        refine vd_skip 19 rfl rfl rfl (by kernel_rfl) (by kernel_rfl) (by kernel_rfl) (wnt_off rfl rfl rfl rfl rfl) ?_
                        refine vd_skip 20 rfl rfl rfl (by kernel_rfl) (by kernel_rfl) (by kernel_rfl) (wnt_off rfl rfl rfl rfl rfl) ?_
                        refine vd_skip 21 rfl rfl rfl (by kernel_rfl) (by kernel_rfl) (by kernel_rfl) (wnt_off rfl rfl rfl rfl rfl) ?_
                        refine vd_skip 22 rfl rfl rfl (by kernel_rfl) (by kernel_rfl) (by kernel_rfl) (wnt_off rfl rfl rfl rfl rfl) ?_
                        refine vd_skip 23 rfl rfl rfl (by kernel_rfl) (by kernel_rfl) (by kernel_rfl) (wnt_off rfl rfl rfl rfl rfl) ?_
                        refine vd_skip 24 rfl rfl rfl (by kernel_rfl) (by kernel_rfl) (by kernel_rfl) (wnt_off rfl rfl rfl rfl rfl) ?_
                        refine vd_skip 25 rfl rfl rfl (by kernel_rfl) (by kernel_rfl) (by kernel_rfl) (wnt_off rfl rfl rfl rfl rfl) ?_
                        refine vd_skip 26 rfl rfl rfl (by kernel_rfl) (by kernel_rfl) (by kernel_rfl) (wnt_off rfl rfl rfl rfl rfl) ?_
                        refine vd_skip 27 rfl rfl rfl (by kernel_rfl) (by kernel_rfl) (by kernel_rfl) (wnt_off rfl rfl rfl rfl rfl) ?_
                        refine vd_skip 28 rfl rfl rfl (by kernel_rfl) (by kernel_rfl) (by kernel_rfl) (wnt_off rfl rfl rfl rfl rfl) ?_
                        refine vd_light 29 rfl rfl rfl (by kernel_rfl) (by kernel_rfl) (by kernel_rfl) (wnt_on rfl rfl rfl rfl) (lt_pick_f rfl) ?_
                        refine vd_light 30 rfl rfl rfl (by kernel_rfl) (by kernel_rfl) (by kernel_rfl) (wnt_none rfl) (lt_pick_f rfl) ?_
                        refine vd_light 31 rfl rfl rfl (by kernel_rfl) (by kernel_rfl) (by kernel_rfl) (wnt_none rfl) (lt_assign_pv rfl) ?_
                        refine vd_nil (by kernel_rfl) ?_
                        refine hK25 _ ?_
                        refine vc_region ?_
                        refine vo_move_pv rfl rfl ?_
                        refine vo_binI rfl rfl rfl rfl sd ?_
                        refine vo_assign_pv rfl rfl ?_
                        refine vo_nil ?_
                        change againE _ _ _ _ _ _ _ _ _ _
                        refine againE_mk rfl rfl rfl rfl rfl rfl ⟨_, ?_, i + 1, _, rfl, ?_, ?_, rfl, rfl⟩
                        · omega
                        · omega
                        · rw [mem_take_succ (by omega)]
                          first
                            | exact ⟨fun _ => ⟨(hm.1 hg11).1, .inl (hm.1 hg11).2⟩, fun _ => rfl⟩
                            | (have hM := fun h => hg11f (hm.2 h)
                               first
                                 | exact ⟨fun h => (by cases h), fun h => by have := h.1; omega⟩
                                 | exact ⟨fun h => ⟨hg12, .inr ⟨hg13, beq_iff_eq.1 h⟩⟩, fun h => beq_iff_eq.2 (h.2.elim (fun h1 => (hM ⟨hg12, h1⟩).elim) (fun h1 => h1.2))⟩
                                 | exact ⟨fun h => (by cases h), fun h => h.2.elim (fun h1 => (hM ⟨hg12, h1⟩).elim) (fun h1 => absurd h1.1 hg13)⟩)
                    · try simp only [decide_eq_true_eq, decide_eq_false_iff_not, beq_iff_eq, bne_iff_ne, beq_eq_false_iff_ne, bne_eq_false_iff_eq, Bool.not_eq_true, Bool.not_eq_false, Bool.not_eq_eq_eq_not, Bool.not_true, Bool.not_false, List.length_map, Int.not_lt, Int.not_le, ne_eq, Decidable.not_not] at hg12
                      refine vd_skip 5 rfl rfl rfl (by kernel_rfl) (by kernel_rfl) (by kernel_rfl) (wnt_off rfl rfl rfl rfl rfl) ?_
                      refine vd_skip 6 rfl rfl rfl (by kernel_rfl) (by kernel_rfl) (by kernel_rfl) (wnt_off rfl rfl rfl rfl rfl) ?_
                      refine vd_skip 7 rfl rfl rfl (by kernel_rfl) (by kernel_rfl) (by kernel_rfl) (wnt_off rfl rfl rfl rfl rfl) ?_
                      refine vd_skip 8 rfl rfl rfl (by kernel_rfl) (by kernel_rfl) (by kernel_rfl) (wnt_off rfl rfl rfl rfl rfl) ?_
                      refine vd_skip 9 rfl rfl rfl (by kernel_rfl) (by kernel_rfl) (by kernel_rfl) (wnt_off rfl rfl rfl rfl rfl) ?_
                      refine vd_skip 10 rfl rfl rfl (by kernel_rfl) (by kernel_rfl) (by kernel_rfl) (wnt_off rfl rfl rfl rfl rfl) ?_
                      refine vd_skip 11 rfl rfl rfl (by kernel_rfl) (by kernel_rfl) (by kernel_rfl) (wnt_off rfl rfl rfl rfl rfl) ?_
                      refine vd_skip 12 rfl rfl rfl (by kernel_rfl) (by kernel_rfl) (by kernel_rfl) (wnt_off rfl rfl rfl rfl rfl) ?_
                      refine vd_skip 13 rfl rfl rfl (by kernel_rfl) (by kernel_rfl) (by kernel_rfl) (wnt_off rfl rfl rfl rfl rfl) ?_
                      refine vd_skip 14 rfl rfl rfl (by kernel_rfl) (by kernel_rfl) (by kernel_rfl) (wnt_off rfl rfl rfl rfl rfl) ?_
                      refine vd_skip 15 rfl rfl rfl (by kernel_rfl) (by kernel_rfl) (by kernel_rfl) (wnt_off rfl rfl rfl rfl rfl) ?_
                      refine vd_light 16 rfl rfl rfl (by kernel_rfl) (by kernel_rfl) (by kernel_rfl) (wnt_on rfl rfl rfl rfl) (lt_pick_f rfl) ?_
                      refine vd_light 17 rfl rfl rfl (by kernel_rfl) (by kernel_rfl) (by kernel_rfl) (wnt_on rfl rfl rfl rfl) (lt_move_pv rfl) ?_
                      refine vd_skip 18 rfl rfl rfl (by kernel_rfl) (by kernel_rfl) (by kernel_rfl) (wnt_off rfl rfl rfl rfl rfl) ?_
                      refine vd_skip 19 rfl rfl rfl (by kernel_rfl) (by kernel_rfl) (by kernel_rfl) (wnt_off rfl rfl rfl rfl rfl) ?_
                      refine vd_skip 20 rfl rfl rfl (by kernel_rfl) (by kernel_rfl) (by kernel_rfl) (wnt_off rfl rfl rfl rfl rfl) ?_
                      refine vd_skip 21 rfl rfl rfl (by kernel_rfl) (by kernel_rfl) (by kernel_rfl) (wnt_off rfl rfl rfl rfl rfl) ?_
                      refine vd_skip 22 rfl rfl rfl (by kernel_rfl) (by kernel_rfl) (by kernel_rfl) (wnt_off rfl rfl rfl rfl rfl) ?_
                      refine vd_skip 23 rfl rfl rfl (by kernel_rfl) (by kernel_rfl) (by kernel_rfl) (wnt_off rfl rfl rfl rfl rfl) ?_
                      refine vd_skip 24 rfl rfl rfl (by kernel_rfl) (by kernel_rfl) (by kernel_rfl) (wnt_off rfl rfl rfl rfl rfl) ?_
                      refine vd_skip 25 rfl rfl rfl (by kernel_rfl) (by kernel_rfl) (by kernel_rfl) (wnt_off rfl rfl rfl rfl rfl) ?_
                      refine vd_skip 26 rfl rfl rfl (by kernel_rfl) (by kernel_rfl) (by kernel_rfl) (wnt_off rfl rfl rfl rfl rfl) ?_
                      refine vd_skip 27 rfl rfl rfl (by kernel_rfl) (by kernel_rfl) (by kernel_rfl) (wnt_off rfl rfl rfl rfl rfl) ?_
                      refine vd_skip 28 rfl rfl rfl (by kernel_rfl) (by kernel_rfl) (by kernel_rfl) (wnt_off rfl rfl rfl rfl rfl) ?_
                      refine vd_light 29 rfl rfl rfl (by kernel_rfl) (by kernel_rfl) (by kernel_rfl) (wnt_on rfl rfl rfl rfl) (lt_pick_f rfl) ?_
                      refine vd_light 30 rfl rfl rfl (by kernel_rfl) (by kernel_rfl) (by kernel_rfl) (wnt_none rfl) (lt_pick_f rfl) ?_
                      refine vd_light 31 rfl rfl rfl (by kernel_rfl) (by kernel_rfl) (by kernel_rfl) (wnt_none rfl) (lt_assign_pv rfl) ?_
                      refine vd_nil (by kernel_rfl) ?_
                      refine hK25 _ ?_
                      refine vc_region ?_
                      refine vo_move_pv rfl rfl ?_
                      refine vo_binI rfl rfl rfl rfl sd ?_
                      refine vo_assign_pv rfl rfl ?_
                      refine vo_nil ?_
                      change againE _ _ _ _ _ _ _ _ _ _
                      refine againE_mk rfl rfl rfl rfl rfl rfl ⟨_, ?_, i + 1, _, rfl, ?_, ?_, rfl, rfl⟩
                      · omega
                      · omega
                      · rw [mem_take_succ (by omega)]
                        first
                          | exact ⟨fun _ => ⟨(hm.1 hg11).1, .inl (hm.1 hg11).2⟩, fun _ => rfl⟩
                          | (have hM := fun h => hg11f (hm.2 h)
                             first
                               | exact ⟨fun h => (by cases h), fun h => by have := h.1; omega⟩
                               | exact ⟨fun h => ⟨hg12, .inr ⟨hg13, beq_iff_eq.1 h⟩⟩, fun h => beq_iff_eq.2 (h.2.elim (fun h1 => (hM ⟨hg12, h1⟩).elim) (fun h1 => h1.2))⟩
                               | exact ⟨fun h => (by cases h), fun h => h.2.elim (fun h1 => (hM ⟨hg12, h1⟩).elim) (fun h1 => absurd h1.1 hg13)⟩)
              · try simp only [decide_eq_true_eq, decide_eq_false_iff_not, beq_iff_eq, bne_iff_ne, beq_eq_false_iff_ne, bne_eq_false_iff_eq, Bool.not_eq_true, Bool.not_eq_false, Bool.not_eq_eq_eq_not, Bool.not_true, Bool.not_false, List.length_map, Int.not_lt, Int.not_le, ne_eq, Decidable.not_not] at hc8
                have hi9 : i = (plp list who).length := by omega
                have hend : (z = -1 ∧ plp list who = []) ∨ (0 ≤ z ∧ (mb = true ↔ (list.getD z.toNat ⟨0, 0, 0, false⟩).gone = false)) := by
                  rcases hLz with ⟨h1, h2⟩ | ⟨j, h1, h2, h3⟩
                  · exact .inl ⟨h1, by rw [e]; exact h2⟩
                  · refine .inr ⟨by omega, ?_⟩
                    rw [hm, hi9, List.take_length, show z.toNat = j by omega, e, h3, chg_tells (plpK_nodup list who j (by omega))]
                    exact ⟨fun h => h.2, fun h => ⟨by omega, h⟩⟩
                refine vc_exit ?_
                refine hK21 _ ?_
                refine vc_seq fun K32 hK32 => ?_
                refine vc_region ?_
                refine vo_move_pv rfl rfl ?_
                refine vo_binI rfl rfl rfl rfl trivial ?_
                refine vo_move_pv rfl rfl ?_
                refine vo_split 115 rfl (fun hg14 => ?_) (fun hg14 => ?_)
                · try simp only [decide_eq_true_eq, decide_eq_false_iff_not, beq_iff_eq, bne_iff_ne, beq_eq_false_iff_ne, bne_eq_false_iff_eq, Bool.not_eq_true, Bool.not_eq_false, Bool.not_eq_eq_eq_not, Bool.not_true, Bool.not_false, List.length_map, Int.not_lt, Int.not_le, ne_eq, Decidable.not_not] at hg14
                  refine vo_guard_on rfl rfl rfl ?_
                  refine vo_move_pv rfl rfl ?_
                  refine vo_guard_on rfl rfl rfl ?_
                  refine vo_len_pv rfl rfl Try.underlying32 ?_
                  refine vo_guard_on rfl rfl rfl ?_
                  refine vo_binI rfl rfl rfl rfl trivial ?_
                  refine vo_pick_t rfl rfl ?_
                  refine vo_move_pv rfl rfl ?_
                  refine vo_split 120 rfl (fun hg15 => ?_) (fun hg15 => ?_)
                  · try simp only [decide_eq_true_eq, decide_eq_false_iff_not, beq_iff_eq, bne_iff_ne, beq_eq_false_iff_ne, bne_eq_false_iff_eq, Bool.not_eq_true, Bool.not_eq_false, Bool.not_eq_eq_eq_not, Bool.not_true, Bool.not_false, List.length_map, Int.not_lt, Int.not_le, ne_eq, Decidable.not_not] at hg15
                    refine vo_guard_off rfl rfl rfl rfl rfl ?_
                    refine vo_guard_off rfl rfl rfl rfl rfl ?_
                    refine vo_guard_off rfl rfl rfl rfl rfl ?_
                    refine vo_guard_und rfl rfl rfl rfl ?_
                    refine vo_guard_und rfl rfl rfl rfl ?_
                    refine vo_guard_und rfl rfl rfl rfl ?_
                    refine vo_guard_und rfl rfl rfl rfl ?_
                    refine vo_guard_und rfl rfl rfl rfl ?_
                    refine vo_guard_und rfl rfl rfl rfl ?_
                    refine vo_guard_und rfl rfl rfl rfl ?_
                    refine vo_guard_off rfl rfl rfl rfl rfl ?_
                    refine vo_pick_t rfl rfl ?_
                    refine vo_assign_pv rfl rfl ?_
                    refine vo_nil ?_
                    refine hK32 _ ?_
                    refine vc_ret ?_
                    change retQ _ _ _ _ _
                    refine retQ_sel [] (srows := []) (.inr rfl) hC rfl rfl rfl rfl rfl rfl rfl ?_
                    first
                      | exact absurd trivial ‹¬True›
                      | (refine ⟨(congrArg (fun b => [bo b]) (?_ : _ = true) : [bo _] = [bo true]), rfl⟩; simp; done)
                      | (rcases hend with ⟨h1, h2⟩ | ⟨h1, h2⟩
                         · first
                             | (exfalso; omega)
                             | (exfalso; apply hg15; rw [h2]; rfl)
                             | exact ⟨rfl, rfl⟩
                             | (refine ⟨(congrArg (fun b => [bo b]) (?_ : _ = true) : [bo _] = [bo true]), rfl⟩; simp [h2]; done)
                         · first
                             | (exfalso; omega)
                             | (refine ⟨(congrArg (fun b => [bo b]) (?_ : _ = true) : [bo _] = [bo true]), rfl⟩
                                cases mb <;> cases hgo : (list.getD z.toNat ⟨0, 0, 0, false⟩).gone <;> simp_all <;> done))
                      | (trace_state; skip)
                  · try simp only [decide_eq_true_eq, decide_eq_false_iff_not, beq_iff_eq, bne_iff_ne, beq_eq_false_iff_ne, bne_eq_false_iff_eq, Bool.not_eq_true, Bool.not_eq_false, Bool.not_eq_eq_eq_not, Bool.not_true, Bool.not_false, List.length_map, Int.not_lt, Int.not_le, ne_eq, Decidable.not_not] at hg15
                    refine vo_guard_on rfl rfl rfl ?_
                    refine vo_move_pv rfl rfl ?_
                    refine vo_guard_on rfl rfl rfl ?_
                    refine vo_binI rfl rfl rfl rfl trivial ?_
                    refine vo_guard_on rfl rfl rfl ?_
                    refine vo_move_pv rfl rfl ?_
                    refine vo_split 123 rfl (fun hg16 => ?_) (fun hg16 => ?_)
                    · try simp only [decide_eq_true_eq, decide_eq_false_iff_not, beq_iff_eq, bne_iff_ne, beq_eq_false_iff_ne, bne_eq_false_iff_eq, Bool.not_eq_true, Bool.not_eq_false, Bool.not_eq_eq_eq_not, Bool.not_true, Bool.not_false, List.length_map, Int.not_lt, Int.not_le, ne_eq, Decidable.not_not] at hg16
                      refine vo_guard_on rfl rfl rfl ?_
                      refine vo_move_pv rfl rfl ?_
                      refine vo_guard_on rfl rfl rfl ?_
                      refine vo_move_pv rfl rfl ?_
                      refine vo_guard_on rfl rfl rfl ?_
                      refine vo_move_pv rfl rfl ?_
                      refine vo_guard_on rfl rfl rfl ?_
                      refine vo_index_pv (.agg [(.int .i64 0), (.int .i64 0), (.int .i64 0), (.bool false)]) rfl rfl rfl E23.und inf46 sz46 sd sd ?_
                      simp only [Int.toNat_natCast, Int.toNat_zero, getD_ints, getD_intss, getD_bools, getD_bytes, PV.cells, getD_ops, getD_pairs, getD_insts]
                      refine vo_guard_on rfl rfl rfl ?_
                      refine vo_fieldAddr_adr rfl rfl Try.underlying46 rfl inf4 (by rw [sz4]; decide) ?_
                      refine vo_guard_on rfl rfl rfl ?_
                      refine vo_load_adr rfl rfl Try.underlying4 rfl ?_
                      refine vo_guard_on rfl rfl rfl ?_
                      refine vo_binB rfl rfl rfl rfl Try.underlying4 ?_
                      refine vo_guard_on rfl rfl rfl ?_
                      refine vo_pick_t rfl rfl ?_
                      refine vo_pick_f rfl rfl ?_
                      refine vo_assign_pv rfl rfl ?_
                      refine vo_nil ?_
                      refine hK32 _ ?_
                      refine vc_ret ?_
                      change retQ _ _ _ _ _
                      refine retQ_sel [] (srows := []) (.inr rfl) hC rfl rfl rfl rfl rfl rfl rfl ?_
                      first
                        | exact absurd trivial ‹¬True›
                        | (refine ⟨(congrArg (fun b => [bo b]) (?_ : _ = true) : [bo _] = [bo true]), rfl⟩; simp; done)
                        | (rcases hend with ⟨h1, h2⟩ | ⟨h1, h2⟩
                           · first
                               | (exfalso; omega)
                               | (exfalso; apply hg15; rw [h2]; rfl)
                               | exact ⟨rfl, rfl⟩
                               | (refine ⟨(congrArg (fun b => [bo b]) (?_ : _ = true) : [bo _] = [bo true]), rfl⟩; simp [h2]; done)
                           · first
                               | (exfalso; omega)
                               | (refine ⟨(congrArg (fun b => [bo b]) (?_ : _ = true) : [bo _] = [bo true]), rfl⟩
                                  cases mb <;> cases hgo : (list.getD z.toNat ⟨0, 0, 0, false⟩).gone <;> simp_all <;> done))
                        | (trace_state; skip)
                    · try simp only [decide_eq_true_eq, decide_eq_false_iff_not, beq_iff_eq, bne_iff_ne, beq_eq_false_iff_ne, bne_eq_false_iff_eq, Bool.not_eq_true, Bool.not_eq_false, Bool.not_eq_eq_eq_not, Bool.not_true, Bool.not_false, List.length_map, Int.not_lt, Int.not_le, ne_eq, Decidable.not_not] at hg16
                      refine vo_guard_off rfl rfl rfl rfl rfl ?_
                      refine vo_guard_off rfl rfl rfl rfl rfl ?_
                      refine vo_guard_off rfl rfl rfl rfl rfl ?_
                      refine vo_guard_off rfl rfl rfl rfl rfl ?_
                      refine vo_guard_off rfl rfl rfl rfl rfl ?_
                      refine vo_guard_off rfl rfl rfl rfl rfl ?_
                      refine vo_guard_off rfl rfl rfl rfl rfl ?_
                      refine vo_guard_on rfl rfl rfl ?_
                      refine vo_pick_f rfl rfl ?_
                      refine vo_pick_f rfl rfl ?_
                      refine vo_assign_pv rfl rfl ?_
                      refine vo_nil ?_
                      refine hK32 _ ?_
                      refine vc_ret ?_
                      change retQ _ _ _ _ _
                      refine retQ_sel [] (srows := []) (.inr rfl) hC rfl rfl rfl rfl rfl rfl rfl ?_
                      first
                        | exact absurd trivial ‹¬True›
                        | (refine ⟨(congrArg (fun b => [bo b]) (?_ : _ = true) : [bo _] = [bo true]), rfl⟩; simp; done)
                        | (rcases hend with ⟨h1, h2⟩ | ⟨h1, h2⟩
                           · first
                               | (exfalso; omega)
                               | (exfalso; apply hg15; rw [h2]; rfl)
                               | exact ⟨rfl, rfl⟩
                               | (refine ⟨(congrArg (fun b => [bo b]) (?_ : _ = true) : [bo _] = [bo true]), rfl⟩; simp [h2]; done)
                           · first
                               | (exfalso; omega)
                               | (refine ⟨(congrArg (fun b => [bo b]) (?_ : _ = true) : [bo _] = [bo true]), rfl⟩
                                  cases mb <;> cases hgo : (list.getD z.toNat ⟨0, 0, 0, false⟩).gone <;> simp_all <;> done))
                        | (trace_state; skip)
                · try simp only [decide_eq_true_eq, decide_eq_false_iff_not, beq_iff_eq, bne_iff_ne, beq_eq_false_iff_ne, bne_eq_false_iff_eq, Bool.not_eq_true, Bool.not_eq_false, Bool.not_eq_eq_eq_not, Bool.not_true, Bool.not_false, List.length_map, Int.not_lt, Int.not_le, ne_eq, Decidable.not_not] at hg14
                  refine vo_guard_off rfl rfl rfl rfl rfl ?_
                  refine vo_guard_off rfl rfl rfl rfl rfl ?_
                  refine vo_guard_off rfl rfl rfl rfl rfl ?_
                  refine vo_pick_f rfl rfl ?_
                  refine vo_move_pv rfl rfl ?_
                  refine vo_guard_on rfl rfl rfl ?_
                  refine vo_move_pv rfl rfl ?_
                  refine vo_guard_on rfl rfl rfl ?_
                  refine vo_binI rfl rfl rfl rfl trivial ?_
                  refine vo_guard_on rfl rfl rfl ?_
                  refine vo_move_pv rfl rfl ?_
                  refine vo_split 123 rfl (fun hg17 => ?_) (fun hg17 => ?_)
                  · try simp only [decide_eq_true_eq, decide_eq_false_iff_not, beq_iff_eq, bne_iff_ne, beq_eq_false_iff_ne, bne_eq_false_iff_eq, Bool.not_eq_true, Bool.not_eq_false, Bool.not_eq_eq_eq_not, Bool.not_true, Bool.not_false, List.length_map, Int.not_lt, Int.not_le, ne_eq, Decidable.not_not] at hg17
                    refine vo_guard_on rfl rfl rfl ?_
                    refine vo_move_pv rfl rfl ?_
                    refine vo_guard_on rfl rfl rfl ?_
                    refine vo_move_pv rfl rfl ?_
                    refine vo_guard_on rfl rfl rfl ?_
                    refine vo_move_pv rfl rfl ?_
                    refine vo_guard_on rfl rfl rfl ?_
                    refine vo_index_pv (.agg [(.int .i64 0), (.int .i64 0), (.int .i64 0), (.bool false)]) rfl rfl rfl E23.und inf46 sz46 sd sd ?_
                    simp only [Int.toNat_natCast, Int.toNat_zero, getD_ints, getD_intss, getD_bools, getD_bytes, PV.cells, getD_ops, getD_pairs, getD_insts]
                    refine vo_guard_on rfl rfl rfl ?_
                    refine vo_fieldAddr_adr rfl rfl Try.underlying46 rfl inf4 (by rw [sz4]; decide) ?_
                    refine vo_guard_on rfl rfl rfl ?_
                    refine vo_load_adr rfl rfl Try.underlying4 rfl ?_
                    refine vo_guard_on rfl rfl rfl ?_
                    refine vo_binB rfl rfl rfl rfl Try.underlying4 ?_
                    refine vo_guard_on rfl rfl rfl ?_
                    refine vo_pick_t rfl rfl ?_
                    refine vo_pick_f rfl rfl ?_
                    refine vo_assign_pv rfl rfl ?_
                    refine vo_nil ?_
                    refine hK32 _ ?_
                    refine vc_ret ?_
                    change retQ _ _ _ _ _
                    refine retQ_sel [] (srows := []) (.inr rfl) hC rfl rfl rfl rfl rfl rfl rfl ?_
                    first
                      | exact absurd trivial ‹¬True›
                      | (refine ⟨(congrArg (fun b => [bo b]) (?_ : _ = true) : [bo _] = [bo true]), rfl⟩; simp; done)
                      | (rcases hend with ⟨h1, h2⟩ | ⟨h1, h2⟩
                         · first
                             | (exfalso; omega)
                             | (exfalso; apply hg15; rw [h2]; rfl)
                             | exact ⟨rfl, rfl⟩
                             | (refine ⟨(congrArg (fun b => [bo b]) (?_ : _ = true) : [bo _] = [bo true]), rfl⟩; simp [h2]; done)
                         · first
                             | (exfalso; omega)
                             | (refine ⟨(congrArg (fun b => [bo b]) (?_ : _ = true) : [bo _] = [bo true]), rfl⟩
                                cases mb <;> cases hgo : (list.getD z.toNat ⟨0, 0, 0, false⟩).gone <;> simp_all <;> done))
                      | (trace_state; skip)
                  · try simp only [decide_eq_true_eq, decide_eq_false_iff_not, beq_iff_eq, bne_iff_ne, beq_eq_false_iff_ne, bne_eq_false_iff_eq, Bool.not_eq_true, Bool.not_eq_false, Bool.not_eq_eq_eq_not, Bool.not_true, Bool.not_false, List.length_map, Int.not_lt, Int.not_le, ne_eq, Decidable.not_not] at hg17
                    refine vo_guard_off rfl rfl rfl rfl rfl ?_
                    refine vo_guard_off rfl rfl rfl rfl rfl ?_
                    refine vo_guard_off rfl rfl rfl rfl rfl ?_
                    refine vo_guard_off rfl rfl rfl rfl rfl ?_
                    refine vo_guard_off rfl rfl rfl rfl rfl ?_
                    refine vo_guard_off rfl rfl rfl rfl rfl ?_
                    refine vo_guard_off rfl rfl rfl rfl rfl ?_
                    refine vo_guard_on rfl rfl rfl ?_
                    refine vo_pick_f rfl rfl ?_
                    refine vo_pick_f rfl rfl ?_
                    refine vo_assign_pv rfl rfl ?_
                    refine vo_nil ?_
                    refine hK32 _ ?_
                    refine vc_ret ?_
                    change retQ _ _ _ _ _
                    refine retQ_sel [] (srows := []) (.inr rfl) hC rfl rfl rfl rfl rfl rfl rfl ?_
                    first
                      | exact absurd trivial ‹¬True›
                      | (refine ⟨(congrArg (fun b => [bo b]) (?_ : _ = true) : [bo _] = [bo true]), rfl⟩; simp; done)
                      | (rcases hend with ⟨h1, h2⟩ | ⟨h1, h2⟩
                         · first
                             | (exfalso; omega)
                             | (exfalso; apply hg15; rw [h2]; rfl)
                             | exact ⟨rfl, rfl⟩
                             | (refine ⟨(congrArg (fun b => [bo b]) (?_ : _ = true) : [bo _] = [bo true]), rfl⟩; simp [h2]; done)
                         · first
                             | (exfalso; omega)
                             | (refine ⟨(congrArg (fun b => [bo b]) (?_ : _ = true) : [bo _] = [bo true]), rfl⟩
                                cases mb <;> cases hgo : (list.getD z.toNat ⟨0, 0, 0, false⟩).gone <;> simp_all <;> done))
                      | (trace_state; skip)

end Go.Vl


/- Part 5 of the texts that the proof of FnExactCellsOf is built on. -/
import Derived.Test.YtajolcdboifjaaaVl4
namespace Go.Vl
set_option linter.unusedVariables false
set_option linter.unusedSimpArgs false
open Go.Proofs

theorem validI_own {h : HeapM} {n : Nat} {x : InstM} {k : Nat} (hk : k < x.own.length) (hx : ¬ okPair (x.own.getD k (0, 0))) : ¬ VInst n x := fun h => by
  unfold VInst at h
  split at h
  · omega
  · exact hx (h.2.2.2 _ (getD_mem hk (0, 0)))

theorem isInst_sat {inst : InstM} {keys : Nat}  (hk : keys < 1000000000) (hi : SI inst) : SatAt Try.prog 78 [.pv false (instP inst), i64 keys] [] (fun res rows => res = [bo (decide (VInst keys inst))] ∧ rows = []) := by
  unfold SI at hi
  refine sat_entry_G (rs := [(4, none)]) Try.func78 rfl rfl (Nat.le_of_ble_eq_true rfl) (Nat.le_of_ble_eq_true rfl) (resTs1 trivial) fun C hC => ?_
  rw [Try.ntmps78]
  replace hC : C.nb = 0 := hC
  refine vc_seq fun K1 hK1 => ?_
  refine vc_region ?_
  refine vo_box rfl rfl ?_
  refine vo_stM ?_
  refine vo_assign_pv rfl rfl ?_
  refine vo_nil ?_
  refine hK1 _ ?_
  refine vc_seq fun K2 hK2 => ?_
  refine vc_seq fun K3 hK3 => ?_
  refine vc_region ?_
  refine vo_fieldAddr_ptr rfl rfl Try.underlying70 rfl inf4 (by rw [sz4]; decide) ?_
  try simp only [Nat.zero_add]
  refine vo_load_var rfl rfl rfl Try.underlying4 rfl rfl ?_
  refine vo_not rfl rfl ?_
  refine vo_nil ?_
  refine hK3 _ ?_
  refine vc_cond rfl (fun hc1 => ?_) (fun hc1 => ?_)
  · try simp only [decide_eq_true_eq, decide_eq_false_iff_not, beq_iff_eq, bne_iff_ne, beq_eq_false_iff_ne, bne_eq_false_iff_eq, Bool.not_eq_true, Bool.not_eq_false, Bool.not_eq_eq_eq_not, Bool.not_true, Bool.not_false, List.length_map, Int.not_lt, Int.not_le, ne_eq, Decidable.not_not] at hc1
    have hV := vinst_own (n := keys) (x := inst) (by first | exact hc1 | simpa using hc1)
    refine vc_seq fun K4 hK4 => ?_
    refine vc_region ?_
    refine vo_fieldAddr_ptr rfl rfl Try.underlying70 rfl inf50 (by rw [sz50]; decide) ?_
    try simp only [Nat.zero_add]
    refine vo_load_var rfl rfl rfl Try.underlying50 rfl rfl ?_
    refine vo_len_pv rfl rfl Try.underlying50 ?_
    refine vo_binI rfl rfl rfl rfl trivial ?_
    refine vo_move_pv rfl rfl ?_
    refine vo_split 12 rfl (fun hg2 => ?_) (fun hg2 => ?_)
    · try simp only [decide_eq_true_eq, decide_eq_false_iff_not, beq_iff_eq, bne_iff_ne, beq_eq_false_iff_ne, bne_eq_false_iff_eq, Bool.not_eq_true, Bool.not_eq_false, Bool.not_eq_eq_eq_not, Bool.not_true, Bool.not_false, List.length_map, Int.not_lt, Int.not_le, ne_eq, Decidable.not_not] at hg2
      refine vo_guard_on rfl rfl rfl ?_
      refine vo_fieldAddr_ptr rfl rfl Try.underlying70 rfl inf50 (by rw [sz50]; decide) ?_
      try simp only [Nat.zero_add]
      refine vo_guard_on rfl rfl rfl ?_
      refine vo_load_var rfl rfl rfl Try.underlying50 rfl rfl ?_
      refine vo_guard_on rfl rfl rfl ?_
      refine vo_len_pv rfl rfl Try.underlying50 ?_
      refine vo_guard_on rfl rfl rfl ?_
      refine vo_binI rfl rfl rfl rfl trivial ?_
      refine vo_pick_t rfl rfl ?_
      refine vo_move_pv rfl rfl ?_
      refine vo_split 18 rfl (fun hg3 => ?_) (fun hg3 => ?_)
      · try simp only [decide_eq_true_eq, decide_eq_false_iff_not, beq_iff_eq, bne_iff_ne, beq_eq_false_iff_ne, bne_eq_false_iff_eq, Bool.not_eq_true, Bool.not_eq_false, Bool.not_eq_eq_eq_not, Bool.not_true, Bool.not_false, List.length_map, Int.not_lt, Int.not_le, ne_eq, Decidable.not_not] at hg3
        refine vo_guard_on rfl rfl rfl ?_
        refine vo_fieldAddr_ptr rfl rfl Try.underlying70 rfl inf32 (by rw [sz32]; decide) ?_
        try simp only [Nat.zero_add]
        refine vo_guard_on rfl rfl rfl ?_
        refine vo_load_var rfl rfl rfl Try.underlying32 rfl rfl ?_
        refine vo_guard_on rfl rfl rfl ?_
        refine vo_call0 Try.func104 rfl rfl rfl rfl (areOwn_sat (by omega)) ?_
        rintro _ _ ⟨rfl, rfl⟩
        refine ⟨rfl, rfl, .inl rfl, ?_⟩
        refine vo_stM ?_
        refine vo_pick_t rfl rfl ?_
        refine vo_assign_pv rfl rfl ?_
        refine vo_nil ?_
        refine hK4 _ ?_
        refine vc_ret ?_
        change retQ _ _ _ _ _
        refine retQ_sel [] (srows := []) (.inr rfl) hC rfl rfl rfl rfl rfl rfl rfl ?_
        refine ⟨?_, rfl⟩
        refine (congrArg (fun b => [bo b]) (?_ : _ = _) : [bo _] = [bo _])
        first
          | (refine bF fun h0 => ?_
             have h := hV.1 h0
             have h1 := h.1; have h2 := h.2.1
             first | omega | exact absurd h.2.2 (by assumption) | exact absurd h.2.2.1 (by assumption))
          | exact decide_eq_decide.2 ⟨fun h => hV.2 ⟨by omega, by omega, h⟩, fun h0 => (hV.1 h0).2.2⟩
          | exact decide_eq_decide.2 ⟨fun h => hV.2 ⟨by omega, by omega, by assumption, h⟩, fun h0 => (hV.1 h0).2.2.2⟩
      · try simp only [decide_eq_true_eq, decide_eq_false_iff_not, beq_iff_eq, bne_iff_ne, beq_eq_false_iff_ne, bne_eq_false_iff_eq, Bool.not_eq_true, Bool.not_eq_false, Bool.not_eq_eq_eq_not, Bool.not_true, Bool.not_false, List.length_map, Int.not_lt, Int.not_le, ne_eq, Decidable.not_not] at hg3
        refine vo_guard_off rfl rfl rfl rfl rfl ?_
        refine vo_guard_off rfl rfl rfl rfl rfl ?_
        refine vo_guard_off rfl rfl rfl rfl rfl ?_
        refine vo_pick_f rfl rfl ?_
        refine vo_assign_pv rfl rfl ?_
        refine vo_nil ?_
        refine hK4 _ ?_
        refine vc_ret ?_
        change retQ _ _ _ _ _
        refine retQ_sel [] (srows := []) (.inr rfl) hC rfl rfl rfl rfl rfl rfl rfl ?_
        refine ⟨?_, rfl⟩
        refine (congrArg (fun b => [bo b]) (?_ : _ = _) : [bo _] = [bo _])
        first
          | (refine bF fun h0 => ?_
             have h := hV.1 h0
             have h1 := h.1; have h2 := h.2.1
             first | omega | exact absurd h.2.2 (by assumption) | exact absurd h.2.2.1 (by assumption))
          | exact decide_eq_decide.2 ⟨fun h => hV.2 ⟨by omega, by omega, h⟩, fun h0 => (hV.1 h0).2.2⟩
          | exact decide_eq_decide.2 ⟨fun h => hV.2 ⟨by omega, by omega, by assumption, h⟩, fun h0 => (hV.1 h0).2.2.2⟩
    · try simp only [decide_eq_true_eq, decide_eq_false_iff_not, beq_iff_eq, bne_iff_ne, beq_eq_false_iff_ne, bne_eq_false_iff_eq, Bool.not_eq_true, Bool.not_eq_false, Bool.not_eq_eq_eq_not, Bool.not_true, Bool.not_false, List.length_map, Int.not_lt, Int.not_le, ne_eq, Decidable.not_not] at hg2
      refine vo_guard_off rfl rfl rfl rfl rfl ?_
      refine vo_guard_off rfl rfl rfl rfl rfl ?_
      refine vo_guard_off rfl rfl rfl rfl rfl ?_
      refine vo_guard_off rfl rfl rfl rfl rfl ?_
      refine vo_pick_f rfl rfl ?_
      refine vo_move_pv rfl rfl ?_
      refine vo_guard_off rfl rfl rfl rfl rfl ?_
      refine vo_guard_off rfl rfl rfl rfl rfl ?_
      refine vo_guard_off rfl rfl rfl rfl rfl ?_
      refine vo_pick_f rfl rfl ?_
      refine vo_assign_pv rfl rfl ?_
      refine vo_nil ?_
      refine hK4 _ ?_
      refine vc_ret ?_
      change retQ _ _ _ _ _
      refine retQ_sel [] (srows := []) (.inr rfl) hC rfl rfl rfl rfl rfl rfl rfl ?_
      refine ⟨?_, rfl⟩
      refine (congrArg (fun b => [bo b]) (?_ : _ = _) : [bo _] = [bo _])
      first
        | (refine bF fun h0 => ?_
           have h := hV.1 h0
           have h1 := h.1; have h2 := h.2.1
           first | omega | exact absurd h.2.2 (by assumption) | exact absurd h.2.2.1 (by assumption))
        | exact decide_eq_decide.2 ⟨fun h => hV.2 ⟨by omega, by omega, h⟩, fun h0 => (hV.1 h0).2.2⟩
        | exact decide_eq_decide.2 ⟨fun h => hV.2 ⟨by omega, by omega, by assumption, h⟩, fun h0 => (hV.1 h0).2.2.2⟩
  · try simp only [decide_eq_true_eq, decide_eq_false_iff_not, beq_iff_eq, bne_iff_ne, beq_eq_false_iff_ne, bne_eq_false_iff_eq, Bool.not_eq_true, Bool.not_eq_false, Bool.not_eq_eq_eq_not, Bool.not_true, Bool.not_false, List.length_map, Int.not_lt, Int.not_le, ne_eq, Decidable.not_not] at hc1
    have hV := vinst_sh (n := keys) (x := inst) (by first | exact hc1 | simpa using hc1)
    refine vc_skip ?_
    refine hK2 _ ?_
    refine vc_seq fun K5 hK5 => ?_
    refine vc_region ?_
    refine vo_fieldAddr_ptr rfl rfl Try.underlying70 rfl inf32 (by rw [sz32]; decide) ?_
    try simp only [Nat.zero_add]
    refine vo_load_var rfl rfl rfl Try.underlying32 rfl rfl ?_
    refine vo_len_pv rfl rfl Try.underlying32 ?_
    refine vo_binI rfl rfl rfl rfl trivial ?_
    refine vo_move_pv rfl rfl ?_
    refine vo_split 27 rfl (fun hg4 => ?_) (fun hg4 => ?_)
    · try simp only [decide_eq_true_eq, decide_eq_false_iff_not, beq_iff_eq, bne_iff_ne, beq_eq_false_iff_ne, bne_eq_false_iff_eq, Bool.not_eq_true, Bool.not_eq_false, Bool.not_eq_eq_eq_not, Bool.not_true, Bool.not_false, List.length_map, Int.not_lt, Int.not_le, ne_eq, Decidable.not_not] at hg4
      refine vo_guard_on rfl rfl rfl ?_
      refine vo_fieldAddr_ptr rfl rfl Try.underlying70 rfl inf50 (by rw [sz50]; decide) ?_
      try simp only [Nat.zero_add]
      refine vo_guard_on rfl rfl rfl ?_
      refine vo_load_var rfl rfl rfl Try.underlying50 rfl rfl ?_
      refine vo_guard_on rfl rfl rfl ?_
      refine vo_len_pv rfl rfl Try.underlying50 ?_
      refine vo_guard_on rfl rfl rfl ?_
      refine vo_move_pv rfl rfl ?_
      refine vo_guard_on rfl rfl rfl ?_
      refine vo_binI rfl rfl rfl rfl trivial ?_
      refine vo_pick_t rfl rfl ?_
      refine vo_move_pv rfl rfl ?_
      refine vo_split 34 rfl (fun hg5 => ?_) (fun hg5 => ?_)
      · try simp only [decide_eq_true_eq, decide_eq_false_iff_not, beq_iff_eq, bne_iff_ne, beq_eq_false_iff_ne, bne_eq_false_iff_eq, Bool.not_eq_true, Bool.not_eq_false, Bool.not_eq_eq_eq_not, Bool.not_true, Bool.not_false, List.length_map, Int.not_lt, Int.not_le, ne_eq, Decidable.not_not] at hg5
        refine vo_guard_on rfl rfl rfl ?_
        refine vo_fieldAddr_ptr rfl rfl Try.underlying70 rfl inf50 (by rw [sz50]; decide) ?_
        try simp only [Nat.zero_add]
        refine vo_guard_on rfl rfl rfl ?_
        refine vo_load_var rfl rfl rfl Try.underlying50 rfl rfl ?_
        refine vo_guard_on rfl rfl rfl ?_
        refine vo_call0 Try.func105 rfl rfl rfl rfl (areShared_sat (by omega)) ?_
        rintro _ _ ⟨rfl, rfl⟩
        refine ⟨rfl, rfl, .inl rfl, ?_⟩
        refine vo_stM ?_
        refine vo_pick_t rfl rfl ?_
        refine vo_move_pv rfl rfl ?_
        refine vo_split 39 rfl (fun hg6 => ?_) (fun hg6 => ?_)
        · try simp only [decide_eq_true_eq, decide_eq_false_iff_not, beq_iff_eq, bne_iff_ne, beq_eq_false_iff_ne, bne_eq_false_iff_eq, Bool.not_eq_true, Bool.not_eq_false, Bool.not_eq_eq_eq_not, Bool.not_true, Bool.not_false, List.length_map, Int.not_lt, Int.not_le, ne_eq, Decidable.not_not] at hg6
          refine vo_guard_on rfl rfl rfl ?_
          refine vo_fieldAddr_ptr rfl rfl Try.underlying70 rfl inf50 (by rw [sz50]; decide) ?_
          try simp only [Nat.zero_add]
          refine vo_guard_on rfl rfl rfl ?_
          refine vo_load_var rfl rfl rfl Try.underlying50 rfl rfl ?_
          refine vo_guard_on rfl rfl rfl ?_
          refine vo_fieldAddr_ptr rfl rfl Try.underlying70 rfl inf50 (by rw [sz50]; decide) ?_
          try simp only [Nat.zero_add]
          refine vo_guard_on rfl rfl rfl ?_
          refine vo_load_var rfl rfl rfl Try.underlying50 rfl rfl ?_
          refine vo_guard_on rfl rfl rfl ?_
          refine vo_call0 Try.func106 rfl rfl rfl rfl (tellsPlaces_sat (by omega) (by omega)) ?_
          rintro _ _ ⟨rfl, rfl⟩
          refine ⟨rfl, rfl, .inl rfl, ?_⟩
          refine vo_stM ?_
          refine vo_pick_t rfl rfl ?_
          refine vo_assign_pv rfl rfl ?_
          refine vo_nil ?_
          refine hK5 _ ?_
          refine vc_ret ?_
          change retQ _ _ _ _ _
          refine retQ_sel [] (srows := []) (.inr rfl) hC rfl rfl rfl rfl rfl rfl rfl ?_
          refine ⟨?_, rfl⟩
          refine (congrArg (fun b => [bo b]) (?_ : _ = _) : [bo _] = [bo _])
          first
            | (refine bF fun h0 => ?_
               have h := hV.1 h0
               have h1 := h.1; have h2 := h.2.1
               first | omega | exact absurd h.2.2 (by assumption) | exact absurd h.2.2.1 (by assumption))
            | exact decide_eq_decide.2 ⟨fun h => hV.2 ⟨by omega, by omega, h⟩, fun h0 => (hV.1 h0).2.2⟩
            | exact decide_eq_decide.2 ⟨fun h => hV.2 ⟨by omega, by omega, by assumption, h⟩, fun h0 => (hV.1 h0).2.2.2⟩
        · try simp only [decide_eq_true_eq, decide_eq_false_iff_not, beq_iff_eq, bne_iff_ne, beq_eq_false_iff_ne, bne_eq_false_iff_eq, Bool.not_eq_true, Bool.not_eq_false, Bool.not_eq_eq_eq_not, Bool.not_true, Bool.not_false, List.length_map, Int.not_lt, Int.not_le, ne_eq, Decidable.not_not] at hg6
          refine vo_guard_off rfl rfl rfl rfl rfl ?_
          refine vo_guard_off rfl rfl rfl rfl rfl ?_
          refine vo_guard_off rfl rfl rfl rfl rfl ?_
          refine vo_guard_off rfl rfl rfl rfl rfl ?_
          refine vo_guard_off rfl rfl rfl rfl rfl ?_
          refine vo_pick_f rfl rfl ?_
          refine vo_assign_pv rfl rfl ?_
          refine vo_nil ?_
          refine hK5 _ ?_
          refine vc_ret ?_
          change retQ _ _ _ _ _
          refine retQ_sel [] (srows := []) (.inr rfl) hC rfl rfl rfl rfl rfl rfl rfl ?_
          refine ⟨?_, rfl⟩
          refine (congrArg (fun b => [bo b]) (?_ : _ = _) : [bo _] = [bo _])
          first
            | (refine bF fun h0 => ?_
               have h := hV.1 h0
               have h1 := h.1; have h2 := h.2.1
               first | omega | exact absurd h.2.2 (by assumption) | exact absurd h.2.2.1 (by assumption))
            | exact decide_eq_decide.2 ⟨fun h => hV.2 ⟨by omega, by omega, h⟩, fun h0 => (hV.1 h0).2.2⟩
            | exact decide_eq_decide.2 ⟨fun h => hV.2 ⟨by omega, by omega, by assumption, h⟩, fun h0 => (hV.1 h0).2.2.2⟩
      · try simp only [decide_eq_true_eq, decide_eq_false_iff_not, beq_iff_eq, bne_iff_ne, beq_eq_false_iff_ne, bne_eq_false_iff_eq, Bool.not_eq_true, Bool.not_eq_false, Bool.not_eq_eq_eq_not, Bool.not_true, Bool.not_false, List.length_map, Int.not_lt, Int.not_le, ne_eq, Decidable.not_not] at hg5
        refine vo_guard_off rfl rfl rfl rfl rfl ?_
        refine vo_guard_off rfl rfl rfl rfl rfl ?_
        refine vo_guard_off rfl rfl rfl rfl rfl ?_
        refine vo_pick_f rfl rfl ?_
        refine vo_move_pv rfl rfl ?_
        refine vo_guard_off rfl rfl rfl rfl rfl ?_
        refine vo_guard_off rfl rfl rfl rfl rfl ?_
        refine vo_guard_off rfl rfl rfl rfl rfl ?_
        refine vo_guard_off rfl rfl rfl rfl rfl ?_
        refine vo_guard_off rfl rfl rfl rfl rfl ?_
        refine vo_pick_f rfl rfl ?_
        refine vo_assign_pv rfl rfl ?_
        refine vo_nil ?_
        refine hK5 _ ?_
        refine vc_ret ?_
        change retQ _ _ _ _ _
        refine retQ_sel [] (srows := []) (.inr rfl) hC rfl rfl rfl rfl rfl rfl rfl ?_
        refine ⟨?_, rfl⟩
        refine (congrArg (fun b => [bo b]) (?_ : _ = _) : [bo _] = [bo _])
        first
          | (refine bF fun h0 => ?_
             have h := hV.1 h0
             have h1 := h.1; have h2 := h.2.1
             first | omega | exact absurd h.2.2 (by assumption) | exact absurd h.2.2.1 (by assumption))
          | exact decide_eq_decide.2 ⟨fun h => hV.2 ⟨by omega, by omega, h⟩, fun h0 => (hV.1 h0).2.2⟩
          | exact decide_eq_decide.2 ⟨fun h => hV.2 ⟨by omega, by omega, by assumption, h⟩, fun h0 => (hV.1 h0).2.2.2⟩
    · try simp only [decide_eq_true_eq, decide_eq_false_iff_not, beq_iff_eq, bne_iff_ne, beq_eq_false_iff_ne, bne_eq_false_iff_eq, Bool.not_eq_true, Bool.not_eq_false, Bool.not_eq_eq_eq_not, Bool.not_true, Bool.not_false, List.length_map, Int.not_lt, Int.not_le, ne_eq, Decidable.not_not] at hg4
      refine vo_guard_off rfl rfl rfl rfl rfl ?_
      refine vo_guard_off rfl rfl rfl rfl rfl ?_
      refine vo_guard_off rfl rfl rfl rfl rfl ?_
      refine vo_guard_off rfl rfl rfl rfl rfl ?_
      refine vo_guard_off rfl rfl rfl rfl rfl ?_
      refine vo_pick_f rfl rfl ?_
      refine vo_move_pv rfl rfl ?_
      refine vo_guard_off rfl rfl rfl rfl rfl ?_
      refine vo_guard_off rfl rfl rfl rfl rfl ?_
      refine vo_guard_off rfl rfl rfl rfl rfl ?_
      refine vo_pick_f rfl rfl ?_
      refine vo_move_pv rfl rfl ?_
      refine vo_guard_off rfl rfl rfl rfl rfl ?_
      refine vo_guard_off rfl rfl rfl rfl rfl ?_
      refine vo_guard_off rfl rfl rfl rfl rfl ?_
      refine vo_guard_off rfl rfl rfl rfl rfl ?_
      refine vo_guard_off rfl rfl rfl rfl rfl ?_
      refine vo_pick_f rfl rfl ?_
      refine vo_assign_pv rfl rfl ?_
      refine vo_nil ?_
      refine hK5 _ ?_
      refine vc_ret ?_
      change retQ _ _ _ _ _
      refine retQ_sel [] (srows := []) (.inr rfl) hC rfl rfl rfl rfl rfl rfl rfl ?_
      refine ⟨?_, rfl⟩
      refine (congrArg (fun b => [bo b]) (?_ : _ = _) : [bo _] = [bo _])
      first
        | (refine bF fun h0 => ?_
           have h := hV.1 h0
           have h1 := h.1; have h2 := h.2.1
           first | omega | exact absurd h.2.2 (by assumption) | exact absurd h.2.2.1 (by assumption))
        | exact decide_eq_decide.2 ⟨fun h => hV.2 ⟨by omega, by omega, h⟩, fun h0 => (hV.1 h0).2.2⟩
        | exact decide_eq_decide.2 ⟨fun h => hV.2 ⟨by omega, by omega, by assumption, h⟩, fun h0 => (hV.1 h0).2.2.2⟩


theorem implValidHeap_sat {h : HeapM}  (hh : SH h) : SatAt Try.prog 37 [.pv false (heapP h)] [] (fun res rows => res = [bo (decide (VHeap h))] ∧ rows = []) := by
  obtain ⟨hh1, hh2, hh3⟩ := hh
  refine sat_entry_G (rs := [(2, none)]) Try.func37 rfl rfl (Nat.le_of_ble_eq_true rfl) (Nat.le_of_ble_eq_true rfl) (resTs1 trivial) fun C hC => ?_
  rw [Try.ntmps37]
  replace hC : C.nb = 0 := hC
  refine vc_seq fun K1 hK1 => ?_
  refine vc_region ?_
  refine vo_box rfl rfl ?_
  refine vo_stM ?_
  refine vo_assign_pv rfl rfl ?_
  refine vo_nil ?_
  refine hK1 _ ?_
  refine vc_seq fun K2 hK2 => ?_
  refine vc_seq fun K3 hK3 => ?_
  refine vc_region ?_
  refine vo_fieldAddr_ptr rfl rfl Try.underlying58 rfl inf50 (by rw [sz50]; decide) ?_
  try simp only [Nat.zero_add]
  refine vo_load_var rfl rfl rfl Try.underlying50 rfl rfl ?_
  refine vo_call0 Try.func76 rfl rfl rfl rfl (isList_sat (by omega)) ?_
  rintro _ _ ⟨rfl, rfl⟩
  refine ⟨rfl, rfl, .inl rfl, ?_⟩
  refine vo_stM ?_
  refine vo_not rfl rfl ?_
  refine vo_move_pv rfl rfl ?_
  refine vo_split 9 rfl (fun hg1 => ?_) (fun hg1 => ?_)
  · try simp only [decide_eq_true_eq, decide_eq_false_iff_not, beq_iff_eq, bne_iff_ne, beq_eq_false_iff_ne, bne_eq_false_iff_eq, Bool.not_eq_true, Bool.not_eq_false, Bool.not_eq_eq_eq_not, Bool.not_true, Bool.not_false, List.length_map, Int.not_lt, Int.not_le, ne_eq, Decidable.not_not] at hg1
    refine vo_guard_off rfl rfl rfl rfl rfl ?_
    refine vo_guard_off rfl rfl rfl rfl rfl ?_
    refine vo_guard_off rfl rfl rfl rfl rfl ?_
    refine vo_guard_off rfl rfl rfl rfl rfl ?_
    refine vo_pick_t rfl rfl ?_
    refine vo_move_pv rfl rfl ?_
    refine vo_guard_off rfl rfl rfl rfl rfl ?_
    refine vo_guard_off rfl rfl rfl rfl rfl ?_
    refine vo_guard_off rfl rfl rfl rfl rfl ?_
    refine vo_guard_off rfl rfl rfl rfl rfl ?_
    refine vo_pick_t rfl rfl ?_
    refine vo_nil ?_
    refine hK3 _ ?_
    refine vc_cond_t rfl ?_
    refine vc_seq fun K4 hK4 => ?_
    refine vc_region ?_
    refine vo_assign_pv rfl rfl ?_
    refine vo_nil ?_
    refine hK4 _ ?_
    refine vc_ret ?_
    change retQ _ _ _ _ _
    refine retQ_sel [] (srows := []) (.inr rfl) hC rfl rfl rfl rfl rfl rfl rfl ?_
    refine ⟨?_, rfl⟩
    refine (congrArg (fun b => [bo b]) (?_ : _ = _) : [bo _] = [bo _])
    first
      | (refine bF fun h0 => ?_
         have h1 := h0.1.1; have h2 := h0.2.2.1
         first | omega | exact absurd (⟨by omega, h0.1.2⟩ : OKL h.keys 5) (by assumption) | exact absurd h0.2.1 (by assumption) | exact absurd (h0.2.2.2 _ (getD_mem (show k < h.insts.length by omega) ⟨false, [], [], []⟩)) (by assumption))
      | (rw [take_all (by omega)] at hf; exact bT ⟨⟨by have := hg1.1; omega, hg1.2⟩, by assumption, by omega, hf⟩)
  · try simp only [decide_eq_true_eq, decide_eq_false_iff_not, beq_iff_eq, bne_iff_ne, beq_eq_false_iff_ne, bne_eq_false_iff_eq, Bool.not_eq_true, Bool.not_eq_false, Bool.not_eq_eq_eq_not, Bool.not_true, Bool.not_false, List.length_map, Int.not_lt, Int.not_le, ne_eq, Decidable.not_not] at hg1
    refine vo_guard_on rfl rfl rfl ?_
    refine vo_fieldAddr_ptr rfl rfl Try.underlying58 rfl inf50 (by rw [sz50]; decide) ?_
    try simp only [Nat.zero_add]
    refine vo_guard_on rfl rfl rfl ?_
    refine vo_load_var rfl rfl rfl Try.underlying50 rfl rfl ?_
    refine vo_guard_on rfl rfl rfl ?_
    refine vo_call0 Try.func77 rfl rfl rfl rfl (areUpTo_sat (by omega)) ?_
    rintro _ _ ⟨rfl, rfl⟩
    refine ⟨rfl, rfl, .inl rfl, ?_⟩
    refine vo_stM ?_
    refine vo_guard_on rfl rfl rfl ?_
    refine vo_not rfl rfl ?_
    refine vo_pick_f rfl rfl ?_
    refine vo_move_pv rfl rfl ?_
    refine vo_split 15 rfl (fun hg2 => ?_) (fun hg2 => ?_)
    · try simp only [decide_eq_true_eq, decide_eq_false_iff_not, beq_iff_eq, bne_iff_ne, beq_eq_false_iff_ne, bne_eq_false_iff_eq, Bool.not_eq_true, Bool.not_eq_false, Bool.not_eq_eq_eq_not, Bool.not_true, Bool.not_false, List.length_map, Int.not_lt, Int.not_le, ne_eq, Decidable.not_not] at hg2
      refine vo_guard_off rfl rfl rfl rfl rfl ?_
      refine vo_guard_off rfl rfl rfl rfl rfl ?_
      refine vo_guard_off rfl rfl rfl rfl rfl ?_
      refine vo_guard_off rfl rfl rfl rfl rfl ?_
      refine vo_pick_t rfl rfl ?_
      refine vo_nil ?_
      refine hK3 _ ?_
      refine vc_cond_t rfl ?_
      refine vc_seq fun K5 hK5 => ?_
      refine vc_region ?_
      refine vo_assign_pv rfl rfl ?_
      refine vo_nil ?_
      refine hK5 _ ?_
      refine vc_ret ?_
      change retQ _ _ _ _ _
      refine retQ_sel [] (srows := []) (.inr rfl) hC rfl rfl rfl rfl rfl rfl rfl ?_
      refine ⟨?_, rfl⟩
      refine (congrArg (fun b => [bo b]) (?_ : _ = _) : [bo _] = [bo _])
      first
        | (refine bF fun h0 => ?_
           have h1 := h0.1.1; have h2 := h0.2.2.1
           first | omega | exact absurd (⟨by omega, h0.1.2⟩ : OKL h.keys 5) (by assumption) | exact absurd h0.2.1 (by assumption) | exact absurd (h0.2.2.2 _ (getD_mem (show k < h.insts.length by omega) ⟨false, [], [], []⟩)) (by assumption))
        | (rw [take_all (by omega)] at hf; exact bT ⟨⟨by have := hg1.1; omega, hg1.2⟩, by assumption, by omega, hf⟩)
    · try simp only [decide_eq_true_eq, decide_eq_false_iff_not, beq_iff_eq, bne_iff_ne, beq_eq_false_iff_ne, bne_eq_false_iff_eq, Bool.not_eq_true, Bool.not_eq_false, Bool.not_eq_eq_eq_not, Bool.not_true, Bool.not_false, List.length_map, Int.not_lt, Int.not_le, ne_eq, Decidable.not_not] at hg2
      refine vo_guard_on rfl rfl rfl ?_
      refine vo_fieldAddr_ptr rfl rfl Try.underlying58 rfl inf56 (by rw [sz56]; decide) ?_
      try simp only [Nat.zero_add]
      refine vo_guard_on rfl rfl rfl ?_
      refine vo_load_var rfl rfl rfl Try.underlying56 rfl rfl ?_
      refine vo_guard_on rfl rfl rfl ?_
      refine vo_len_pv rfl rfl Try.underlying56 ?_
      refine vo_guard_on rfl rfl rfl ?_
      refine vo_binI rfl rfl rfl rfl trivial ?_
      refine vo_pick_f rfl rfl ?_
      refine vo_nil ?_
      refine hK3 _ ?_
      refine vc_cond rfl (fun hc3 => ?_) (fun hc3 => ?_)
      · try simp only [decide_eq_true_eq, decide_eq_false_iff_not, beq_iff_eq, bne_iff_ne, beq_eq_false_iff_ne, bne_eq_false_iff_eq, Bool.not_eq_true, Bool.not_eq_false, Bool.not_eq_eq_eq_not, Bool.not_true, Bool.not_false, List.length_map, Int.not_lt, Int.not_le, ne_eq, Decidable.not_not] at hc3
        refine vc_seq fun K6 hK6 => ?_
        refine vc_region ?_
        refine vo_assign_pv rfl rfl ?_
        refine vo_nil ?_
        refine hK6 _ ?_
        refine vc_ret ?_
        change retQ _ _ _ _ _
        refine retQ_sel [] (srows := []) (.inr rfl) hC rfl rfl rfl rfl rfl rfl rfl ?_
        refine ⟨?_, rfl⟩
        refine (congrArg (fun b => [bo b]) (?_ : _ = _) : [bo _] = [bo _])
        first
          | (refine bF fun h0 => ?_
             have h1 := h0.1.1; have h2 := h0.2.2.1
             first | omega | exact absurd (⟨by omega, h0.1.2⟩ : OKL h.keys 5) (by assumption) | exact absurd h0.2.1 (by assumption) | exact absurd (h0.2.2.2 _ (getD_mem (show k < h.insts.length by omega) ⟨false, [], [], []⟩)) (by assumption))
          | (rw [take_all (by omega)] at hf; exact bT ⟨⟨by have := hg1.1; omega, hg1.2⟩, by assumption, by omega, hf⟩)
      · try simp only [decide_eq_true_eq, decide_eq_false_iff_not, beq_iff_eq, bne_iff_ne, beq_eq_false_iff_ne, bne_eq_false_iff_eq, Bool.not_eq_true, Bool.not_eq_false, Bool.not_eq_eq_eq_not, Bool.not_true, Bool.not_false, List.length_map, Int.not_lt, Int.not_le, ne_eq, Decidable.not_not] at hc3
        refine vc_skip ?_
        refine hK2 _ ?_
        refine vc_seq fun K7 hK7 => ?_
        refine vc_seq fun K8 hK8 => ?_
        refine vc_region ?_
        refine vo_fieldAddr_ptr rfl rfl Try.underlying58 rfl inf56 (by rw [sz56]; decide) ?_
        try simp only [Nat.zero_add]
        refine vo_load_var rfl rfl rfl Try.underlying56 rfl rfl ?_
        refine vo_len_pv rfl rfl Try.underlying56 ?_
        refine vo_move_pv rfl rfl ?_
        refine vo_nil ?_
        refine hK8 _ ?_
        refine vc_block ?_
        refine vc_stM ?_
        refine vc_loopE [1, 22, 23] [24] [] _ _ (fun mz vs rs => ∃ (k : Nat), mz = h.insts.length - k ∧ (k ≤ h.insts.length) ∧ (∀ x ∈ h.insts.take k, VInst h.keys.length x) ∧ vs = [i64 k] ∧ rs = []) (h.insts.length) rfl rfl (le_len hC rfl) ⟨rfl, rfl, rfl⟩ rfl ⟨0, rfl, Nat.zero_le _, (by simp), rfl, rfl⟩ ?_
        rintro mz vs rs - - ⟨k, rfl, hk, hf, rfl, rfl⟩
        refine vc_stM ?_
        refine vc_seq fun K9 hK9 => ?_
        refine vc_region ?_
        refine vo_binI rfl rfl rfl rfl trivial ?_
        refine vo_nil ?_
        refine hK9 _ ?_
        refine vc_seq fun K10 hK10 => ?_
        refine vc_cond rfl (fun hc4 => ?_) (fun hc4 => ?_)
        · try simp only [decide_eq_true_eq, decide_eq_false_iff_not, beq_iff_eq, bne_iff_ne, beq_eq_false_iff_ne, bne_eq_false_iff_eq, Bool.not_eq_true, Bool.not_eq_false, Bool.not_eq_eq_eq_not, Bool.not_true, Bool.not_false, List.length_map, Int.not_lt, Int.not_le, ne_eq, Decidable.not_not] at hc4
          refine vc_skip ?_
          refine hK10 _ ?_
          refine vc_seq fun K11 hK11 => ?_
          refine vc_block ?_
          refine vc_seq fun K12 hK12 => ?_
          refine vc_region ?_
          refine vo_index_pv (.agg [(.bool false), (.sl none 1 []), (.sl none 1 []), (.sl none 2 [])]) rfl rfl rfl E56.und inf70 sz70 sd sd ?_
          simp only [Int.toNat_natCast, Int.toNat_zero, getD_ints, getD_intss, getD_bools, getD_bytes, PV.cells, getD_ops, getD_pairs, getD_insts]
          refine vo_load_adrS rfl rfl Try.underlying70 rfl inf70 sz70 rfl ?_
          refine vo_st (by (try simp only [St.put, PV.cells, PV.scal, List.drop_succ_cons, List.drop_zero, List.take_succ_cons, List.take_zero, List.map_cons, List.map_nil, Bool.or_true, Bool.or_false, Bool.false_or, Bool.true_or, opP, pairP, instP, heapP]); exact eq_refl _) ?_
          refine vo_alloc Z70 rfl ?_
          refine vo_stM ?_
          refine vo_store_varS rfl rfl rfl inf70 sz70 rfl ?_
          refine vo_stM ?_
          refine vo_nil ?_
          refine hK12 _ ?_
          refine vc_seq fun K13 hK13 => ?_
          refine vc_region ?_
          refine vo_load_varS rfl rfl rfl Try.underlying70 rfl inf70 sz70 rfl rfl ?_
          refine vo_fieldAddr_ptr rfl rfl Try.underlying58 rfl inf50 (by rw [sz50]; decide) ?_
          try simp only [Nat.zero_add]
          refine vo_load_var rfl rfl rfl Try.underlying50 rfl rfl ?_
          refine vo_len_pv rfl rfl Try.underlying50 ?_
          refine vo_call0 Try.func78 rfl rfl rfl rfl (isInst_sat (keys := (h.keys.map intP).length) (by rw [List.length_map]; omega) (getD_all hh3 _ SI_zero _)) ?_
          rintro _ _ ⟨rfl, rfl⟩
          refine ⟨rfl, rfl, .inl rfl, ?_⟩
          refine vo_stM ?_
          refine vo_not rfl rfl ?_
          refine vo_nil ?_
          refine hK13 _ ?_
          refine vc_cond rfl (fun hc5 => ?_) (fun hc5 => ?_)
          · try simp only [decide_eq_true_eq, decide_eq_false_iff_not, beq_iff_eq, bne_iff_ne, beq_eq_false_iff_ne, bne_eq_false_iff_eq, Bool.not_eq_true, Bool.not_eq_false, Bool.not_eq_eq_eq_not, Bool.not_true, Bool.not_false, List.length_map, Int.not_lt, Int.not_le, ne_eq, Decidable.not_not] at hc5
            refine vc_seq fun K14 hK14 => ?_
            refine vc_region ?_
            refine vo_assign_pv rfl rfl ?_
            refine vo_nil ?_
            refine hK14 _ ?_
            refine vc_ret ?_
            change retQ _ _ _ _ _
            refine retQ_sel [] (srows := []) (.inr rfl) hC rfl rfl rfl rfl rfl rfl rfl ?_
            refine ⟨?_, rfl⟩
            refine (congrArg (fun b => [bo b]) (?_ : _ = _) : [bo _] = [bo _])
            first
              | (refine bF fun h0 => ?_
                 have h1 := h0.1.1; have h2 := h0.2.2.1
                 first | omega | exact absurd (⟨by omega, h0.1.2⟩ : OKL h.keys 5) (by assumption) | exact absurd h0.2.1 (by assumption) | exact absurd (h0.2.2.2 _ (getD_mem (show k < h.insts.length by omega) ⟨false, [], [], []⟩)) (by assumption))
              | (rw [take_all (by omega)] at hf; exact bT ⟨⟨by have := hg1.1; omega, hg1.2⟩, by assumption, by omega, hf⟩)
          · try simp only [decide_eq_true_eq, decide_eq_false_iff_not, beq_iff_eq, bne_iff_ne, beq_eq_false_iff_ne, bne_eq_false_iff_eq, Bool.not_eq_true, Bool.not_eq_false, Bool.not_eq_eq_eq_not, Bool.not_true, Bool.not_false, List.length_map, Int.not_lt, Int.not_le, ne_eq, Decidable.not_not] at hc5
            refine vc_skip ?_
            refine hK11 _ ?_
            refine vc_region ?_
            refine vo_binI rfl rfl rfl rfl sd ?_
            refine vo_move_pv rfl rfl ?_
            refine vo_nil ?_
            change againE _ _ _ _ _ _ _ _ _ _
            refine againE_mk rfl rfl rfl rfl rfl rfl ⟨_, ?_, k + 1, rfl, ?_, ?_, rfl, rfl⟩
            · omega
            · omega
            · exact (all_take_succ (by omega) ⟨false, [], [], []⟩).2 ⟨hf, by assumption⟩
        · try simp only [decide_eq_true_eq, decide_eq_false_iff_not, beq_iff_eq, bne_iff_ne, beq_eq_false_iff_ne, bne_eq_false_iff_eq, Bool.not_eq_true, Bool.not_eq_false, Bool.not_eq_eq_eq_not, Bool.not_true, Bool.not_false, List.length_map, Int.not_lt, Int.not_le, ne_eq, Decidable.not_not] at hc4
          refine vc_exit ?_
          refine hK7 _ ?_
          refine vc_seq fun K15 hK15 => ?_
          refine vc_region ?_
          refine vo_assign_pv rfl rfl ?_
          refine vo_nil ?_
          refine hK15 _ ?_
          refine vc_ret ?_
          change retQ _ _ _ _ _
          refine retQ_sel [] (srows := []) (.inr rfl) hC rfl rfl rfl rfl rfl rfl rfl ?_
          refine ⟨?_, rfl⟩
          refine (congrArg (fun b => [bo b]) (?_ : _ = _) : [bo _] = [bo _])
          first
            | (refine bF fun h0 => ?_
               have h1 := h0.1.1; have h2 := h0.2.2.1
               first | omega | exact absurd (⟨by omega, h0.1.2⟩ : OKL h.keys 5) (by assumption) | exact absurd h0.2.1 (by assumption) | exact absurd (h0.2.2.2 _ (getD_mem (show k < h.insts.length by omega) ⟨false, [], [], []⟩)) (by assumption))
            | (rw [take_all (by omega)] at hf; exact bT ⟨⟨by have := hg1.1; omega, hg1.2⟩, by assumption, by omega, hf⟩)


theorem validInst_sat {h : HeapM} {x : InstM}  (hk : h.keys.length < 1000000000) (hi : SI x) : SatAt Try.prog 101 [.pv false (heapP h), .pv false (instP x)] [] (fun res rows => res = [bo (decide (VInst h.keys.length x))] ∧ rows = []) := by
  unfold SI at hi
  refine sat_entry_G (rs := [(4, none)]) Try.func101 rfl rfl (Nat.le_of_ble_eq_true rfl) (Nat.le_of_ble_eq_true rfl) (resTs1 trivial) fun C hC => ?_
  rw [Try.ntmps101]
  replace hC : C.nb = 0 := hC
  refine vc_seq fun K1 hK1 => ?_
  refine vc_region ?_
  refine vo_box rfl rfl ?_
  refine vo_stM ?_
  refine vo_box rfl rfl ?_
  refine vo_stM ?_
  refine vo_assign_pv rfl rfl ?_
  refine vo_nil ?_
  refine hK1 _ ?_
  refine vc_seq fun K2 hK2 => ?_
  refine vc_region ?_
  refine vo_buildSlice E50 rfl rfl rfl rfl rfl ?_
  refine vo_stM ?_
  refine vo_assign_ref rfl rfl ?_
  refine vo_nil ?_
  refine hK2 _ ?_
  refine vc_seq fun K3 hK3 => ?_
  refine vc_seq fun K4 hK4 => ?_
  refine vc_region ?_
  refine vo_assign_pv rfl rfl ?_
  refine vo_nil ?_
  refine hK4 _ ?_
  refine vc_block ?_
  refine vc_stM ?_
  refine vc_loopE [2, 3] [5, 6] [2] _ _ (fun mz vs rs => ∃ (k : Nat), mz = x.own.length - k ∧ (k ≤ x.own.length) ∧ (∀ p ∈ x.own.take k, okPair p) ∧ vs = [.ref 2, i64 k] ∧ rs = [Row.own 3 1 (some false) true ((nms (x.own.take k)).map intP)]) (x.own.length) rfl rfl (le_len hC rfl) ⟨rfl, rfl, rfl⟩ rfl ⟨0, rfl, Nat.zero_le _, (by simp), rfl, rfl⟩ ?_
  rintro mz vs rs - - ⟨k, rfl, hk, hf, rfl, rfl⟩
  refine vc_stM ?_
  refine vc_seq fun K5 hK5 => ?_
  refine vc_seq fun K6 hK6 => ?_
  refine vc_region ?_
  refine vo_move_pv rfl rfl ?_
  refine vo_fieldAddr_ptr rfl rfl Try.underlying70 rfl inf32 (by rw [sz32]; decide) ?_
  try simp only [Nat.zero_add]
  refine vo_load_var rfl rfl rfl Try.underlying32 rfl rfl ?_
  refine vo_len_pv rfl rfl Try.underlying32 ?_
  refine vo_binI rfl rfl rfl rfl trivial ?_
  refine vo_nil ?_
  refine hK6 _ ?_
  refine vc_cond rfl (fun hc1 => ?_) (fun hc1 => ?_)
  · try simp only [decide_eq_true_eq, decide_eq_false_iff_not, beq_iff_eq, bne_iff_ne, beq_eq_false_iff_ne, bne_eq_false_iff_eq, Bool.not_eq_true, Bool.not_eq_false, Bool.not_eq_eq_eq_not, Bool.not_true, Bool.not_false, List.length_map, Int.not_lt, Int.not_le, ne_eq, Decidable.not_not] at hc1
    refine vc_skip ?_
    refine hK5 _ ?_
    refine vc_seq fun K7 hK7 => ?_
    refine vc_block ?_
    refine vc_seq fun K8 hK8 => ?_
    refine vc_seq fun K9 hK9 => ?_
    refine vc_region ?_
    refine vo_fieldAddr_ptr rfl rfl Try.underlying70 rfl inf32 (by rw [sz32]; decide) ?_
    try simp only [Nat.zero_add]
    refine vo_load_var rfl rfl rfl Try.underlying32 rfl rfl ?_
    refine vo_move_pv rfl rfl ?_
    refine vo_index_pv (.agg [(.int .i64 0), (.int .i64 0)]) rfl rfl rfl E32.und inf37 sz37 sd sd ?_
    simp only [Int.toNat_natCast, Int.toNat_zero, getD_ints, getD_intss, getD_bools, getD_bytes, PV.cells, getD_ops, getD_pairs, getD_insts]
    refine vo_fieldAddr_adr rfl rfl Try.underlying37 rfl inf3 (by rw [sz3]; decide) ?_
    refine vo_load_adr rfl rfl Try.underlying3 rfl ?_
    refine vo_call0 Try.func69 rfl rfl rfl rfl inRange_sat ?_
    rintro _ _ ⟨rfl, rfl⟩
    refine ⟨rfl, rfl, .inl rfl, ?_⟩
    refine vo_stM ?_
    refine vo_not rfl rfl ?_
    refine vo_move_pv rfl rfl ?_
    refine vo_split 24 rfl (fun hg2 => ?_) (fun hg2 => ?_)
    · try simp only [decide_eq_true_eq, decide_eq_false_iff_not, beq_iff_eq, bne_iff_ne, beq_eq_false_iff_ne, bne_eq_false_iff_eq, Bool.not_eq_true, Bool.not_eq_false, Bool.not_eq_eq_eq_not, Bool.not_true, Bool.not_false, List.length_map, Int.not_lt, Int.not_le, ne_eq, Decidable.not_not] at hg2
      refine vo_guard_off rfl rfl rfl rfl rfl ?_
      refine vo_guard_off rfl rfl rfl rfl rfl ?_
      refine vo_guard_off rfl rfl rfl rfl rfl ?_
      refine vo_guard_off rfl rfl rfl rfl rfl ?_
      refine vo_guard_off rfl rfl rfl rfl rfl ?_
      refine vo_guard_off rfl rfl rfl rfl rfl ?_
      refine vo_guard_off rfl rfl rfl rfl rfl ?_
      refine vo_guard_off rfl rfl rfl rfl rfl ?_
      refine vo_pick_t rfl rfl ?_
      refine vo_nil ?_
      refine hK9 _ ?_
      refine vc_cond_t rfl ?_
      refine vc_seq fun K10 hK10 => ?_
      refine vc_region ?_
      refine vo_assign_pv rfl rfl ?_
      refine vo_nil ?_
      refine hK10 _ ?_
      refine vc_ret ?_
      change retQ _ _ _ _ _
      refine retQ_sel [] (srows := []) (.inr rfl) hC rfl rfl rfl rfl rfl rfl rfl ?_
      refine ⟨?_, rfl⟩
      refine (congrArg (fun b => [bo b]) (?_ : _ = _) : [bo _] = [bo _])
      first
        | exact bF (validI_own (h := h) (k := k) (by omega) (by unfold okPair; omega))
        | (refine bF fun h0 => ?_
           have h := hV.1 h0
           have h1 := h.1; have h2 := h.2.1
           first
             | omega
             | exact absurd h.2.2.1 (by rw [hall] at hg5; exact hg5)
             | (have hT := (tpl_iff h.2.2.1.1).1 h.2.2.2
                first
                  | exact absurd h.2.2.1.1 (by assumption)
                  | exact absurd hT.1 (by assumption)
                  | exact absurd hT.2.1 (by assumption)
                  | (have h3 := hT.2.2 k (by omega)
                     exact hc13 (decide_eq_decide.2 (h3.trans (findM_mem _ _ 0 (by omega)).symm)))))
        | (rw [hall] at hf hg5
           rw [Bool.eq_iff_iff, beq_iff_eq, decide_eq_true_eq, hV, List.length_map]
           exact ⟨fun h => ⟨by omega, by omega, hg5, hf⟩, fun h => by have := h.2.1; omega⟩)
        | exact bT (hV.2 ⟨by omega, by omega, ⟨hg9, .inl (by omega)⟩, (tpl_iff hg9).2 ⟨hg10, hc11, fun i hi => hf2 i (by omega)⟩⟩)
        | (rw [List.length_map, show ((x.values.length : Int) - 1).toNat = x.values.length - 1 by omega]
           exact decide_eq_decide.2 ⟨fun h => hV.2 ⟨by omega, by omega, ⟨hg9, .inr h⟩, (tpl_iff hg9).2 ⟨hg10, hc11, fun i hi => hf2 i (by omega)⟩⟩, fun h0 => by
             rcases (hV.1 h0).2.2.1.2 with h | h
             · omega
             · exact h⟩)
    · try simp only [decide_eq_true_eq, decide_eq_false_iff_not, beq_iff_eq, bne_iff_ne, beq_eq_false_iff_ne, bne_eq_false_iff_eq, Bool.not_eq_true, Bool.not_eq_false, Bool.not_eq_eq_eq_not, Bool.not_true, Bool.not_false, List.length_map, Int.not_lt, Int.not_le, ne_eq, Decidable.not_not] at hg2
      refine vo_guard_on rfl rfl rfl ?_
      refine vo_fieldAddr_ptr rfl rfl Try.underlying70 rfl inf32 (by rw [sz32]; decide) ?_
      try simp only [Nat.zero_add]
      refine vo_guard_on rfl rfl rfl ?_
      refine vo_load_var rfl rfl rfl Try.underlying32 rfl rfl ?_
      refine vo_guard_on rfl rfl rfl ?_
      refine vo_move_pv rfl rfl ?_
      refine vo_guard_on rfl rfl rfl ?_
      refine vo_index_pv (.agg [(.int .i64 0), (.int .i64 0)]) rfl rfl rfl E32.und inf37 sz37 sd sd ?_
      simp only [Int.toNat_natCast, Int.toNat_zero, getD_ints, getD_intss, getD_bools, getD_bytes, PV.cells, getD_ops, getD_pairs, getD_insts]
      refine vo_guard_on rfl rfl rfl ?_
      refine vo_fieldAddr_adr rfl rfl Try.underlying37 rfl inf3 (by rw [sz3]; decide) ?_
      refine vo_guard_on rfl rfl rfl ?_
      refine vo_load_adr rfl rfl Try.underlying3 rfl ?_
      refine vo_guard_on rfl rfl rfl ?_
      refine vo_call0 Try.func69 rfl rfl rfl rfl inRange_sat ?_
      rintro _ _ ⟨rfl, rfl⟩
      refine ⟨rfl, rfl, .inl rfl, ?_⟩
      refine vo_stM ?_
      refine vo_guard_on rfl rfl rfl ?_
      refine vo_not rfl rfl ?_
      refine vo_pick_f rfl rfl ?_
      refine vo_nil ?_
      refine hK9 _ ?_
      refine vc_cond rfl (fun hc3 => ?_) (fun hc3 => ?_)
      · try simp only [decide_eq_true_eq, decide_eq_false_iff_not, beq_iff_eq, bne_iff_ne, beq_eq_false_iff_ne, bne_eq_false_iff_eq, Bool.not_eq_true, Bool.not_eq_false, Bool.not_eq_eq_eq_not, Bool.not_true, Bool.not_false, List.length_map, Int.not_lt, Int.not_le, ne_eq, Decidable.not_not] at hc3
        refine vc_seq fun K11 hK11 => ?_
        refine vc_region ?_
        refine vo_assign_pv rfl rfl ?_
        refine vo_nil ?_
        refine hK11 _ ?_
        refine vc_ret ?_
        change retQ _ _ _ _ _
        refine retQ_sel [] (srows := []) (.inr rfl) hC rfl rfl rfl rfl rfl rfl rfl ?_
        refine ⟨?_, rfl⟩
        refine (congrArg (fun b => [bo b]) (?_ : _ = _) : [bo _] = [bo _])
        first
          | exact bF (validI_own (h := h) (k := k) (by omega) (by unfold okPair; omega))
          | (refine bF fun h0 => ?_
             have h := hV.1 h0
             have h1 := h.1; have h2 := h.2.1
             first
               | omega
               | exact absurd h.2.2.1 (by rw [hall] at hg5; exact hg5)
               | (have hT := (tpl_iff h.2.2.1.1).1 h.2.2.2
                  first
                    | exact absurd h.2.2.1.1 (by assumption)
                    | exact absurd hT.1 (by assumption)
                    | exact absurd hT.2.1 (by assumption)
                    | (have h3 := hT.2.2 k (by omega)
                       exact hc13 (decide_eq_decide.2 (h3.trans (findM_mem _ _ 0 (by omega)).symm)))))
          | (rw [hall] at hf hg5
             rw [Bool.eq_iff_iff, beq_iff_eq, decide_eq_true_eq, hV, List.length_map]
             exact ⟨fun h => ⟨by omega, by omega, hg5, hf⟩, fun h => by have := h.2.1; omega⟩)
          | exact bT (hV.2 ⟨by omega, by omega, ⟨hg9, .inl (by omega)⟩, (tpl_iff hg9).2 ⟨hg10, hc11, fun i hi => hf2 i (by omega)⟩⟩)
          | (rw [List.length_map, show ((x.values.length : Int) - 1).toNat = x.values.length - 1 by omega]
             exact decide_eq_decide.2 ⟨fun h => hV.2 ⟨by omega, by omega, ⟨hg9, .inr h⟩, (tpl_iff hg9).2 ⟨hg10, hc11, fun i hi => hf2 i (by omega)⟩⟩, fun h0 => by
               rcases (hV.1 h0).2.2.1.2 with h | h
               · omega
               · exact h⟩)
      · try simp only [decide_eq_true_eq, decide_eq_false_iff_not, beq_iff_eq, bne_iff_ne, beq_eq_false_iff_ne, bne_eq_false_iff_eq, Bool.not_eq_true, Bool.not_eq_false, Bool.not_eq_eq_eq_not, Bool.not_true, Bool.not_false, List.length_map, Int.not_lt, Int.not_le, ne_eq, Decidable.not_not] at hc3
        refine vc_skip ?_
        refine hK8 _ ?_
        refine vc_region ?_
        refine vo_move_ref rfl rfl ?_
        refine vo_fieldAddr_ptr rfl rfl Try.underlying70 rfl inf32 (by rw [sz32]; decide) ?_
        try simp only [Nat.zero_add]
        refine vo_load_var rfl rfl rfl Try.underlying32 rfl rfl ?_
        refine vo_move_pv rfl rfl ?_
        refine vo_index_pv (.agg [(.int .i64 0), (.int .i64 0)]) rfl rfl rfl E32.und inf37 sz37 sd sd ?_
        simp only [Int.toNat_natCast, Int.toNat_zero, getD_ints, getD_intss, getD_bools, getD_bytes, PV.cells, getD_ops, getD_pairs, getD_insts]
        refine vo_fieldAddr_adr rfl rfl Try.underlying37 rfl inf3 (by rw [sz3]; decide) ?_
        refine vo_load_adr rfl rfl Try.underlying3 rfl ?_
        refine vo_buildSlice E50 rfl rfl rfl rfl rfl ?_
        refine vo_stM ?_
        refine vo_append E50 rfl (by omega) rfl rfl rfl sd sd ?_
        refine vo_stM ?_
        try simp only [app_ints, app_intss, app_bools]
        refine vo_assign_ref rfl rfl ?_
        refine vo_nil ?_
        refine hK7 _ ?_
        refine vc_region ?_
        refine vo_move_pv rfl rfl ?_
        refine vo_binI rfl rfl rfl rfl sd ?_
        refine vo_assign_pv rfl rfl ?_
        refine vo_nil ?_
        change againE _ _ _ _ _ _ _ _ _ _
        refine againE_mk rfl rfl rfl rfl rfl rfl ⟨_, ?_, k + 1, rfl, ?_, ?_, rfl, (by rw [← app_nm1 _ _ (by omega)]; rfl)⟩
        · omega
        · omega
        · exact (all_take_succ (by omega) (0, 0)).2 ⟨hf, by unfold okPair; omega⟩
  · try simp only [decide_eq_true_eq, decide_eq_false_iff_not, beq_iff_eq, bne_iff_ne, beq_eq_false_iff_ne, bne_eq_false_iff_eq, Bool.not_eq_true, Bool.not_eq_false, Bool.not_eq_eq_eq_not, Bool.not_true, Bool.not_false, List.length_map, Int.not_lt, Int.not_le, ne_eq, Decidable.not_not] at hc1
    refine vc_exit ?_
    refine hK3 _ ?_
    refine vc_seq fun K12 hK12 => ?_
    refine vc_seq fun K13 hK13 => ?_
    refine vc_region ?_
    refine vo_fieldAddr_ptr rfl rfl Try.underlying70 rfl inf4 (by rw [sz4]; decide) ?_
    try simp only [Nat.zero_add]
    refine vo_load_var rfl rfl rfl Try.underlying4 rfl rfl ?_
    refine vo_not rfl rfl ?_
    refine vo_nil ?_
    refine hK13 _ ?_
    refine vc_cond rfl (fun hc4 => ?_) (fun hc4 => ?_)
    · try simp only [decide_eq_true_eq, decide_eq_false_iff_not, beq_iff_eq, bne_iff_ne, beq_eq_false_iff_ne, bne_eq_false_iff_eq, Bool.not_eq_true, Bool.not_eq_false, Bool.not_eq_eq_eq_not, Bool.not_true, Bool.not_false, List.length_map, Int.not_lt, Int.not_le, ne_eq, Decidable.not_not] at hc4
      have hV := vinst_own (n := h.keys.length) (x := x) hc4
      have hall : x.own.take k = x.own := take_all (by omega)
      refine vc_seq fun K14 hK14 => ?_
      refine vc_region ?_
      refine vo_move_ref rfl rfl ?_
      refine vo_expose 2 (by omega) rfl ?_
      refine vo_stM ?_
      refine vo_weaken 46 rfl ?_
      refine vo_stM ?_
      refine vo_call0 Try.func99 rfl rfl rfl rfl (different_sat (list := nms (x.own.take _)) (by rw [nms_len, List.length_take]; omega)) ?_
      rintro _ _ ⟨rfl, rfl⟩
      refine ⟨rfl, rfl, .inl rfl, ?_⟩
      refine vo_stM ?_
      refine vo_move_pv rfl rfl ?_
      refine vo_split 48 rfl (fun hg5 => ?_) (fun hg5 => ?_)
      · try simp only [decide_eq_true_eq, decide_eq_false_iff_not, beq_iff_eq, bne_iff_ne, beq_eq_false_iff_ne, bne_eq_false_iff_eq, Bool.not_eq_true, Bool.not_eq_false, Bool.not_eq_eq_eq_not, Bool.not_true, Bool.not_false, List.length_map, Int.not_lt, Int.not_le, ne_eq, Decidable.not_not] at hg5
        refine vo_guard_on rfl rfl rfl ?_
        refine vo_fieldAddr_ptr rfl rfl Try.underlying70 rfl inf50 (by rw [sz50]; decide) ?_
        try simp only [Nat.zero_add]
        refine vo_guard_on rfl rfl rfl ?_
        refine vo_load_var rfl rfl rfl Try.underlying50 rfl rfl ?_
        refine vo_guard_on rfl rfl rfl ?_
        refine vo_len_pv rfl rfl Try.underlying50 ?_
        refine vo_guard_on rfl rfl rfl ?_
        refine vo_binI rfl rfl rfl rfl trivial ?_
        refine vo_pick_t rfl rfl ?_
        refine vo_move_pv rfl rfl ?_
        refine vo_split 54 rfl (fun hg6 => ?_) (fun hg6 => ?_)
        · try simp only [decide_eq_true_eq, decide_eq_false_iff_not, beq_iff_eq, bne_iff_ne, beq_eq_false_iff_ne, bne_eq_false_iff_eq, Bool.not_eq_true, Bool.not_eq_false, Bool.not_eq_eq_eq_not, Bool.not_true, Bool.not_false, List.length_map, Int.not_lt, Int.not_le, ne_eq, Decidable.not_not] at hg6
          refine vo_guard_on rfl rfl rfl ?_
          refine vo_fieldAddr_ptr rfl rfl Try.underlying70 rfl inf50 (by rw [sz50]; decide) ?_
          try simp only [Nat.zero_add]
          refine vo_guard_on rfl rfl rfl ?_
          refine vo_load_var rfl rfl rfl Try.underlying50 rfl rfl ?_
          refine vo_guard_on rfl rfl rfl ?_
          refine vo_len_pv rfl rfl Try.underlying50 ?_
          refine vo_guard_on rfl rfl rfl ?_
          refine vo_binI rfl rfl rfl rfl trivial ?_
          refine vo_pick_t rfl rfl ?_
          refine vo_assign_pv rfl rfl ?_
          refine vo_nil ?_
          refine hK14 _ ?_
          refine vc_ret ?_
          change retQ _ _ _ _ _
          refine retQ_sel [] (srows := []) (.inr rfl) hC rfl rfl rfl rfl rfl rfl rfl ?_
          refine ⟨?_, rfl⟩
          refine (congrArg (fun b => [bo b]) (?_ : _ = _) : [bo _] = [bo _])
          first
            | exact bF (validI_own (h := h) (k := k) (by omega) (by unfold okPair; omega))
            | (refine bF fun h0 => ?_
               have h := hV.1 h0
               have h1 := h.1; have h2 := h.2.1
               first
                 | omega
                 | exact absurd h.2.2.1 (by rw [hall] at hg5; exact hg5)
                 | (have hT := (tpl_iff h.2.2.1.1).1 h.2.2.2
                    first
                      | exact absurd h.2.2.1.1 (by assumption)
                      | exact absurd hT.1 (by assumption)
                      | exact absurd hT.2.1 (by assumption)
                      | (have h3 := hT.2.2 k (by omega)
                         exact hc13 (decide_eq_decide.2 (h3.trans (findM_mem _ _ 0 (by omega)).symm)))))
            | (rw [hall] at hf hg5
               rw [Bool.eq_iff_iff, beq_iff_eq, decide_eq_true_eq, hV, List.length_map]
               exact ⟨fun h => ⟨by omega, by omega, hg5, hf⟩, fun h => by have := h.2.1; omega⟩)
            | exact bT (hV.2 ⟨by omega, by omega, ⟨hg9, .inl (by omega)⟩, (tpl_iff hg9).2 ⟨hg10, hc11, fun i hi => hf2 i (by omega)⟩⟩)
            | (rw [List.length_map, show ((x.values.length : Int) - 1).toNat = x.values.length - 1 by omega]
               exact decide_eq_decide.2 ⟨fun h => hV.2 ⟨by omega, by omega, ⟨hg9, .inr h⟩, (tpl_iff hg9).2 ⟨hg10, hc11, fun i hi => hf2 i (by omega)⟩⟩, fun h0 => by
                 rcases (hV.1 h0).2.2.1.2 with h | h
                 · omega
                 · exact h⟩)
        · try simp only [decide_eq_true_eq, decide_eq_false_iff_not, beq_iff_eq, bne_iff_ne, beq_eq_false_iff_ne, bne_eq_false_iff_eq, Bool.not_eq_true, Bool.not_eq_false, Bool.not_eq_eq_eq_not, Bool.not_true, Bool.not_false, List.length_map, Int.not_lt, Int.not_le, ne_eq, Decidable.not_not] at hg6
          refine vo_guard_off rfl rfl rfl rfl rfl ?_
          refine vo_guard_off rfl rfl rfl rfl rfl ?_
          refine vo_guard_off rfl rfl rfl rfl rfl ?_
          refine vo_guard_off rfl rfl rfl rfl rfl ?_
          refine vo_pick_f rfl rfl ?_
          refine vo_assign_pv rfl rfl ?_
          refine vo_nil ?_
          refine hK14 _ ?_
          refine vc_ret ?_
          change retQ _ _ _ _ _
          refine retQ_sel [] (srows := []) (.inr rfl) hC rfl rfl rfl rfl rfl rfl rfl ?_
          refine ⟨?_, rfl⟩
          refine (congrArg (fun b => [bo b]) (?_ : _ = _) : [bo _] = [bo _])
          first
            | exact bF (validI_own (h := h) (k := k) (by omega) (by unfold okPair; omega))
            | (refine bF fun h0 => ?_
               have h := hV.1 h0
               have h1 := h.1; have h2 := h.2.1
               first
                 | omega
                 | exact absurd h.2.2.1 (by rw [hall] at hg5; exact hg5)
                 | (have hT := (tpl_iff h.2.2.1.1).1 h.2.2.2
                    first
                      | exact absurd h.2.2.1.1 (by assumption)
                      | exact absurd hT.1 (by assumption)
                      | exact absurd hT.2.1 (by assumption)
                      | (have h3 := hT.2.2 k (by omega)
                         exact hc13 (decide_eq_decide.2 (h3.trans (findM_mem _ _ 0 (by omega)).symm)))))
            | (rw [hall] at hf hg5
               rw [Bool.eq_iff_iff, beq_iff_eq, decide_eq_true_eq, hV, List.length_map]
               exact ⟨fun h => ⟨by omega, by omega, hg5, hf⟩, fun h => by have := h.2.1; omega⟩)
            | exact bT (hV.2 ⟨by omega, by omega, ⟨hg9, .inl (by omega)⟩, (tpl_iff hg9).2 ⟨hg10, hc11, fun i hi => hf2 i (by omega)⟩⟩)
            | (rw [List.length_map, show ((x.values.length : Int) - 1).toNat = x.values.length - 1 by omega]
               exact decide_eq_decide.2 ⟨fun h => hV.2 ⟨by omega, by omega, ⟨hg9, .inr h⟩, (tpl_iff hg9).2 ⟨hg10, hc11, fun i hi => hf2 i (by omega)⟩⟩, fun h0 => by
                 rcases (hV.1 h0).2.2.1.2 with h | h
                 · omega
                 · exact h⟩)
      · try simp only [decide_eq_true_eq, decide_eq_false_iff_not, beq_iff_eq, bne_iff_ne, beq_eq_false_iff_ne, bne_eq_false_iff_eq, Bool.not_eq_true, Bool.not_eq_false, Bool.not_eq_eq_eq_not, Bool.not_true, Bool.not_false, List.length_map, Int.not_lt, Int.not_le, ne_eq, Decidable.not_not] at hg5
        refine vo_guard_off rfl rfl rfl rfl rfl ?_
        refine vo_guard_off rfl rfl rfl rfl rfl ?_
        refine vo_guard_off rfl rfl rfl rfl rfl ?_
        refine vo_guard_off rfl rfl rfl rfl rfl ?_
        refine vo_pick_f rfl rfl ?_
        refine vo_move_pv rfl rfl ?_
        refine vo_guard_off rfl rfl rfl rfl rfl ?_
        refine vo_guard_off rfl rfl rfl rfl rfl ?_
        refine vo_guard_off rfl rfl rfl rfl rfl ?_
        refine vo_guard_off rfl rfl rfl rfl rfl ?_
        refine vo_pick_f rfl rfl ?_
        refine vo_assign_pv rfl rfl ?_
        refine vo_nil ?_
        refine hK14 _ ?_
        refine vc_ret ?_
        change retQ _ _ _ _ _
        refine retQ_sel [] (srows := []) (.inr rfl) hC rfl rfl rfl rfl rfl rfl rfl ?_
        refine ⟨?_, rfl⟩
        refine (congrArg (fun b => [bo b]) (?_ : _ = _) : [bo _] = [bo _])
        first
          | exact bF (validI_own (h := h) (k := k) (by omega) (by unfold okPair; omega))
          | (refine bF fun h0 => ?_
             have h := hV.1 h0
             have h1 := h.1; have h2 := h.2.1
             first
               | omega
               | exact absurd h.2.2.1 (by rw [hall] at hg5; exact hg5)
               | (have hT := (tpl_iff h.2.2.1.1).1 h.2.2.2
                  first
                    | exact absurd h.2.2.1.1 (by assumption)
                    | exact absurd hT.1 (by assumption)
                    | exact absurd hT.2.1 (by assumption)
                    | (have h3 := hT.2.2 k (by omega)
                       exact hc13 (decide_eq_decide.2 (h3.trans (findM_mem _ _ 0 (by omega)).symm)))))
          | (rw [hall] at hf hg5
             rw [Bool.eq_iff_iff, beq_iff_eq, decide_eq_true_eq, hV, List.length_map]
             exact ⟨fun h => ⟨by omega, by omega, hg5, hf⟩, fun h => by have := h.2.1; omega⟩)
          | exact bT (hV.2 ⟨by omega, by omega, ⟨hg9, .inl (by omega)⟩, (tpl_iff hg9).2 ⟨hg10, hc11, fun i hi => hf2 i (by omega)⟩⟩)
          | (rw [List.length_map, show ((x.values.length : Int) - 1).toNat = x.values.length - 1 by omega]
             exact decide_eq_decide.2 ⟨fun h => hV.2 ⟨by omega, by omega, ⟨hg9, .inr h⟩, (tpl_iff hg9).2 ⟨hg10, hc11, fun i hi => hf2 i (by omega)⟩⟩, fun h0 => by
               rcases (hV.1 h0).2.2.1.2 with h | h
               · omega
               · exact h⟩)
    · try simp only [decide_eq_true_eq, decide_eq_false_iff_not, beq_iff_eq, bne_iff_ne, beq_eq_false_iff_ne, bne_eq_false_iff_eq, Bool.not_eq_true, Bool.not_eq_false, Bool.not_eq_eq_eq_not, Bool.not_true, Bool.not_false, List.length_map, Int.not_lt, Int.not_le, ne_eq, Decidable.not_not] at hc4
      have hV := vinst_sh (n := h.keys.length) (x := x) hc4
      refine vc_skip ?_
      refine hK12 _ ?_
      refine vc_seq fun K15 hK15 => ?_
      refine vc_seq fun K16 hK16 => ?_
      refine vc_region ?_
      refine vo_fieldAddr_ptr rfl rfl Try.underlying70 rfl inf32 (by rw [sz32]; decide) ?_
      try simp only [Nat.zero_add]
      refine vo_load_var rfl rfl rfl Try.underlying32 rfl rfl ?_
      refine vo_len_pv rfl rfl Try.underlying32 ?_
      refine vo_binI rfl rfl rfl rfl trivial ?_
      refine vo_move_pv rfl rfl ?_
      refine vo_split 64 rfl (fun hg7 => ?_) (fun hg7 => ?_)
      · try simp only [decide_eq_true_eq, decide_eq_false_iff_not, beq_iff_eq, bne_iff_ne, beq_eq_false_iff_ne, bne_eq_false_iff_eq, Bool.not_eq_true, Bool.not_eq_false, Bool.not_eq_eq_eq_not, Bool.not_true, Bool.not_false, List.length_map, Int.not_lt, Int.not_le, ne_eq, Decidable.not_not] at hg7
        refine vo_guard_off rfl rfl rfl rfl rfl ?_
        refine vo_guard_off rfl rfl rfl rfl rfl ?_
        refine vo_guard_off rfl rfl rfl rfl rfl ?_
        refine vo_guard_off rfl rfl rfl rfl rfl ?_
        refine vo_guard_off rfl rfl rfl rfl rfl ?_
        refine vo_guard_off rfl rfl rfl rfl rfl ?_
        refine vo_guard_off rfl rfl rfl rfl rfl ?_
        refine vo_pick_t rfl rfl ?_
        refine vo_move_pv rfl rfl ?_
        refine vo_guard_off rfl rfl rfl rfl rfl ?_
        refine vo_guard_off rfl rfl rfl rfl rfl ?_
        refine vo_guard_off rfl rfl rfl rfl rfl ?_
        refine vo_guard_off rfl rfl rfl rfl rfl ?_
        refine vo_pick_t rfl rfl ?_
        refine vo_move_pv rfl rfl ?_
        refine vo_guard_off rfl rfl rfl rfl rfl ?_
        refine vo_guard_off rfl rfl rfl rfl rfl ?_
        refine vo_guard_off rfl rfl rfl rfl rfl ?_
        refine vo_guard_off rfl rfl rfl rfl rfl ?_
        refine vo_pick_t rfl rfl ?_
        refine vo_move_pv rfl rfl ?_
        refine vo_guard_off rfl rfl rfl rfl rfl ?_
        refine vo_guard_off rfl rfl rfl rfl rfl ?_
        refine vo_guard_off rfl rfl rfl rfl rfl ?_
        refine vo_guard_off rfl rfl rfl rfl rfl ?_
        refine vo_guard_off rfl rfl rfl rfl rfl ?_
        refine vo_guard_off rfl rfl rfl rfl rfl ?_
        refine vo_guard_off rfl rfl rfl rfl rfl ?_
        refine vo_guard_off rfl rfl rfl rfl rfl ?_
        refine vo_pick_t rfl rfl ?_
        refine vo_nil ?_
        refine hK16 _ ?_
        refine vc_cond_t rfl ?_
        refine vc_seq fun K17 hK17 => ?_
        refine vc_region ?_
        refine vo_assign_pv rfl rfl ?_
        refine vo_nil ?_
        refine hK17 _ ?_
        refine vc_ret ?_
        change retQ _ _ _ _ _
        refine retQ_sel [] (srows := []) (.inr rfl) hC rfl rfl rfl rfl rfl rfl rfl ?_
        refine ⟨?_, rfl⟩
        refine (congrArg (fun b => [bo b]) (?_ : _ = _) : [bo _] = [bo _])
        first
          | exact bF (validI_own (h := h) (k := k) (by omega) (by unfold okPair; omega))
          | (refine bF fun h0 => ?_
             have h := hV.1 h0
             have h1 := h.1; have h2 := h.2.1
             first
               | omega
               | exact absurd h.2.2.1 (by rw [hall] at hg5; exact hg5)
               | (have hT := (tpl_iff h.2.2.1.1).1 h.2.2.2
                  first
                    | exact absurd h.2.2.1.1 (by assumption)
                    | exact absurd hT.1 (by assumption)
                    | exact absurd hT.2.1 (by assumption)
                    | (have h3 := hT.2.2 k (by omega)
                       exact hc13 (decide_eq_decide.2 (h3.trans (findM_mem _ _ 0 (by omega)).symm)))))
          | (rw [hall] at hf hg5
             rw [Bool.eq_iff_iff, beq_iff_eq, decide_eq_true_eq, hV, List.length_map]
             exact ⟨fun h => ⟨by omega, by omega, hg5, hf⟩, fun h => by have := h.2.1; omega⟩)
          | exact bT (hV.2 ⟨by omega, by omega, ⟨hg9, .inl (by omega)⟩, (tpl_iff hg9).2 ⟨hg10, hc11, fun i hi => hf2 i (by omega)⟩⟩)
          | (rw [List.length_map, show ((x.values.length : Int) - 1).toNat = x.values.length - 1 by omega]
             exact decide_eq_decide.2 ⟨fun h => hV.2 ⟨by omega, by omega, ⟨hg9, .inr h⟩, (tpl_iff hg9).2 ⟨hg10, hc11, fun i hi => hf2 i (by omega)⟩⟩, fun h0 => by
               rcases (hV.1 h0).2.2.1.2 with h | h
               · omega
               · exact h⟩)
      · try simp only [decide_eq_true_eq, decide_eq_false_iff_not, beq_iff_eq, bne_iff_ne, beq_eq_false_iff_ne, bne_eq_false_iff_eq, Bool.not_eq_true, Bool.not_eq_false, Bool.not_eq_eq_eq_not, Bool.not_true, Bool.not_false, List.length_map, Int.not_lt, Int.not_le, ne_eq, Decidable.not_not] at hg7
        refine vo_guard_on rfl rfl rfl ?_
        refine vo_fieldAddr_ptr rfl rfl Try.underlying70 rfl inf50 (by rw [sz50]; decide) ?_
        try simp only [Nat.zero_add]
        refine vo_guard_on rfl rfl rfl ?_
        refine vo_load_var rfl rfl rfl Try.underlying50 rfl rfl ?_
        refine vo_guard_on rfl rfl rfl ?_
        refine vo_len_pv rfl rfl Try.underlying50 ?_
        refine vo_guard_on rfl rfl rfl ?_
        refine vo_fieldAddr_ptr rfl rfl Try.underlying58 rfl inf50 (by rw [sz50]; decide) ?_
        try simp only [Nat.zero_add]
        refine vo_guard_on rfl rfl rfl ?_
        refine vo_load_var rfl rfl rfl Try.underlying50 rfl rfl ?_
        refine vo_guard_on rfl rfl rfl ?_
        refine vo_len_pv rfl rfl Try.underlying50 ?_
        refine vo_guard_on rfl rfl rfl ?_
        refine vo_binI rfl rfl rfl rfl trivial ?_
        refine vo_pick_f rfl rfl ?_
        refine vo_move_pv rfl rfl ?_
        refine vo_split 73 rfl (fun hg8 => ?_) (fun hg8 => ?_)
        · try simp only [decide_eq_true_eq, decide_eq_false_iff_not, beq_iff_eq, bne_iff_ne, beq_eq_false_iff_ne, bne_eq_false_iff_eq, Bool.not_eq_true, Bool.not_eq_false, Bool.not_eq_eq_eq_not, Bool.not_true, Bool.not_false, List.length_map, Int.not_lt, Int.not_le, ne_eq, Decidable.not_not] at hg8
          refine vo_guard_off rfl rfl rfl rfl rfl ?_
          refine vo_guard_off rfl rfl rfl rfl rfl ?_
          refine vo_guard_off rfl rfl rfl rfl rfl ?_
          refine vo_guard_off rfl rfl rfl rfl rfl ?_
          refine vo_pick_t rfl rfl ?_
          refine vo_move_pv rfl rfl ?_
          refine vo_guard_off rfl rfl rfl rfl rfl ?_
          refine vo_guard_off rfl rfl rfl rfl rfl ?_
          refine vo_guard_off rfl rfl rfl rfl rfl ?_
          refine vo_guard_off rfl rfl rfl rfl rfl ?_
          refine vo_pick_t rfl rfl ?_
          refine vo_move_pv rfl rfl ?_
          refine vo_guard_off rfl rfl rfl rfl rfl ?_
          refine vo_guard_off rfl rfl rfl rfl rfl ?_
          refine vo_guard_off rfl rfl rfl rfl rfl ?_
          refine vo_guard_off rfl rfl rfl rfl rfl ?_
          refine vo_guard_off rfl rfl rfl rfl rfl ?_
          refine vo_guard_off rfl rfl rfl rfl rfl ?_
          refine vo_guard_off rfl rfl rfl rfl rfl ?_
          refine vo_guard_off rfl rfl rfl rfl rfl ?_
          refine vo_pick_t rfl rfl ?_
          refine vo_nil ?_
          refine hK16 _ ?_
          refine vc_cond_t rfl ?_
          refine vc_seq fun K18 hK18 => ?_
          refine vc_region ?_
          refine vo_assign_pv rfl rfl ?_
          refine vo_nil ?_
          refine hK18 _ ?_
          refine vc_ret ?_
          change retQ _ _ _ _ _
          refine retQ_sel [] (srows := []) (.inr rfl) hC rfl rfl rfl rfl rfl rfl rfl ?_
          refine ⟨?_, rfl⟩
          refine (congrArg (fun b => [bo b]) (?_ : _ = _) : [bo _] = [bo _])
          first
            | exact bF (validI_own (h := h) (k := k) (by omega) (by unfold okPair; omega))
            | (refine bF fun h0 => ?_
               have h := hV.1 h0
               have h1 := h.1; have h2 := h.2.1
               first
                 | omega
                 | exact absurd h.2.2.1 (by rw [hall] at hg5; exact hg5)
                 | (have hT := (tpl_iff h.2.2.1.1).1 h.2.2.2
                    first
                      | exact absurd h.2.2.1.1 (by assumption)
                      | exact absurd hT.1 (by assumption)
                      | exact absurd hT.2.1 (by assumption)
                      | (have h3 := hT.2.2 k (by omega)
                         exact hc13 (decide_eq_decide.2 (h3.trans (findM_mem _ _ 0 (by omega)).symm)))))
            | (rw [hall] at hf hg5
               rw [Bool.eq_iff_iff, beq_iff_eq, decide_eq_true_eq, hV, List.length_map]
               exact ⟨fun h => ⟨by omega, by omega, hg5, hf⟩, fun h => by have := h.2.1; omega⟩)
            | exact bT (hV.2 ⟨by omega, by omega, ⟨hg9, .inl (by omega)⟩, (tpl_iff hg9).2 ⟨hg10, hc11, fun i hi => hf2 i (by omega)⟩⟩)
            | (rw [List.length_map, show ((x.values.length : Int) - 1).toNat = x.values.length - 1 by omega]
               exact decide_eq_decide.2 ⟨fun h => hV.2 ⟨by omega, by omega, ⟨hg9, .inr h⟩, (tpl_iff hg9).2 ⟨hg10, hc11, fun i hi => hf2 i (by omega)⟩⟩, fun h0 => by
                 rcases (hV.1 h0).2.2.1.2 with h | h
                 · omega
                 · exact h⟩)
        · try simp only [decide_eq_true_eq, decide_eq_false_iff_not, beq_iff_eq, bne_iff_ne, beq_eq_false_iff_ne, bne_eq_false_iff_eq, Bool.not_eq_true, Bool.not_eq_false, Bool.not_eq_eq_eq_not, Bool.not_true, Bool.not_false, List.length_map, Int.not_lt, Int.not_le, ne_eq, Decidable.not_not] at hg8
          refine vo_guard_on rfl rfl rfl ?_
          refine vo_fieldAddr_ptr rfl rfl Try.underlying70 rfl inf50 (by rw [sz50]; decide) ?_
          try simp only [Nat.zero_add]
          refine vo_guard_on rfl rfl rfl ?_
          refine vo_load_var rfl rfl rfl Try.underlying50 rfl rfl ?_
          refine vo_guard_on rfl rfl rfl ?_
          refine vo_call0 Try.func100 rfl rfl rfl rfl (allIn_sat (by omega)) ?_
          rintro _ _ ⟨rfl, rfl⟩
          refine ⟨rfl, rfl, .inl rfl, ?_⟩
          refine vo_stM ?_
          refine vo_guard_on rfl rfl rfl ?_
          refine vo_not rfl rfl ?_
          refine vo_pick_f rfl rfl ?_
          refine vo_move_pv rfl rfl ?_
          refine vo_split 79 rfl (fun hg9 => ?_) (fun hg9 => ?_)
          · try simp only [decide_eq_true_eq, decide_eq_false_iff_not, beq_iff_eq, bne_iff_ne, beq_eq_false_iff_ne, bne_eq_false_iff_eq, Bool.not_eq_true, Bool.not_eq_false, Bool.not_eq_eq_eq_not, Bool.not_true, Bool.not_false, List.length_map, Int.not_lt, Int.not_le, ne_eq, Decidable.not_not] at hg9
            refine vo_guard_off rfl rfl rfl rfl rfl ?_
            refine vo_guard_off rfl rfl rfl rfl rfl ?_
            refine vo_guard_off rfl rfl rfl rfl rfl ?_
            refine vo_guard_off rfl rfl rfl rfl rfl ?_
            refine vo_pick_t rfl rfl ?_
            refine vo_move_pv rfl rfl ?_
            refine vo_guard_off rfl rfl rfl rfl rfl ?_
            refine vo_guard_off rfl rfl rfl rfl rfl ?_
            refine vo_guard_off rfl rfl rfl rfl rfl ?_
            refine vo_guard_off rfl rfl rfl rfl rfl ?_
            refine vo_guard_off rfl rfl rfl rfl rfl ?_
            refine vo_guard_off rfl rfl rfl rfl rfl ?_
            refine vo_guard_off rfl rfl rfl rfl rfl ?_
            refine vo_guard_off rfl rfl rfl rfl rfl ?_
            refine vo_pick_t rfl rfl ?_
            refine vo_nil ?_
            refine hK16 _ ?_
            refine vc_cond_t rfl ?_
            refine vc_seq fun K19 hK19 => ?_
            refine vc_region ?_
            refine vo_assign_pv rfl rfl ?_
            refine vo_nil ?_
            refine hK19 _ ?_
            refine vc_ret ?_
            change retQ _ _ _ _ _
            refine retQ_sel [] (srows := []) (.inr rfl) hC rfl rfl rfl rfl rfl rfl rfl ?_
            refine ⟨?_, rfl⟩
            refine (congrArg (fun b => [bo b]) (?_ : _ = _) : [bo _] = [bo _])
            first
              | exact bF (validI_own (h := h) (k := k) (by omega) (by unfold okPair; omega))
              | (refine bF fun h0 => ?_
                 have h := hV.1 h0
                 have h1 := h.1; have h2 := h.2.1
                 first
                   | omega
                   | exact absurd h.2.2.1 (by rw [hall] at hg5; exact hg5)
                   | (have hT := (tpl_iff h.2.2.1.1).1 h.2.2.2
                      first
                        | exact absurd h.2.2.1.1 (by assumption)
                        | exact absurd hT.1 (by assumption)
                        | exact absurd hT.2.1 (by assumption)
                        | (have h3 := hT.2.2 k (by omega)
                           exact hc13 (decide_eq_decide.2 (h3.trans (findM_mem _ _ 0 (by omega)).symm)))))
              | (rw [hall] at hf hg5
                 rw [Bool.eq_iff_iff, beq_iff_eq, decide_eq_true_eq, hV, List.length_map]
                 exact ⟨fun h => ⟨by omega, by omega, hg5, hf⟩, fun h => by have := h.2.1; omega⟩)
              | exact bT (hV.2 ⟨by omega, by omega, ⟨hg9, .inl (by omega)⟩, (tpl_iff hg9).2 ⟨hg10, hc11, fun i hi => hf2 i (by omega)⟩⟩)
              | (rw [List.length_map, show ((x.values.length : Int) - 1).toNat = x.values.length - 1 by omega]
                 exact decide_eq_decide.2 ⟨fun h => hV.2 ⟨by omega, by omega, ⟨hg9, .inr h⟩, (tpl_iff hg9).2 ⟨hg10, hc11, fun i hi => hf2 i (by omega)⟩⟩, fun h0 => by
                   rcases (hV.1 h0).2.2.1.2 with h | h
                   · omega
                   · exact h⟩)
          · try simp only [decide_eq_true_eq, decide_eq_false_iff_not, beq_iff_eq, bne_iff_ne, beq_eq_false_iff_ne, bne_eq_false_iff_eq, Bool.not_eq_true, Bool.not_eq_false, Bool.not_eq_eq_eq_not, Bool.not_true, Bool.not_false, List.length_map, Int.not_lt, Int.not_le, ne_eq, Decidable.not_not] at hg9
            refine vo_guard_on rfl rfl rfl ?_
            refine vo_fieldAddr_ptr rfl rfl Try.underlying70 rfl inf50 (by rw [sz50]; decide) ?_
            try simp only [Nat.zero_add]
            refine vo_guard_on rfl rfl rfl ?_
            refine vo_load_var rfl rfl rfl Try.underlying50 rfl rfl ?_
            refine vo_guard_on rfl rfl rfl ?_
            refine vo_call0 Try.func99 rfl rfl rfl rfl (different_sat (by omega)) ?_
            rintro _ _ ⟨rfl, rfl⟩
            refine ⟨rfl, rfl, .inl rfl, ?_⟩
            refine vo_stM ?_
            refine vo_guard_on rfl rfl rfl ?_
            refine vo_not rfl rfl ?_
            refine vo_pick_f rfl rfl ?_
            refine vo_move_pv rfl rfl ?_
            refine vo_split 85 rfl (fun hg10 => ?_) (fun hg10 => ?_)
            · try simp only [decide_eq_true_eq, decide_eq_false_iff_not, beq_iff_eq, bne_iff_ne, beq_eq_false_iff_ne, bne_eq_false_iff_eq, Bool.not_eq_true, Bool.not_eq_false, Bool.not_eq_eq_eq_not, Bool.not_true, Bool.not_false, List.length_map, Int.not_lt, Int.not_le, ne_eq, Decidable.not_not] at hg10
              refine vo_guard_off rfl rfl rfl rfl rfl ?_
              refine vo_guard_off rfl rfl rfl rfl rfl ?_
              refine vo_guard_off rfl rfl rfl rfl rfl ?_
              refine vo_guard_off rfl rfl rfl rfl rfl ?_
              refine vo_guard_off rfl rfl rfl rfl rfl ?_
              refine vo_guard_off rfl rfl rfl rfl rfl ?_
              refine vo_guard_off rfl rfl rfl rfl rfl ?_
              refine vo_guard_off rfl rfl rfl rfl rfl ?_
              refine vo_pick_t rfl rfl ?_
              refine vo_nil ?_
              refine hK16 _ ?_
              refine vc_cond_t rfl ?_
              refine vc_seq fun K20 hK20 => ?_
              refine vc_region ?_
              refine vo_assign_pv rfl rfl ?_
              refine vo_nil ?_
              refine hK20 _ ?_
              refine vc_ret ?_
              change retQ _ _ _ _ _
              refine retQ_sel [] (srows := []) (.inr rfl) hC rfl rfl rfl rfl rfl rfl rfl ?_
              refine ⟨?_, rfl⟩
              refine (congrArg (fun b => [bo b]) (?_ : _ = _) : [bo _] = [bo _])
              first
                | exact bF (validI_own (h := h) (k := k) (by omega) (by unfold okPair; omega))
                | (refine bF fun h0 => ?_
                   have h := hV.1 h0
                   have h1 := h.1; have h2 := h.2.1
                   first
                     | omega
                     | exact absurd h.2.2.1 (by rw [hall] at hg5; exact hg5)
                     | (have hT := (tpl_iff h.2.2.1.1).1 h.2.2.2
                        first
                          | exact absurd h.2.2.1.1 (by assumption)
                          | exact absurd hT.1 (by assumption)
                          | exact absurd hT.2.1 (by assumption)
                          | (have h3 := hT.2.2 k (by omega)
                             exact hc13 (decide_eq_decide.2 (h3.trans (findM_mem _ _ 0 (by omega)).symm)))))
                | (rw [hall] at hf hg5
                   rw [Bool.eq_iff_iff, beq_iff_eq, decide_eq_true_eq, hV, List.length_map]
                   exact ⟨fun h => ⟨by omega, by omega, hg5, hf⟩, fun h => by have := h.2.1; omega⟩)
                | exact bT (hV.2 ⟨by omega, by omega, ⟨hg9, .inl (by omega)⟩, (tpl_iff hg9).2 ⟨hg10, hc11, fun i hi => hf2 i (by omega)⟩⟩)
                | (rw [List.length_map, show ((x.values.length : Int) - 1).toNat = x.values.length - 1 by omega]
                   exact decide_eq_decide.2 ⟨fun h => hV.2 ⟨by omega, by omega, ⟨hg9, .inr h⟩, (tpl_iff hg9).2 ⟨hg10, hc11, fun i hi => hf2 i (by omega)⟩⟩, fun h0 => by
                     rcases (hV.1 h0).2.2.1.2 with h | h
                     · omega
                     · exact h⟩)
            · try simp only [decide_eq_true_eq, decide_eq_false_iff_not, beq_iff_eq, bne_iff_ne, beq_eq_false_iff_ne, bne_eq_false_iff_eq, Bool.not_eq_true, Bool.not_eq_false, Bool.not_eq_eq_eq_not, Bool.not_true, Bool.not_false, List.length_map, Int.not_lt, Int.not_le, ne_eq, Decidable.not_not] at hg10
              refine vo_guard_on rfl rfl rfl ?_
              refine vo_fieldAddr_ptr rfl rfl Try.underlying70 rfl inf50 (by rw [sz50]; decide) ?_
              try simp only [Nat.zero_add]
              refine vo_guard_on rfl rfl rfl ?_
              refine vo_load_var rfl rfl rfl Try.underlying50 rfl rfl ?_
              refine vo_guard_on rfl rfl rfl ?_
              refine vo_fieldAddr_ptr rfl rfl Try.underlying70 rfl inf50 (by rw [sz50]; decide) ?_
              try simp only [Nat.zero_add]
              refine vo_guard_on rfl rfl rfl ?_
              refine vo_load_var rfl rfl rfl Try.underlying50 rfl rfl ?_
              refine vo_guard_on rfl rfl rfl ?_
              refine vo_len_pv rfl rfl Try.underlying50 ?_
              refine vo_guard_on rfl rfl rfl ?_
              refine vo_binI rfl rfl rfl rfl sd ?_
              refine vo_guard_on rfl rfl rfl ?_
              refine vo_call0 Try.func100 rfl rfl rfl rfl (allIn_sat (by omega)) ?_
              rintro _ _ ⟨rfl, rfl⟩
              refine ⟨rfl, rfl, .inl rfl, ?_⟩
              refine vo_stM ?_
              refine vo_guard_on rfl rfl rfl ?_
              refine vo_not rfl rfl ?_
              refine vo_pick_f rfl rfl ?_
              refine vo_nil ?_
              refine hK16 _ ?_
              refine vc_cond rfl (fun hc11 => ?_) (fun hc11 => ?_)
              · try simp only [decide_eq_true_eq, decide_eq_false_iff_not, beq_iff_eq, bne_iff_ne, beq_eq_false_iff_ne, bne_eq_false_iff_eq, Bool.not_eq_true, Bool.not_eq_false, Bool.not_eq_eq_eq_not, Bool.not_true, Bool.not_false, List.length_map, Int.not_lt, Int.not_le, ne_eq, Decidable.not_not] at hc11
                refine vc_seq fun K21 hK21 => ?_
                refine vc_region ?_
                refine vo_assign_pv rfl rfl ?_
                refine vo_nil ?_
                refine hK21 _ ?_
                refine vc_ret ?_
                change retQ _ _ _ _ _
                refine retQ_sel [] (srows := []) (.inr rfl) hC rfl rfl rfl rfl rfl rfl rfl ?_
                refine ⟨?_, rfl⟩
                refine (congrArg (fun b => [bo b]) (?_ : _ = _) : [bo _] = [bo _])
                first
                  | exact bF (validI_own (h := h) (k := k) (by omega) (by unfold okPair; omega))
                  | (refine bF fun h0 => ?_
                     have h := hV.1 h0
                     have h1 := h.1; have h2 := h.2.1
                     first
                       | omega
                       | exact absurd h.2.2.1 (by rw [hall] at hg5; exact hg5)
                       | (have hT := (tpl_iff h.2.2.1.1).1 h.2.2.2
                          first
                            | exact absurd h.2.2.1.1 (by assumption)
                            | exact absurd hT.1 (by assumption)
                            | exact absurd hT.2.1 (by assumption)
                            | (have h3 := hT.2.2 k (by omega)
                               exact hc13 (decide_eq_decide.2 (h3.trans (findM_mem _ _ 0 (by omega)).symm)))))
                  | (rw [hall] at hf hg5
                     rw [Bool.eq_iff_iff, beq_iff_eq, decide_eq_true_eq, hV, List.length_map]
                     exact ⟨fun h => ⟨by omega, by omega, hg5, hf⟩, fun h => by have := h.2.1; omega⟩)
                  | exact bT (hV.2 ⟨by omega, by omega, ⟨hg9, .inl (by omega)⟩, (tpl_iff hg9).2 ⟨hg10, hc11, fun i hi => hf2 i (by omega)⟩⟩)
                  | (rw [List.length_map, show ((x.values.length : Int) - 1).toNat = x.values.length - 1 by omega]
                     exact decide_eq_decide.2 ⟨fun h => hV.2 ⟨by omega, by omega, ⟨hg9, .inr h⟩, (tpl_iff hg9).2 ⟨hg10, hc11, fun i hi => hf2 i (by omega)⟩⟩, fun h0 => by
                       rcases (hV.1 h0).2.2.1.2 with h | h
                       · omega
                       · exact h⟩)
              · try simp only [decide_eq_true_eq, decide_eq_false_iff_not, beq_iff_eq, bne_iff_ne, beq_eq_false_iff_ne, bne_eq_false_iff_eq, Bool.not_eq_true, Bool.not_eq_false, Bool.not_eq_eq_eq_not, Bool.not_true, Bool.not_false, List.length_map, Int.not_lt, Int.not_le, ne_eq, Decidable.not_not] at hc11
                refine vc_skip ?_
                refine hK15 _ ?_
                refine vc_seq fun K22 hK22 => ?_
                refine vc_seq fun K23 hK23 => ?_
                refine vc_region ?_
                refine vo_assign_pv rfl rfl ?_
                refine vo_nil ?_
                refine hK23 _ ?_
                refine vc_block ?_
                refine vc_stM ?_
                refine vc_loopE [3] [7] [] _ _ (fun mz vs rs => ∃ (k : Nat), mz = x.values.length - k ∧ (k ≤ x.values.length) ∧ (∀ i : Nat, i < k → (0 ≤ x.values.getD i 0 ↔ (i : Int) ∈ x.order)) ∧ vs = [i64 k] ∧ rs = []) (x.values.length) rfl rfl (le_len hC rfl) ⟨rfl, rfl, rfl⟩ rfl ⟨0, rfl, Nat.zero_le _, (fun i h => by omega), rfl, rfl⟩ ?_
                rintro mz vs rs - - ⟨k, rfl, hk, hf2, rfl, rfl⟩
                refine vc_stM ?_
                refine vc_seq fun K24 hK24 => ?_
                refine vc_seq fun K25 hK25 => ?_
                refine vc_region ?_
                refine vo_move_pv rfl rfl ?_
                refine vo_fieldAddr_ptr rfl rfl Try.underlying70 rfl inf50 (by rw [sz50]; decide) ?_
                try simp only [Nat.zero_add]
                refine vo_load_var rfl rfl rfl Try.underlying50 rfl rfl ?_
                refine vo_len_pv rfl rfl Try.underlying50 ?_
                refine vo_binI rfl rfl rfl rfl trivial ?_
                refine vo_nil ?_
                refine hK25 _ ?_
                refine vc_cond rfl (fun hc12 => ?_) (fun hc12 => ?_)
                · try simp only [decide_eq_true_eq, decide_eq_false_iff_not, beq_iff_eq, bne_iff_ne, beq_eq_false_iff_ne, bne_eq_false_iff_eq, Bool.not_eq_true, Bool.not_eq_false, Bool.not_eq_eq_eq_not, Bool.not_true, Bool.not_false, List.length_map, Int.not_lt, Int.not_le, ne_eq, Decidable.not_not] at hc12
                  refine vc_skip ?_
                  refine hK24 _ ?_
                  refine vc_seq fun K26 hK26 => ?_
                  refine vc_block ?_
                  refine vc_seq fun K27 hK27 => ?_
                  refine vc_draw (by kernel_rfl) ?_
                  change VD _ _ _ 12 _ _ _
                  refine vd_light 0 rfl rfl rfl (by kernel_rfl) (by kernel_rfl) (by kernel_rfl) (wnt_none rfl) (lt_fieldAddr_ptr rfl Try.underlying70 rfl inf50 (by rw [sz50]; decide)) ?_
                  try simp only [Nat.zero_add]
                  refine vd_light 1 rfl rfl rfl (by kernel_rfl) (by kernel_rfl) (by kernel_rfl) (wnt_none rfl) (lt_load_var rfl rfl Try.underlying50 rfl rfl) ?_
                  refine vd_light 2 rfl rfl rfl (by kernel_rfl) (by kernel_rfl) (by kernel_rfl) (wnt_none rfl) (lt_move_pv rfl) ?_
                  refine vd_light 3 rfl rfl rfl (by kernel_rfl) (by kernel_rfl) (by kernel_rfl) (wnt_none rfl) (lt_index_pv (.int .i64 0) rfl rfl E50.und inf3 sz3 sd sd) ?_
                  simp only [Int.toNat_natCast, Int.toNat_zero, getD_ints, getD_intss, getD_bools, getD_bytes, PV.cells, getD_ops, getD_pairs, getD_insts]
                  refine vd_light 4 rfl rfl rfl (by kernel_rfl) (by kernel_rfl) (by kernel_rfl) (wnt_none rfl) (lt_load_adr rfl Try.underlying3 rfl) ?_
                  refine vd_light 5 rfl rfl rfl (by kernel_rfl) (by kernel_rfl) (by kernel_rfl) (wnt_none rfl) (lt_binI rfl rfl rfl trivial) ?_
                  refine vd_light 6 rfl rfl rfl (by kernel_rfl) (by kernel_rfl) (by kernel_rfl) (wnt_none rfl) (lt_fieldAddr_ptr rfl Try.underlying70 rfl inf50 (by rw [sz50]; decide)) ?_
                  try simp only [Nat.zero_add]
                  refine vd_light 7 rfl rfl rfl (by kernel_rfl) (by kernel_rfl) (by kernel_rfl) (wnt_none rfl) (lt_load_var rfl rfl Try.underlying50 rfl rfl) ?_
                  refine vd_light 8 rfl rfl rfl (by kernel_rfl) (by kernel_rfl) (by kernel_rfl) (wnt_none rfl) (lt_move_pv rfl) ?_
                  refine vd_call 9 rfl (by kernel_rfl) (wnt_none rfl) Try.func112 rfl rfl rfl rfl (placeIn_sat (by omega)) ?_
                  rintro _ _ ⟨rfl, rfl⟩
                  refine ⟨rfl, rfl, .inl rfl, ?_⟩
                  refine vd_stM ?_
                  refine vd_light 10 rfl rfl rfl (by kernel_rfl) (by kernel_rfl) (by kernel_rfl) (wnt_none rfl) (lt_binI rfl rfl rfl trivial) ?_
                  refine vd_light 11 rfl rfl rfl (by kernel_rfl) (by kernel_rfl) (by kernel_rfl) (wnt_none rfl) (lt_binB rfl rfl rfl Try.underlying4) ?_
                  refine vd_nil (by kernel_rfl) ?_
                  refine hK27 _ ?_
                  refine vc_cond rfl (fun hc13 => ?_) (fun hc13 => ?_)
                  · try simp only [decide_eq_true_eq, decide_eq_false_iff_not, beq_iff_eq, bne_iff_ne, beq_eq_false_iff_ne, bne_eq_false_iff_eq, Bool.not_eq_true, Bool.not_eq_false, Bool.not_eq_eq_eq_not, Bool.not_true, Bool.not_false, List.length_map, Int.not_lt, Int.not_le, ne_eq, Decidable.not_not] at hc13
                    refine vc_seq fun K28 hK28 => ?_
                    refine vc_region ?_
                    refine vo_assign_pv rfl rfl ?_
                    refine vo_nil ?_
                    refine hK28 _ ?_
                    refine vc_ret ?_
                    change retQ _ _ _ _ _
                    refine retQ_sel [] (srows := []) (.inr rfl) hC rfl rfl rfl rfl rfl rfl rfl ?_
                    refine ⟨?_, rfl⟩
                    refine (congrArg (fun b => [bo b]) (?_ : _ = _) : [bo _] = [bo _])
                    first
                      | exact bF (validI_own (h := h) (k := k) (by omega) (by unfold okPair; omega))
                      | (refine bF fun h0 => ?_
                         have h := hV.1 h0
                         have h1 := h.1; have h2 := h.2.1
                         first
                           | omega
                           | exact absurd h.2.2.1 (by rw [hall] at hg5; exact hg5)
                           | (have hT := (tpl_iff h.2.2.1.1).1 h.2.2.2
                              first
                                | exact absurd h.2.2.1.1 (by assumption)
                                | exact absurd hT.1 (by assumption)
                                | exact absurd hT.2.1 (by assumption)
                                | (have h3 := hT.2.2 k (by omega)
                                   exact hc13 (decide_eq_decide.2 (h3.trans (findM_mem _ _ 0 (by omega)).symm)))))
                      | (rw [hall] at hf hg5
                         rw [Bool.eq_iff_iff, beq_iff_eq, decide_eq_true_eq, hV, List.length_map]
                         exact ⟨fun h => ⟨by omega, by omega, hg5, hf⟩, fun h => by have := h.2.1; omega⟩)
                      | exact bT (hV.2 ⟨by omega, by omega, ⟨hg9, .inl (by omega)⟩, (tpl_iff hg9).2 ⟨hg10, hc11, fun i hi => hf2 i (by omega)⟩⟩)
                      | (rw [List.length_map, show ((x.values.length : Int) - 1).toNat = x.values.length - 1 by omega]
                         exact decide_eq_decide.2 ⟨fun h => hV.2 ⟨by omega, by omega, ⟨hg9, .inr h⟩, (tpl_iff hg9).2 ⟨hg10, hc11, fun i hi => hf2 i (by omega)⟩⟩, fun h0 => by
                           rcases (hV.1 h0).2.2.1.2 with h | h
                           · omega
                           · exact h⟩)
                  · try simp only [decide_eq_true_eq, decide_eq_false_iff_not, beq_iff_eq, bne_iff_ne, beq_eq_false_iff_ne, bne_eq_false_iff_eq, Bool.not_eq_true, Bool.not_eq_false, Bool.not_eq_eq_eq_not, Bool.not_true, Bool.not_false, List.length_map, Int.not_lt, Int.not_le, ne_eq, Decidable.not_not] at hc13
                    refine vc_skip ?_
                    refine hK26 _ ?_
                    refine vc_region ?_
                    refine vo_move_pv rfl rfl ?_
                    refine vo_binI rfl rfl rfl rfl sd ?_
                    refine vo_assign_pv rfl rfl ?_
                    refine vo_nil ?_
                    change againE _ _ _ _ _ _ _ _ _ _
                    refine againE_mk rfl rfl rfl rfl rfl rfl ⟨_, ?_, k + 1, rfl, ?_, ?_, rfl, rfl⟩
                    · omega
                    · omega
                    · intro i h1; rcases Nat.lt_or_ge i k with h2 | h2; exact hf2 i h2; rw [show i = k by omega]; exact (decide_eq_decide.1 hc13).trans (findM_mem _ _ 0 (by omega))
                · try simp only [decide_eq_true_eq, decide_eq_false_iff_not, beq_iff_eq, bne_iff_ne, beq_eq_false_iff_ne, bne_eq_false_iff_eq, Bool.not_eq_true, Bool.not_eq_false, Bool.not_eq_eq_eq_not, Bool.not_true, Bool.not_false, List.length_map, Int.not_lt, Int.not_le, ne_eq, Decidable.not_not] at hc12
                  refine vc_exit ?_
                  refine hK22 _ ?_
                  refine vc_seq fun K29 hK29 => ?_
                  refine vc_region ?_
                  refine vo_fieldAddr_ptr rfl rfl Try.underlying70 rfl inf50 (by rw [sz50]; decide) ?_
                  try simp only [Nat.zero_add]
                  refine vo_load_var rfl rfl rfl Try.underlying50 rfl rfl ?_
                  refine vo_len_pv rfl rfl Try.underlying50 ?_
                  refine vo_binI rfl rfl rfl rfl trivial ?_
                  refine vo_move_pv rfl rfl ?_
                  refine vo_split 118 rfl (fun hg14 => ?_) (fun hg14 => ?_)
                  · try simp only [decide_eq_true_eq, decide_eq_false_iff_not, beq_iff_eq, bne_iff_ne, beq_eq_false_iff_ne, bne_eq_false_iff_eq, Bool.not_eq_true, Bool.not_eq_false, Bool.not_eq_eq_eq_not, Bool.not_true, Bool.not_false, List.length_map, Int.not_lt, Int.not_le, ne_eq, Decidable.not_not] at hg14
                    refine vo_guard_off rfl rfl rfl rfl rfl ?_
                    refine vo_guard_off rfl rfl rfl rfl rfl ?_
                    refine vo_guard_off rfl rfl rfl rfl rfl ?_
                    refine vo_guard_off rfl rfl rfl rfl rfl ?_
                    refine vo_guard_off rfl rfl rfl rfl rfl ?_
                    refine vo_guard_off rfl rfl rfl rfl rfl ?_
                    refine vo_guard_off rfl rfl rfl rfl rfl ?_
                    refine vo_guard_off rfl rfl rfl rfl rfl ?_
                    refine vo_guard_off rfl rfl rfl rfl rfl ?_
                    refine vo_pick_t rfl rfl ?_
                    refine vo_assign_pv rfl rfl ?_
                    refine vo_nil ?_
                    refine hK29 _ ?_
                    refine vc_ret ?_
                    change retQ _ _ _ _ _
                    refine retQ_sel [] (srows := []) (.inr rfl) hC rfl rfl rfl rfl rfl rfl rfl ?_
                    refine ⟨?_, rfl⟩
                    refine (congrArg (fun b => [bo b]) (?_ : _ = _) : [bo _] = [bo _])
                    first
                      | exact bF (validI_own (h := h) (k := k) (by omega) (by unfold okPair; omega))
                      | (refine bF fun h0 => ?_
                         have h := hV.1 h0
                         have h1 := h.1; have h2 := h.2.1
                         first
                           | omega
                           | exact absurd h.2.2.1 (by rw [hall] at hg5; exact hg5)
                           | (have hT := (tpl_iff h.2.2.1.1).1 h.2.2.2
                              first
                                | exact absurd h.2.2.1.1 (by assumption)
                                | exact absurd hT.1 (by assumption)
                                | exact absurd hT.2.1 (by assumption)
                                | (have h3 := hT.2.2 k (by omega)
                                   exact hc13 (decide_eq_decide.2 (h3.trans (findM_mem _ _ 0 (by omega)).symm)))))
                      | (rw [hall] at hf hg5
                         rw [Bool.eq_iff_iff, beq_iff_eq, decide_eq_true_eq, hV, List.length_map]
                         exact ⟨fun h => ⟨by omega, by omega, hg5, hf⟩, fun h => by have := h.2.1; omega⟩)
                      | exact bT (hV.2 ⟨by omega, by omega, ⟨hg9, .inl (by omega)⟩, (tpl_iff hg9).2 ⟨hg10, hc11, fun i hi => hf2 i (by omega)⟩⟩)
                      | (rw [List.length_map, show ((x.values.length : Int) - 1).toNat = x.values.length - 1 by omega]
                         exact decide_eq_decide.2 ⟨fun h => hV.2 ⟨by omega, by omega, ⟨hg9, .inr h⟩, (tpl_iff hg9).2 ⟨hg10, hc11, fun i hi => hf2 i (by omega)⟩⟩, fun h0 => by
                           rcases (hV.1 h0).2.2.1.2 with h | h
                           · omega
                           · exact h⟩)
                  · try simp only [decide_eq_true_eq, decide_eq_false_iff_not, beq_iff_eq, bne_iff_ne, beq_eq_false_iff_ne, bne_eq_false_iff_eq, Bool.not_eq_true, Bool.not_eq_false, Bool.not_eq_eq_eq_not, Bool.not_true, Bool.not_false, List.length_map, Int.not_lt, Int.not_le, ne_eq, Decidable.not_not] at hg14
                    refine vo_guard_on rfl rfl rfl ?_
                    refine vo_fieldAddr_ptr rfl rfl Try.underlying70 rfl inf50 (by rw [sz50]; decide) ?_
                    try simp only [Nat.zero_add]
                    refine vo_guard_on rfl rfl rfl ?_
                    refine vo_load_var rfl rfl rfl Try.underlying50 rfl rfl ?_
                    refine vo_guard_on rfl rfl rfl ?_
                    refine vo_fieldAddr_ptr rfl rfl Try.underlying70 rfl inf50 (by rw [sz50]; decide) ?_
                    try simp only [Nat.zero_add]
                    refine vo_guard_on rfl rfl rfl ?_
                    refine vo_load_var rfl rfl rfl Try.underlying50 rfl rfl ?_
                    refine vo_guard_on rfl rfl rfl ?_
                    refine vo_len_pv rfl rfl Try.underlying50 ?_
                    refine vo_guard_on rfl rfl rfl ?_
                    refine vo_binI rfl rfl rfl rfl sd ?_
                    refine vo_guard_on rfl rfl rfl ?_
                    refine vo_index_pv (.int .i64 0) rfl rfl rfl E50.und inf3 sz3 sd sd ?_
                    simp only [Int.toNat_natCast, Int.toNat_zero, getD_ints, getD_intss, getD_bools, getD_bytes, PV.cells, getD_ops, getD_pairs, getD_insts]
                    refine vo_guard_on rfl rfl rfl ?_
                    refine vo_load_adr rfl rfl Try.underlying3 rfl ?_
                    refine vo_guard_on rfl rfl rfl ?_
                    refine vo_binI rfl rfl rfl rfl trivial ?_
                    refine vo_pick_f rfl rfl ?_
                    refine vo_assign_pv rfl rfl ?_
                    refine vo_nil ?_
                    refine hK29 _ ?_
                    refine vc_ret ?_
                    change retQ _ _ _ _ _
                    refine retQ_sel [] (srows := []) (.inr rfl) hC rfl rfl rfl rfl rfl rfl rfl ?_
                    refine ⟨?_, rfl⟩
                    refine (congrArg (fun b => [bo b]) (?_ : _ = _) : [bo _] = [bo _])
                    first
                      | exact bF (validI_own (h := h) (k := k) (by omega) (by unfold okPair; omega))
                      | (refine bF fun h0 => ?_
                         have h := hV.1 h0
                         have h1 := h.1; have h2 := h.2.1
                         first
                           | omega
                           | exact absurd h.2.2.1 (by rw [hall] at hg5; exact hg5)
                           | (have hT := (tpl_iff h.2.2.1.1).1 h.2.2.2
                              first
                                | exact absurd h.2.2.1.1 (by assumption)
                                | exact absurd hT.1 (by assumption)
                                | exact absurd hT.2.1 (by assumption)
                                | (have h3 := hT.2.2 k (by omega)
                                   exact hc13 (decide_eq_decide.2 (h3.trans (findM_mem _ _ 0 (by omega)).symm)))))
                      | (rw [hall] at hf hg5
                         rw [Bool.eq_iff_iff, beq_iff_eq, decide_eq_true_eq, hV, List.length_map]
                         exact ⟨fun h => ⟨by omega, by omega, hg5, hf⟩, fun h => by have := h.2.1; omega⟩)
                      | exact bT (hV.2 ⟨by omega, by omega, ⟨hg9, .inl (by omega)⟩, (tpl_iff hg9).2 ⟨hg10, hc11, fun i hi => hf2 i (by omega)⟩⟩)
                      | (rw [List.length_map, show ((x.values.length : Int) - 1).toNat = x.values.length - 1 by omega]
                         exact decide_eq_decide.2 ⟨fun h => hV.2 ⟨by omega, by omega, ⟨hg9, .inr h⟩, (tpl_iff hg9).2 ⟨hg10, hc11, fun i hi => hf2 i (by omega)⟩⟩, fun h0 => by
                           rcases (hV.1 h0).2.2.1.2 with h | h
                           · omega
                           · exact h⟩)


theorem specValidHeap0_sat {h : HeapM}  (hh : SH h) : SatAt Try.prog 73 [.pv false (heapP h)] [] (fun res rows => res = [bo (decide (VHeap h))] ∧ rows = []) := by
  obtain ⟨hh1, hh2, hh3⟩ := hh
  refine sat_entry_G (rs := [(2, none)]) Try.func73 rfl rfl (Nat.le_of_ble_eq_true rfl) (Nat.le_of_ble_eq_true rfl) (resTs1 trivial) fun C hC => ?_
  rw [Try.ntmps73]
  replace hC : C.nb = 0 := hC
  refine vc_seq fun K1 hK1 => ?_
  refine vc_region ?_
  refine vo_box rfl rfl ?_
  refine vo_stM ?_
  refine vo_assign_pv rfl rfl ?_
  refine vo_nil ?_
  refine hK1 _ ?_
  refine vc_seq fun K2 hK2 => ?_
  refine vc_seq fun K3 hK3 => ?_
  refine vc_region ?_
  refine vo_fieldAddr_ptr rfl rfl Try.underlying58 rfl inf50 (by rw [sz50]; decide) ?_
  try simp only [Nat.zero_add]
  refine vo_load_var rfl rfl rfl Try.underlying50 rfl rfl ?_
  refine vo_len_pv rfl rfl Try.underlying50 ?_
  refine vo_binI rfl rfl rfl rfl trivial ?_
  refine vo_move_pv rfl rfl ?_
  refine vo_split 8 rfl (fun hg1 => ?_) (fun hg1 => ?_)
  · try simp only [decide_eq_true_eq, decide_eq_false_iff_not, beq_iff_eq, bne_iff_ne, beq_eq_false_iff_ne, bne_eq_false_iff_eq, Bool.not_eq_true, Bool.not_eq_false, Bool.not_eq_eq_eq_not, Bool.not_true, Bool.not_false, List.length_map, Int.not_lt, Int.not_le, ne_eq, Decidable.not_not] at hg1
    refine vo_guard_off rfl rfl rfl rfl rfl ?_
    refine vo_guard_off rfl rfl rfl rfl rfl ?_
    refine vo_guard_off rfl rfl rfl rfl rfl ?_
    refine vo_guard_off rfl rfl rfl rfl rfl ?_
    refine vo_pick_t rfl rfl ?_
    refine vo_move_pv rfl rfl ?_
    refine vo_guard_off rfl rfl rfl rfl rfl ?_
    refine vo_guard_off rfl rfl rfl rfl rfl ?_
    refine vo_guard_off rfl rfl rfl rfl rfl ?_
    refine vo_guard_off rfl rfl rfl rfl rfl ?_
    refine vo_pick_t rfl rfl ?_
    refine vo_move_pv rfl rfl ?_
    refine vo_guard_off rfl rfl rfl rfl rfl ?_
    refine vo_guard_off rfl rfl rfl rfl rfl ?_
    refine vo_guard_off rfl rfl rfl rfl rfl ?_
    refine vo_guard_off rfl rfl rfl rfl rfl ?_
    refine vo_pick_t rfl rfl ?_
    refine vo_nil ?_
    refine hK3 _ ?_
    refine vc_cond_t rfl ?_
    refine vc_seq fun K4 hK4 => ?_
    refine vc_region ?_
    refine vo_assign_pv rfl rfl ?_
    refine vo_nil ?_
    refine hK4 _ ?_
    refine vc_ret ?_
    change retQ _ _ _ _ _
    refine retQ_sel [] (srows := []) (.inr rfl) hC rfl rfl rfl rfl rfl rfl rfl ?_
    refine ⟨?_, rfl⟩
    refine (congrArg (fun b => [bo b]) (?_ : _ = _) : [bo _] = [bo _])
    first
      | (refine bF fun h0 => ?_
         have h1 := h0.1.1; have h2 := h0.2.2.1
         first | omega | exact absurd h0.1.2 (by assumption) | exact absurd h0.2.1 (by assumption) | exact absurd (h0.2.2.2 _ (getD_mem (show k < h.insts.length by omega) ⟨false, [], [], []⟩)) (by assumption))
      | (rw [take_all (by omega)] at hf; exact bT ⟨⟨by omega, by assumption⟩, by assumption, by omega, hf⟩)
  · try simp only [decide_eq_true_eq, decide_eq_false_iff_not, beq_iff_eq, bne_iff_ne, beq_eq_false_iff_ne, bne_eq_false_iff_eq, Bool.not_eq_true, Bool.not_eq_false, Bool.not_eq_eq_eq_not, Bool.not_true, Bool.not_false, List.length_map, Int.not_lt, Int.not_le, ne_eq, Decidable.not_not] at hg1
    refine vo_guard_on rfl rfl rfl ?_
    refine vo_fieldAddr_ptr rfl rfl Try.underlying58 rfl inf50 (by rw [sz50]; decide) ?_
    try simp only [Nat.zero_add]
    refine vo_guard_on rfl rfl rfl ?_
    refine vo_load_var rfl rfl rfl Try.underlying50 rfl rfl ?_
    refine vo_guard_on rfl rfl rfl ?_
    refine vo_call0 Try.func99 rfl rfl rfl rfl (different_sat (by omega)) ?_
    rintro _ _ ⟨rfl, rfl⟩
    refine ⟨rfl, rfl, .inl rfl, ?_⟩
    refine vo_stM ?_
    refine vo_guard_on rfl rfl rfl ?_
    refine vo_not rfl rfl ?_
    refine vo_pick_f rfl rfl ?_
    refine vo_move_pv rfl rfl ?_
    refine vo_split 14 rfl (fun hg2 => ?_) (fun hg2 => ?_)
    · try simp only [decide_eq_true_eq, decide_eq_false_iff_not, beq_iff_eq, bne_iff_ne, beq_eq_false_iff_ne, bne_eq_false_iff_eq, Bool.not_eq_true, Bool.not_eq_false, Bool.not_eq_eq_eq_not, Bool.not_true, Bool.not_false, List.length_map, Int.not_lt, Int.not_le, ne_eq, Decidable.not_not] at hg2
      refine vo_guard_off rfl rfl rfl rfl rfl ?_
      refine vo_guard_off rfl rfl rfl rfl rfl ?_
      refine vo_guard_off rfl rfl rfl rfl rfl ?_
      refine vo_guard_off rfl rfl rfl rfl rfl ?_
      refine vo_pick_t rfl rfl ?_
      refine vo_move_pv rfl rfl ?_
      refine vo_guard_off rfl rfl rfl rfl rfl ?_
      refine vo_guard_off rfl rfl rfl rfl rfl ?_
      refine vo_guard_off rfl rfl rfl rfl rfl ?_
      refine vo_guard_off rfl rfl rfl rfl rfl ?_
      refine vo_pick_t rfl rfl ?_
      refine vo_nil ?_
      refine hK3 _ ?_
      refine vc_cond_t rfl ?_
      refine vc_seq fun K5 hK5 => ?_
      refine vc_region ?_
      refine vo_assign_pv rfl rfl ?_
      refine vo_nil ?_
      refine hK5 _ ?_
      refine vc_ret ?_
      change retQ _ _ _ _ _
      refine retQ_sel [] (srows := []) (.inr rfl) hC rfl rfl rfl rfl rfl rfl rfl ?_
      refine ⟨?_, rfl⟩
      refine (congrArg (fun b => [bo b]) (?_ : _ = _) : [bo _] = [bo _])
      first
        | (refine bF fun h0 => ?_
           have h1 := h0.1.1; have h2 := h0.2.2.1
           first | omega | exact absurd h0.1.2 (by assumption) | exact absurd h0.2.1 (by assumption) | exact absurd (h0.2.2.2 _ (getD_mem (show k < h.insts.length by omega) ⟨false, [], [], []⟩)) (by assumption))
        | (rw [take_all (by omega)] at hf; exact bT ⟨⟨by omega, by assumption⟩, by assumption, by omega, hf⟩)
    · try simp only [decide_eq_true_eq, decide_eq_false_iff_not, beq_iff_eq, bne_iff_ne, beq_eq_false_iff_ne, bne_eq_false_iff_eq, Bool.not_eq_true, Bool.not_eq_false, Bool.not_eq_eq_eq_not, Bool.not_true, Bool.not_false, List.length_map, Int.not_lt, Int.not_le, ne_eq, Decidable.not_not] at hg2
      refine vo_guard_on rfl rfl rfl ?_
      refine vo_fieldAddr_ptr rfl rfl Try.underlying58 rfl inf50 (by rw [sz50]; decide) ?_
      try simp only [Nat.zero_add]
      refine vo_guard_on rfl rfl rfl ?_
      refine vo_load_var rfl rfl rfl Try.underlying50 rfl rfl ?_
      refine vo_guard_on rfl rfl rfl ?_
      refine vo_call0 Try.func100 rfl rfl rfl rfl (allIn_sat (by omega)) ?_
      rintro _ _ ⟨rfl, rfl⟩
      refine ⟨rfl, rfl, .inl rfl, ?_⟩
      refine vo_stM ?_
      refine vo_guard_on rfl rfl rfl ?_
      refine vo_not rfl rfl ?_
      refine vo_pick_f rfl rfl ?_
      refine vo_move_pv rfl rfl ?_
      refine vo_split 20 rfl (fun hg3 => ?_) (fun hg3 => ?_)
      · try simp only [decide_eq_true_eq, decide_eq_false_iff_not, beq_iff_eq, bne_iff_ne, beq_eq_false_iff_ne, bne_eq_false_iff_eq, Bool.not_eq_true, Bool.not_eq_false, Bool.not_eq_eq_eq_not, Bool.not_true, Bool.not_false, List.length_map, Int.not_lt, Int.not_le, ne_eq, Decidable.not_not] at hg3
        refine vo_guard_off rfl rfl rfl rfl rfl ?_
        refine vo_guard_off rfl rfl rfl rfl rfl ?_
        refine vo_guard_off rfl rfl rfl rfl rfl ?_
        refine vo_guard_off rfl rfl rfl rfl rfl ?_
        refine vo_pick_t rfl rfl ?_
        refine vo_nil ?_
        refine hK3 _ ?_
        refine vc_cond_t rfl ?_
        refine vc_seq fun K6 hK6 => ?_
        refine vc_region ?_
        refine vo_assign_pv rfl rfl ?_
        refine vo_nil ?_
        refine hK6 _ ?_
        refine vc_ret ?_
        change retQ _ _ _ _ _
        refine retQ_sel [] (srows := []) (.inr rfl) hC rfl rfl rfl rfl rfl rfl rfl ?_
        refine ⟨?_, rfl⟩
        refine (congrArg (fun b => [bo b]) (?_ : _ = _) : [bo _] = [bo _])
        first
          | (refine bF fun h0 => ?_
             have h1 := h0.1.1; have h2 := h0.2.2.1
             first | omega | exact absurd h0.1.2 (by assumption) | exact absurd h0.2.1 (by assumption) | exact absurd (h0.2.2.2 _ (getD_mem (show k < h.insts.length by omega) ⟨false, [], [], []⟩)) (by assumption))
          | (rw [take_all (by omega)] at hf; exact bT ⟨⟨by omega, by assumption⟩, by assumption, by omega, hf⟩)
      · try simp only [decide_eq_true_eq, decide_eq_false_iff_not, beq_iff_eq, bne_iff_ne, beq_eq_false_iff_ne, bne_eq_false_iff_eq, Bool.not_eq_true, Bool.not_eq_false, Bool.not_eq_eq_eq_not, Bool.not_true, Bool.not_false, List.length_map, Int.not_lt, Int.not_le, ne_eq, Decidable.not_not] at hg3
        refine vo_guard_on rfl rfl rfl ?_
        refine vo_fieldAddr_ptr rfl rfl Try.underlying58 rfl inf56 (by rw [sz56]; decide) ?_
        try simp only [Nat.zero_add]
        refine vo_guard_on rfl rfl rfl ?_
        refine vo_load_var rfl rfl rfl Try.underlying56 rfl rfl ?_
        refine vo_guard_on rfl rfl rfl ?_
        refine vo_len_pv rfl rfl Try.underlying56 ?_
        refine vo_guard_on rfl rfl rfl ?_
        refine vo_binI rfl rfl rfl rfl trivial ?_
        refine vo_pick_f rfl rfl ?_
        refine vo_nil ?_
        refine hK3 _ ?_
        refine vc_cond rfl (fun hc4 => ?_) (fun hc4 => ?_)
        · try simp only [decide_eq_true_eq, decide_eq_false_iff_not, beq_iff_eq, bne_iff_ne, beq_eq_false_iff_ne, bne_eq_false_iff_eq, Bool.not_eq_true, Bool.not_eq_false, Bool.not_eq_eq_eq_not, Bool.not_true, Bool.not_false, List.length_map, Int.not_lt, Int.not_le, ne_eq, Decidable.not_not] at hc4
          refine vc_seq fun K7 hK7 => ?_
          refine vc_region ?_
          refine vo_assign_pv rfl rfl ?_
          refine vo_nil ?_
          refine hK7 _ ?_
          refine vc_ret ?_
          change retQ _ _ _ _ _
          refine retQ_sel [] (srows := []) (.inr rfl) hC rfl rfl rfl rfl rfl rfl rfl ?_
          refine ⟨?_, rfl⟩
          refine (congrArg (fun b => [bo b]) (?_ : _ = _) : [bo _] = [bo _])
          first
            | (refine bF fun h0 => ?_
               have h1 := h0.1.1; have h2 := h0.2.2.1
               first | omega | exact absurd h0.1.2 (by assumption) | exact absurd h0.2.1 (by assumption) | exact absurd (h0.2.2.2 _ (getD_mem (show k < h.insts.length by omega) ⟨false, [], [], []⟩)) (by assumption))
            | (rw [take_all (by omega)] at hf; exact bT ⟨⟨by omega, by assumption⟩, by assumption, by omega, hf⟩)
        · try simp only [decide_eq_true_eq, decide_eq_false_iff_not, beq_iff_eq, bne_iff_ne, beq_eq_false_iff_ne, bne_eq_false_iff_eq, Bool.not_eq_true, Bool.not_eq_false, Bool.not_eq_eq_eq_not, Bool.not_true, Bool.not_false, List.length_map, Int.not_lt, Int.not_le, ne_eq, Decidable.not_not] at hc4
          refine vc_skip ?_
          refine hK2 _ ?_
          refine vc_seq fun K8 hK8 => ?_
          refine vc_seq fun K9 hK9 => ?_
          refine vc_region ?_
          refine vo_assign_pv rfl rfl ?_
          refine vo_nil ?_
          refine hK9 _ ?_
          refine vc_block ?_
          refine vc_stM ?_
          refine vc_loopE [1] [3] [] _ _ (fun mz vs rs => ∃ (k : Nat), mz = h.insts.length - k ∧ (k ≤ h.insts.length) ∧ (∀ x ∈ h.insts.take k, VInst h.keys.length x) ∧ vs = [i64 k] ∧ rs = []) (h.insts.length) rfl rfl (le_len hC rfl) ⟨rfl, rfl, rfl⟩ rfl ⟨0, rfl, Nat.zero_le _, (by simp), rfl, rfl⟩ ?_
          rintro mz vs rs - - ⟨k, rfl, hk, hf, rfl, rfl⟩
          refine vc_stM ?_
          refine vc_seq fun K10 hK10 => ?_
          refine vc_seq fun K11 hK11 => ?_
          refine vc_region ?_
          refine vo_move_pv rfl rfl ?_
          refine vo_fieldAddr_ptr rfl rfl Try.underlying58 rfl inf56 (by rw [sz56]; decide) ?_
          try simp only [Nat.zero_add]
          refine vo_load_var rfl rfl rfl Try.underlying56 rfl rfl ?_
          refine vo_len_pv rfl rfl Try.underlying56 ?_
          refine vo_binI rfl rfl rfl rfl trivial ?_
          refine vo_nil ?_
          refine hK11 _ ?_
          refine vc_cond rfl (fun hc5 => ?_) (fun hc5 => ?_)
          · try simp only [decide_eq_true_eq, decide_eq_false_iff_not, beq_iff_eq, bne_iff_ne, beq_eq_false_iff_ne, bne_eq_false_iff_eq, Bool.not_eq_true, Bool.not_eq_false, Bool.not_eq_eq_eq_not, Bool.not_true, Bool.not_false, List.length_map, Int.not_lt, Int.not_le, ne_eq, Decidable.not_not] at hc5
            refine vc_skip ?_
            refine hK10 _ ?_
            refine vc_seq fun K12 hK12 => ?_
            refine vc_block ?_
            refine vc_seq fun K13 hK13 => ?_
            refine vc_draw (by kernel_rfl) ?_
            change VD _ _ _ 8 _ _ _
            refine vd_light 0 rfl rfl rfl (by kernel_rfl) (by kernel_rfl) (by kernel_rfl) (wnt_none rfl) (lt_load_varS rfl rfl Try.underlying58 rfl inf58 sz58 rfl rfl) ?_
            refine vd_light 1 rfl rfl rfl (by kernel_rfl) (by kernel_rfl) (by kernel_rfl) (wnt_none rfl) (lt_fieldAddr_ptr rfl Try.underlying58 rfl inf56 (by rw [sz56]; decide)) ?_
            try simp only [Nat.zero_add]
            refine vd_light 2 rfl rfl rfl (by kernel_rfl) (by kernel_rfl) (by kernel_rfl) (wnt_none rfl) (lt_load_var rfl rfl Try.underlying56 rfl rfl) ?_
            refine vd_light 3 rfl rfl rfl (by kernel_rfl) (by kernel_rfl) (by kernel_rfl) (wnt_none rfl) (lt_move_pv rfl) ?_
            refine vd_light 4 rfl rfl rfl (by kernel_rfl) (by kernel_rfl) (by kernel_rfl) (wnt_none rfl) (lt_index_pv (.agg [(.bool false), (.sl none 1 []), (.sl none 1 []), (.sl none 2 [])]) rfl rfl E56.und inf70 sz70 sd sd) ?_
            simp only [Int.toNat_natCast, Int.toNat_zero, getD_ints, getD_intss, getD_bools, getD_bytes, PV.cells, getD_ops, getD_pairs, getD_insts]
            refine vd_light 5 rfl rfl rfl (by kernel_rfl) (by kernel_rfl) (by kernel_rfl) (wnt_none rfl) (lt_load_adrS rfl Try.underlying70 rfl inf70 sz70 rfl) ?_
            refine vd_st (by (try simp only [St.put, PV.cells, PV.scal, List.drop_succ_cons, List.drop_zero, List.take_succ_cons, List.take_zero, List.map_cons, List.map_nil, Bool.or_true, Bool.or_false, Bool.false_or, Bool.true_or, opP, pairP, instP, heapP]); exact eq_refl _) ?_
            refine vd_call 6 rfl (by kernel_rfl) (wnt_none rfl) Try.func101 rfl rfl rfl rfl (validInst_sat (by omega) (getD_all hh3 _ SI_zero _)) ?_
            rintro _ _ ⟨rfl, rfl⟩
            refine ⟨rfl, rfl, .inl rfl, ?_⟩
            refine vd_stM ?_
            refine vd_light 7 rfl rfl rfl (by kernel_rfl) (by kernel_rfl) (by kernel_rfl) (wnt_none rfl) (lt_not rfl) ?_
            refine vd_nil (by kernel_rfl) ?_
            refine hK13 _ ?_
            refine vc_cond rfl (fun hc6 => ?_) (fun hc6 => ?_)
            · try simp only [decide_eq_true_eq, decide_eq_false_iff_not, beq_iff_eq, bne_iff_ne, beq_eq_false_iff_ne, bne_eq_false_iff_eq, Bool.not_eq_true, Bool.not_eq_false, Bool.not_eq_eq_eq_not, Bool.not_true, Bool.not_false, List.length_map, Int.not_lt, Int.not_le, ne_eq, Decidable.not_not] at hc6
              refine vc_seq fun K14 hK14 => ?_
              refine vc_region ?_
              refine vo_assign_pv rfl rfl ?_
              refine vo_nil ?_
              refine hK14 _ ?_
              refine vc_ret ?_
              change retQ _ _ _ _ _
              refine retQ_sel [] (srows := []) (.inr rfl) hC rfl rfl rfl rfl rfl rfl rfl ?_
              refine ⟨?_, rfl⟩
              refine (congrArg (fun b => [bo b]) (?_ : _ = _) : [bo _] = [bo _])
              first
                | (refine bF fun h0 => ?_
                   have h1 := h0.1.1; have h2 := h0.2.2.1
                   first | omega | exact absurd h0.1.2 (by assumption) | exact absurd h0.2.1 (by assumption) | exact absurd (h0.2.2.2 _ (getD_mem (show k < h.insts.length by omega) ⟨false, [], [], []⟩)) (by assumption))
                | (rw [take_all (by omega)] at hf; exact bT ⟨⟨by omega, by assumption⟩, by assumption, by omega, hf⟩)
            · try simp only [decide_eq_true_eq, decide_eq_false_iff_not, beq_iff_eq, bne_iff_ne, beq_eq_false_iff_ne, bne_eq_false_iff_eq, Bool.not_eq_true, Bool.not_eq_false, Bool.not_eq_eq_eq_not, Bool.not_true, Bool.not_false, List.length_map, Int.not_lt, Int.not_le, ne_eq, Decidable.not_not] at hc6
              refine vc_skip ?_
              refine hK12 _ ?_
              refine vc_region ?_
              refine vo_move_pv rfl rfl ?_
              refine vo_binI rfl rfl rfl rfl sd ?_
              refine vo_assign_pv rfl rfl ?_
              refine vo_nil ?_
              change againE _ _ _ _ _ _ _ _ _ _
              refine againE_mk rfl rfl rfl rfl rfl rfl ⟨_, ?_, k + 1, rfl, ?_, ?_, rfl, rfl⟩
              · omega
              · omega
              · exact (all_take_succ (by omega) ⟨false, [], [], []⟩).2 ⟨hf, by assumption⟩
          · try simp only [decide_eq_true_eq, decide_eq_false_iff_not, beq_iff_eq, bne_iff_ne, beq_eq_false_iff_ne, bne_eq_false_iff_eq, Bool.not_eq_true, Bool.not_eq_false, Bool.not_eq_eq_eq_not, Bool.not_true, Bool.not_false, List.length_map, Int.not_lt, Int.not_le, ne_eq, Decidable.not_not] at hc5
            refine vc_exit ?_
            refine hK8 _ ?_
            refine vc_seq fun K15 hK15 => ?_
            refine vc_region ?_
            refine vo_assign_pv rfl rfl ?_
            refine vo_nil ?_
            refine hK15 _ ?_
            refine vc_ret ?_
            change retQ _ _ _ _ _
            refine retQ_sel [] (srows := []) (.inr rfl) hC rfl rfl rfl rfl rfl rfl rfl ?_
            refine ⟨?_, rfl⟩
            refine (congrArg (fun b => [bo b]) (?_ : _ = _) : [bo _] = [bo _])
            first
              | (refine bF fun h0 => ?_
                 have h1 := h0.1.1; have h2 := h0.2.2.1
                 first | omega | exact absurd h0.1.2 (by assumption) | exact absurd h0.2.1 (by assumption) | exact absurd (h0.2.2.2 _ (getD_mem (show k < h.insts.length by omega) ⟨false, [], [], []⟩)) (by assumption))
              | (rw [take_all (by omega)] at hf; exact bT ⟨⟨by omega, by assumption⟩, by assumption, by omega, hf⟩)


theorem specValidHeap_sat {h : HeapM}  (hh : SH h) : SatAt Try.prog 35 [.pv false (heapP h)] [] (fun res rows => res = [bo (decide (VHeap h))] ∧ rows = []) := by
  refine sat_entry_G (rs := [(2, none)]) Try.func35 rfl rfl (Nat.le_of_ble_eq_true rfl) (Nat.le_of_ble_eq_true rfl) (resTs1 trivial) fun C hC => ?_
  rw [Try.ntmps35]
  replace hC : C.nb = 0 := hC
  refine vc_seq fun K1 hK1 => ?_
  refine vc_region ?_
  refine vo_box rfl rfl ?_
  refine vo_stM ?_
  refine vo_assign_pv rfl rfl ?_
  refine vo_nil ?_
  refine hK1 _ ?_
  refine vc_seq fun K2 hK2 => ?_
  refine vc_region ?_
  refine vo_load_varS rfl rfl rfl Try.underlying58 rfl inf58 sz58 rfl rfl ?_
  refine vo_call0 Try.func73 rfl rfl rfl rfl (specValidHeap0_sat hh) ?_
  rintro _ _ ⟨rfl, rfl⟩
  refine ⟨rfl, rfl, .inl rfl, ?_⟩
  refine vo_stM ?_
  refine vo_assign_pv rfl rfl ?_
  refine vo_nil ?_
  refine hK2 _ ?_
  refine vc_ret ?_
  change retQ _ _ _ _ _
  refine retQ_sel [] (srows := []) (.inr rfl) hC rfl rfl rfl rfl rfl rfl rfl ?_
  refine ⟨?_, rfl⟩
  refine (congrArg (fun b => [bo b]) (?_ : _ = _) : [bo _] = [bo _])
  rfl


theorem FnExactValidHeap_sat {a : HeapM}  (ha : GH63 a) : SatAt Try.prog 9 [.pv false (heapP a)] [] (fun res rows => res = [bo true] ∧ rows = []) := by
  refine sat_entry_G (rs := [(2, none)]) Try.func9 rfl rfl (Nat.le_of_ble_eq_true rfl) (Nat.le_of_ble_eq_true rfl) (resTs1 trivial) fun C hC => ?_
  rw [Try.ntmps9]
  replace hC : C.nb = 0 := hC
  refine vc_seq fun K1 hK1 => ?_
  refine vc_region ?_
  refine vo_box rfl rfl ?_
  refine vo_stM ?_
  refine vo_assign_pv rfl rfl ?_
  refine vo_nil ?_
  refine hK1 _ ?_
  refine vc_seq fun K2 hK2 => ?_
  refine vc_region ?_
  refine vo_assign_pv rfl rfl ?_
  refine vo_nil ?_
  refine hK2 _ ?_
  refine vc_seq fun K3 hK3 => ?_
  refine vc_region ?_
  refine vo_load_varS rfl rfl rfl Try.underlying53 rfl inf53 sz53 rfl rfl ?_
  refine vo_move_pv rfl rfl ?_
  refine vo_call0 Try.func34 rfl rfl rfl rfl (szHeap_sat ha (by omega) (by omega)) ?_
  rintro _ _ ⟨v, hv, rfl, rfl⟩
  refine ⟨rfl, rfl, .inl rfl, ?_⟩
  refine vo_stM ?_
  refine vo_assign_pv rfl rfl ?_
  refine vo_nil ?_
  refine hK3 _ ?_
  refine vc_seq fun K4 hK4 => ?_
  refine vc_seq fun K5 hK5 => ?_
  refine vc_region ?_
  refine vo_move_pv rfl rfl ?_
  refine vo_binI rfl rfl rfl rfl trivial ?_
  refine vo_nil ?_
  refine hK5 _ ?_
  refine vc_cond rfl (fun hc1 => ?_) (fun hc1 => ?_)
  · try simp only [decide_eq_true_eq, decide_eq_false_iff_not, beq_iff_eq, bne_iff_ne, beq_eq_false_iff_ne, bne_eq_false_iff_eq, Bool.not_eq_true, Bool.not_eq_false, Bool.not_eq_eq_eq_not, Bool.not_true, Bool.not_false, List.length_map, Int.not_lt, Int.not_le, ne_eq, Decidable.not_not] at hc1
    refine vc_seq fun K6 hK6 => ?_
    refine vc_region ?_
    refine vo_assign_pv rfl rfl ?_
    refine vo_nil ?_
    refine hK6 _ ?_
    refine vc_ret ?_
    change retQ _ _ _ _ _
    refine retQ_sel [] (srows := []) (.inr rfl) hC rfl rfl rfl rfl rfl rfl rfl ?_
    exact ⟨rfl, rfl⟩
  · try simp only [decide_eq_true_eq, decide_eq_false_iff_not, beq_iff_eq, bne_iff_ne, beq_eq_false_iff_ne, bne_eq_false_iff_eq, Bool.not_eq_true, Bool.not_eq_false, Bool.not_eq_eq_eq_not, Bool.not_true, Bool.not_false, List.length_map, Int.not_lt, Int.not_le, ne_eq, Decidable.not_not] at hc1
    rcases hv with hv | hv
    · omega
    have hs := hv.2.2
    refine vc_skip ?_
    refine hK4 _ ?_
    refine vc_seq fun K7 hK7 => ?_
    refine vc_region ?_
    refine vo_load_varS rfl rfl rfl Try.underlying53 rfl inf53 sz53 rfl rfl ?_
    refine vo_call0 Try.func36 rfl rfl rfl rfl (toHeap_sat hs) ?_
    rintro _ _ ⟨rfl, rfl⟩
    refine ⟨rfl, rfl, .inl rfl, ?_⟩
    refine vo_stM ?_
    refine vo_call0 Try.func35 rfl rfl rfl rfl (specValidHeap_sat hs) ?_
    rintro _ _ ⟨rfl, rfl⟩
    refine ⟨rfl, rfl, .inl rfl, ?_⟩
    refine vo_stM ?_
    refine vo_assign_pv rfl rfl ?_
    refine vo_nil ?_
    refine hK7 _ ?_
    refine vc_seq fun K8 hK8 => ?_
    refine vc_region ?_
    refine vo_load_varS rfl rfl rfl Try.underlying53 rfl inf53 sz53 rfl rfl ?_
    refine vo_call0 Try.func36 rfl rfl rfl rfl (toHeap_sat hs) ?_
    rintro _ _ ⟨rfl, rfl⟩
    refine ⟨rfl, rfl, .inl rfl, ?_⟩
    refine vo_stM ?_
    refine vo_alloc Z58 rfl ?_
    refine vo_stM ?_
    refine vo_store_varS rfl rfl rfl inf58 sz58 rfl ?_
    refine vo_stM ?_
    refine vo_nil ?_
    refine hK8 _ ?_
    refine vc_seq fun K9 hK9 => ?_
    refine vc_region ?_
    refine vo_load_varS rfl rfl rfl Try.underlying58 rfl inf58 sz58 rfl rfl ?_
    refine vo_call0 Try.func37 rfl rfl rfl rfl (implValidHeap_sat hs) ?_
    rintro _ _ ⟨rfl, rfl⟩
    refine ⟨rfl, rfl, .inl rfl, ?_⟩
    refine vo_stM ?_
    refine vo_assign_pv rfl rfl ?_
    refine vo_nil ?_
    refine hK9 _ ?_
    refine vc_seq fun K10 hK10 => ?_
    refine vc_seq fun K11 hK11 => ?_
    refine vc_region ?_
    refine vo_move_pv rfl rfl ?_
    refine vo_move_pv rfl rfl ?_
    refine vo_binB rfl rfl rfl rfl Try.underlying4 ?_
    refine vo_nil ?_
    refine hK11 _ ?_
    refine vc_cond rfl (fun hc2 => ?_) (fun hc2 => ?_)
    · try simp only [decide_eq_true_eq, decide_eq_false_iff_not, beq_iff_eq, bne_iff_ne, beq_eq_false_iff_ne, bne_eq_false_iff_eq, Bool.not_eq_true, Bool.not_eq_false, Bool.not_eq_eq_eq_not, Bool.not_true, Bool.not_false, List.length_map, Int.not_lt, Int.not_le, ne_eq, Decidable.not_not] at hc2
      refine vc_seq fun K12 hK12 => ?_
      refine vc_region ?_
      refine vo_assign_pv rfl rfl ?_
      refine vo_nil ?_
      refine hK12 _ ?_
      refine vc_ret ?_
      change retQ _ _ _ _ _
      refine retQ_sel [] (srows := []) (.inr rfl) hC rfl rfl rfl rfl rfl rfl rfl ?_
      first | exact ⟨rfl, rfl⟩ | exact absurd trivial hc2 | exact absurd trivial hc3
    · try simp only [decide_eq_true_eq, decide_eq_false_iff_not, beq_iff_eq, bne_iff_ne, beq_eq_false_iff_ne, bne_eq_false_iff_eq, Bool.not_eq_true, Bool.not_eq_false, Bool.not_eq_eq_eq_not, Bool.not_true, Bool.not_false, List.length_map, Int.not_lt, Int.not_le, ne_eq, Decidable.not_not] at hc2
      refine vc_skip ?_
      refine hK10 _ ?_
      refine vc_seq fun K13 hK13 => ?_
      refine vc_seq fun K14 hK14 => ?_
      refine vc_draw (by kernel_rfl) ?_
      change VD _ _ _ 5 _ _ _
      refine vd_light 0 rfl rfl rfl (by kernel_rfl) (by kernel_rfl) (by kernel_rfl) (wnt_none rfl) (lt_load_varS rfl rfl Try.underlying58 rfl inf58 sz58 rfl rfl) ?_
      refine vd_light 1 rfl rfl rfl (by kernel_rfl) (by kernel_rfl) (by kernel_rfl) (wnt_none rfl) (lt_load_varS rfl rfl Try.underlying53 rfl inf53 sz53 rfl rfl) ?_
      refine vd_call 2 rfl (by kernel_rfl) (wnt_none rfl) Try.func36 rfl rfl rfl rfl (toHeap_sat hs) ?_
      rintro _ _ ⟨rfl, rfl⟩
      refine ⟨rfl, rfl, .inl rfl, ?_⟩
      refine vd_stM ?_
      refine vd_call 3 rfl (by kernel_rfl) (wnt_none rfl) Try.func38 rfl rfl rfl rfl (eqHeap_sat hs hs) ?_
      rintro _ _ ⟨rfl, rfl⟩
      refine ⟨rfl, rfl, .inl rfl, ?_⟩
      refine vd_stM ?_
      refine vd_light 4 rfl rfl rfl (by kernel_rfl) (by kernel_rfl) (by kernel_rfl) (wnt_none rfl) (lt_not rfl) ?_
      refine vd_nil (by kernel_rfl) ?_
      refine hK14 _ ?_
      refine vc_cond rfl (fun hc3 => ?_) (fun hc3 => ?_)
      · try simp only [decide_eq_true_eq, decide_eq_false_iff_not, beq_iff_eq, bne_iff_ne, beq_eq_false_iff_ne, bne_eq_false_iff_eq, Bool.not_eq_true, Bool.not_eq_false, Bool.not_eq_eq_eq_not, Bool.not_true, Bool.not_false, List.length_map, Int.not_lt, Int.not_le, ne_eq, Decidable.not_not] at hc3
        refine vc_seq fun K15 hK15 => ?_
        refine vc_region ?_
        refine vo_assign_pv rfl rfl ?_
        refine vo_nil ?_
        refine hK15 _ ?_
        refine vc_ret ?_
        change retQ _ _ _ _ _
        refine retQ_sel [] (srows := []) (.inr rfl) hC rfl rfl rfl rfl rfl rfl rfl ?_
        first | exact ⟨rfl, rfl⟩ | exact absurd trivial hc2 | exact absurd trivial hc3
      · try simp only [decide_eq_true_eq, decide_eq_false_iff_not, beq_iff_eq, bne_iff_ne, beq_eq_false_iff_ne, bne_eq_false_iff_eq, Bool.not_eq_true, Bool.not_eq_false, Bool.not_eq_eq_eq_not, Bool.not_true, Bool.not_false, List.length_map, Int.not_lt, Int.not_le, ne_eq, Decidable.not_not] at hc3
        refine vc_skip ?_
        refine hK13 _ ?_
        refine vc_seq fun K16 hK16 => ?_
        refine vc_region ?_
        refine vo_assign_pv rfl rfl ?_
        refine vo_nil ?_
        refine hK16 _ ?_
        refine vc_ret ?_
        change retQ _ _ _ _ _
        refine retQ_sel [] (srows := []) (.inr rfl) hC rfl rfl rfl rfl rfl rfl rfl ?_
        first | exact ⟨rfl, rfl⟩ | exact absurd trivial hc2 | exact absurd trivial hc3

end Go.Vl

namespace Go.Vl
set_option linter.unusedVariables false
set_option linter.unusedSimpArgs false
open Go.Proofs

/-- The cells that an instance needs. -/
def cst (x : InstM) : Nat := x.values.length + x.order.length + 3 * x.own.length
def csum (l : List InstM) (k : Nat) : Nat := ((l.take k).map cst).sum
theorem csum_succ {l : List InstM} {k : Nat} (h : k < l.length) : csum l (k+1) = csum l k + cst (l.getD k ⟨false, [], [], []⟩) := by
  have : l.take (k+1) = l.take k ++ [l.getD k ⟨false, [], [], []⟩] := by rw [List.take_add_one, List.getD, List.getElem?_eq_getElem h]; rfl
  unfold csum; rw [this]; simp
theorem csum_le {l : List InstM} (hs : ∀ x ∈ l, SI x) : ∀ k, k ≤ l.length → csum l k ≤ 10000000 * k
  | 0, _ => by simp [csum]
  | k+1, h => by
    rw [csum_succ (by omega)]
    have := csum_le hs k (by omega)
    have h2 := getD_all hs ⟨false, [], [], []⟩ SI_zero k
    unfold SI at h2; unfold cst; omega
def cellsM (h : HeapM) : Int := if VHeap h then ((h.keys.length + csum h.insts h.insts.length : Nat) : Int) else -1

theorem implCellsOf_sat {h : HeapM}  (hh : SH h) : SatAt Try.prog 45 [.pv false (heapP h)] [] (fun res rows => res = [i64 (cellsM h)] ∧ rows = []) := by
  have hh0 := hh
  obtain ⟨hh1, hh2, hh3⟩ := hh
  refine sat_entry_G (rs := [(2, none)]) Try.func45 rfl rfl (Nat.le_of_ble_eq_true rfl) (Nat.le_of_ble_eq_true rfl) (resTs1 trivial) fun C hC => ?_
  rw [Try.ntmps45]
  replace hC : C.nb = 0 := hC
  refine vc_seq fun K1 hK1 => ?_
  refine vc_region ?_
  refine vo_box rfl rfl ?_
  refine vo_stM ?_
  refine vo_assign_pv rfl rfl ?_
  refine vo_nil ?_
  refine hK1 _ ?_
  refine vc_seq fun K2 hK2 => ?_
  refine vc_seq fun K3 hK3 => ?_
  refine vc_region ?_
  refine vo_load_varS rfl rfl rfl Try.underlying58 rfl inf58 sz58 rfl rfl ?_
  refine vo_call0 Try.func37 rfl rfl rfl rfl (implValidHeap_sat hh0) ?_
  rintro _ _ ⟨rfl, rfl⟩
  refine ⟨rfl, rfl, .inl rfl, ?_⟩
  refine vo_stM ?_
  refine vo_not rfl rfl ?_
  refine vo_nil ?_
  refine hK3 _ ?_
  refine vc_cond rfl (fun hc1 => ?_) (fun hc1 => ?_)
  · try simp only [decide_eq_true_eq, decide_eq_false_iff_not, beq_iff_eq, bne_iff_ne, beq_eq_false_iff_ne, bne_eq_false_iff_eq, Bool.not_eq_true, Bool.not_eq_false, Bool.not_eq_eq_eq_not, Bool.not_true, Bool.not_false, List.length_map, Int.not_lt, Int.not_le, ne_eq, Decidable.not_not] at hc1
    refine vc_seq fun K4 hK4 => ?_
    refine vc_region ?_
    refine vo_assign_pv rfl rfl ?_
    refine vo_nil ?_
    refine hK4 _ ?_
    refine vc_ret ?_
    change retQ _ _ _ _ _
    refine retQ_sel [] (srows := []) (.inr rfl) hC rfl rfl rfl rfl rfl rfl rfl ?_
    refine ⟨?_, rfl⟩
    refine (congrArg (fun b => [i64 b]) (?_ : _ = _) : [i64 _] = [i64 _])
    first
      | (unfold cellsM; rw [if_neg (by assumption)])
      | (unfold cellsM; rw [if_pos (by assumption), hy, show k = h.insts.length by omega]; rfl)
  · try simp only [decide_eq_true_eq, decide_eq_false_iff_not, beq_iff_eq, bne_iff_ne, beq_eq_false_iff_ne, bne_eq_false_iff_eq, Bool.not_eq_true, Bool.not_eq_false, Bool.not_eq_eq_eq_not, Bool.not_true, Bool.not_false, List.length_map, Int.not_lt, Int.not_le, ne_eq, Decidable.not_not] at hc1
    have hl4 := hc1.2.2.1
    refine vc_skip ?_
    refine hK2 _ ?_
    refine vc_seq fun K5 hK5 => ?_
    refine vc_region ?_
    refine vo_fieldAddr_ptr rfl rfl Try.underlying58 rfl inf50 (by rw [sz50]; decide) ?_
    try simp only [Nat.zero_add]
    refine vo_load_var rfl rfl rfl Try.underlying50 rfl rfl ?_
    refine vo_len_pv rfl rfl Try.underlying50 ?_
    refine vo_assign_pv rfl rfl ?_
    refine vo_nil ?_
    refine hK5 _ ?_
    refine vc_seq fun K6 hK6 => ?_
    refine vc_seq fun K7 hK7 => ?_
    refine vc_region ?_
    refine vo_fieldAddr_ptr rfl rfl Try.underlying58 rfl inf56 (by rw [sz56]; decide) ?_
    try simp only [Nat.zero_add]
    refine vo_load_var rfl rfl rfl Try.underlying56 rfl rfl ?_
    refine vo_len_pv rfl rfl Try.underlying56 ?_
    refine vo_move_pv rfl rfl ?_
    refine vo_nil ?_
    refine hK7 _ ?_
    refine vc_block ?_
    refine vc_stM ?_
    refine vc_loopE [13, 14] [3, 15] [] _ _ (fun mz vs rs => ∃ (k : Nat) (y : Int), mz = h.insts.length - k ∧ (k ≤ h.insts.length) ∧ (y = (h.keys.length : Int) + csum h.insts k) ∧ vs = [i64 y, i64 k] ∧ rs = []) (h.insts.length) rfl rfl (le_len hC rfl) ⟨rfl, rfl, rfl⟩ rfl ⟨0, _, rfl, Nat.zero_le _, (by simp [csum]), rfl, rfl⟩ ?_
    rintro mz vs rs - - ⟨k, y, rfl, hk, hy, rfl, rfl⟩
    refine vc_stM ?_
    have hcs := csum_le hh3 k hk
    have hx := getD_all hh3 ⟨false, [], [], []⟩ SI_zero k
    unfold SI at hx
    have e1 : ((h.insts.getD k ⟨false, [], [], []⟩).values.map intP).length = (h.insts.getD k ⟨false, [], [], []⟩).values.length := List.length_map ..
    have e2 : ((h.insts.getD k ⟨false, [], [], []⟩).order.map intP).length = (h.insts.getD k ⟨false, [], [], []⟩).order.length := List.length_map ..
    have e3 : ((h.insts.getD k ⟨false, [], [], []⟩).own.map pairP).length = (h.insts.getD k ⟨false, [], [], []⟩).own.length := List.length_map ..
    refine vc_seq fun K8 hK8 => ?_
    refine vc_region ?_
    refine vo_binI rfl rfl rfl rfl trivial ?_
    refine vo_nil ?_
    refine hK8 _ ?_
    refine vc_seq fun K9 hK9 => ?_
    refine vc_cond rfl (fun hc2 => ?_) (fun hc2 => ?_)
    · try simp only [decide_eq_true_eq, decide_eq_false_iff_not, beq_iff_eq, bne_iff_ne, beq_eq_false_iff_ne, bne_eq_false_iff_eq, Bool.not_eq_true, Bool.not_eq_false, Bool.not_eq_eq_eq_not, Bool.not_true, Bool.not_false, List.length_map, Int.not_lt, Int.not_le, ne_eq, Decidable.not_not] at hc2
      refine vc_skip ?_
      refine hK9 _ ?_
      refine vc_seq fun K10 hK10 => ?_
      refine vc_block ?_
      refine vc_seq fun K11 hK11 => ?_
      refine vc_region ?_
      refine vo_index_pv (.agg [(.bool false), (.sl none 1 []), (.sl none 1 []), (.sl none 2 [])]) rfl rfl rfl E56.und inf70 sz70 sd sd ?_
      simp only [Int.toNat_natCast, Int.toNat_zero, getD_ints, getD_intss, getD_bools, getD_bytes, PV.cells, getD_ops, getD_pairs, getD_insts]
      refine vo_load_adrS rfl rfl Try.underlying70 rfl inf70 sz70 rfl ?_
      refine vo_st (by (try simp only [St.put, PV.cells, PV.scal, List.drop_succ_cons, List.drop_zero, List.take_succ_cons, List.take_zero, List.map_cons, List.map_nil, Bool.or_true, Bool.or_false, Bool.false_or, Bool.true_or, opP, pairP, instP, heapP]); exact eq_refl _) ?_
      refine vo_alloc Z70 rfl ?_
      refine vo_stM ?_
      refine vo_store_varS rfl rfl rfl inf70 sz70 rfl ?_
      refine vo_stM ?_
      refine vo_nil ?_
      refine hK11 _ ?_
      refine vc_region ?_
      refine vo_move_pv rfl rfl ?_
      refine vo_fieldAddr_ptr rfl rfl Try.underlying70 rfl inf50 (by rw [sz50]; decide) ?_
      try simp only [Nat.zero_add]
      refine vo_load_var rfl rfl rfl Try.underlying50 rfl rfl ?_
      refine vo_len_pv rfl rfl Try.underlying50 ?_
      refine vo_fieldAddr_ptr rfl rfl Try.underlying70 rfl inf50 (by rw [sz50]; decide) ?_
      try simp only [Nat.zero_add]
      refine vo_load_var rfl rfl rfl Try.underlying50 rfl rfl ?_
      refine vo_len_pv rfl rfl Try.underlying50 ?_
      refine vo_binI rfl rfl rfl rfl sd ?_
      refine vo_fieldAddr_ptr rfl rfl Try.underlying70 rfl inf32 (by rw [sz32]; decide) ?_
      try simp only [Nat.zero_add]
      refine vo_load_var rfl rfl rfl Try.underlying32 rfl rfl ?_
      refine vo_len_pv rfl rfl Try.underlying32 ?_
      refine vo_binI rfl rfl rfl rfl sd ?_
      refine vo_binI rfl rfl rfl rfl sd ?_
      refine vo_binI rfl rfl rfl rfl sd ?_
      refine vo_assign_pv rfl rfl ?_
      refine vo_nil ?_
      refine hK10 _ ?_
      refine vc_region ?_
      refine vo_binI rfl rfl rfl rfl sd ?_
      refine vo_move_pv rfl rfl ?_
      refine vo_nil ?_
      change againE _ _ _ _ _ _ _ _ _ _
      refine againE_mk rfl rfl rfl rfl rfl rfl ⟨_, ?_, k + 1, _, rfl, ?_, ?_, rfl, rfl⟩
      · omega
      · omega
      · rw [csum_succ (by omega)]; unfold cst; omega
    · try simp only [decide_eq_true_eq, decide_eq_false_iff_not, beq_iff_eq, bne_iff_ne, beq_eq_false_iff_ne, bne_eq_false_iff_eq, Bool.not_eq_true, Bool.not_eq_false, Bool.not_eq_eq_eq_not, Bool.not_true, Bool.not_false, List.length_map, Int.not_lt, Int.not_le, ne_eq, Decidable.not_not] at hc2
      refine vc_exit ?_
      refine hK6 _ ?_
      refine vc_seq fun K12 hK12 => ?_
      refine vc_region ?_
      refine vo_move_pv rfl rfl ?_
      refine vo_assign_pv rfl rfl ?_
      refine vo_nil ?_
      refine hK12 _ ?_
      refine vc_ret ?_
      change retQ _ _ _ _ _
      refine retQ_sel [] (srows := []) (.inr rfl) hC rfl rfl rfl rfl rfl rfl rfl ?_
      refine ⟨?_, rfl⟩
      refine (congrArg (fun b => [i64 b]) (?_ : _ = _) : [i64 _] = [i64 _])
      first
        | (unfold cellsM; rw [if_neg (by assumption)])
        | (unfold cellsM; rw [if_pos (by assumption), hy, show k = h.insts.length by omega]; rfl)


theorem specCellsOf_sat {h : HeapM}  (hh : SH h) : SatAt Try.prog 44 [.pv false (heapP h)] [] (fun res rows => res = [i64 (cellsM h)] ∧ rows = []) := by
  have hh0 := hh
  obtain ⟨hh1, hh2, hh3⟩ := hh
  refine sat_entry_G (rs := [(2, none)]) Try.func44 rfl rfl (Nat.le_of_ble_eq_true rfl) (Nat.le_of_ble_eq_true rfl) (resTs1 trivial) fun C hC => ?_
  rw [Try.ntmps44]
  replace hC : C.nb = 0 := hC
  refine vc_seq fun K1 hK1 => ?_
  refine vc_region ?_
  refine vo_box rfl rfl ?_
  refine vo_stM ?_
  refine vo_assign_pv rfl rfl ?_
  refine vo_nil ?_
  refine hK1 _ ?_
  refine vc_seq fun K2 hK2 => ?_
  refine vc_seq fun K3 hK3 => ?_
  refine vc_region ?_
  refine vo_load_varS rfl rfl rfl Try.underlying58 rfl inf58 sz58 rfl rfl ?_
  refine vo_call0 Try.func73 rfl rfl rfl rfl (specValidHeap0_sat hh0) ?_
  rintro _ _ ⟨rfl, rfl⟩
  refine ⟨rfl, rfl, .inl rfl, ?_⟩
  refine vo_stM ?_
  refine vo_not rfl rfl ?_
  refine vo_nil ?_
  refine hK3 _ ?_
  refine vc_cond rfl (fun hc1 => ?_) (fun hc1 => ?_)
  · try simp only [decide_eq_true_eq, decide_eq_false_iff_not, beq_iff_eq, bne_iff_ne, beq_eq_false_iff_ne, bne_eq_false_iff_eq, Bool.not_eq_true, Bool.not_eq_false, Bool.not_eq_eq_eq_not, Bool.not_true, Bool.not_false, List.length_map, Int.not_lt, Int.not_le, ne_eq, Decidable.not_not] at hc1
    refine vc_seq fun K4 hK4 => ?_
    refine vc_region ?_
    refine vo_assign_pv rfl rfl ?_
    refine vo_nil ?_
    refine hK4 _ ?_
    refine vc_ret ?_
    change retQ _ _ _ _ _
    refine retQ_sel [] (srows := []) (.inr rfl) hC rfl rfl rfl rfl rfl rfl rfl ?_
    refine ⟨?_, rfl⟩
    refine (congrArg (fun b => [i64 b]) (?_ : _ = _) : [i64 _] = [i64 _])
    first
      | (unfold cellsM; rw [if_neg (by assumption)])
      | (unfold cellsM; rw [if_pos (by assumption), hy, show k = h.insts.length by omega]; rfl)
  · try simp only [decide_eq_true_eq, decide_eq_false_iff_not, beq_iff_eq, bne_iff_ne, beq_eq_false_iff_ne, bne_eq_false_iff_eq, Bool.not_eq_true, Bool.not_eq_false, Bool.not_eq_eq_eq_not, Bool.not_true, Bool.not_false, List.length_map, Int.not_lt, Int.not_le, ne_eq, Decidable.not_not] at hc1
    have hl4 := hc1.2.2.1
    refine vc_skip ?_
    refine hK2 _ ?_
    refine vc_seq fun K5 hK5 => ?_
    refine vc_region ?_
    refine vo_fieldAddr_ptr rfl rfl Try.underlying58 rfl inf50 (by rw [sz50]; decide) ?_
    try simp only [Nat.zero_add]
    refine vo_load_var rfl rfl rfl Try.underlying50 rfl rfl ?_
    refine vo_len_pv rfl rfl Try.underlying50 ?_
    refine vo_assign_pv rfl rfl ?_
    refine vo_nil ?_
    refine hK5 _ ?_
    refine vc_seq fun K6 hK6 => ?_
    refine vc_seq fun K7 hK7 => ?_
    refine vc_region ?_
    refine vo_assign_pv rfl rfl ?_
    refine vo_nil ?_
    refine hK7 _ ?_
    refine vc_block ?_
    refine vc_stM ?_
    refine vc_loopE [1] [3, 4] [] _ _ (fun mz vs rs => ∃ (k : Nat) (y : Int), mz = h.insts.length - k ∧ (k ≤ h.insts.length) ∧ (y = (h.keys.length : Int) + csum h.insts k) ∧ vs = [i64 y, i64 k] ∧ rs = []) (h.insts.length) rfl rfl (le_len hC rfl) ⟨rfl, rfl, rfl⟩ rfl ⟨0, _, rfl, Nat.zero_le _, (by simp [csum]), rfl, rfl⟩ ?_
    rintro mz vs rs - - ⟨k, y, rfl, hk, hy, rfl, rfl⟩
    refine vc_stM ?_
    have hcs := csum_le hh3 k hk
    have hx := getD_all hh3 ⟨false, [], [], []⟩ SI_zero k
    unfold SI at hx
    have e1 : ((h.insts.getD k ⟨false, [], [], []⟩).values.map intP).length = (h.insts.getD k ⟨false, [], [], []⟩).values.length := List.length_map ..
    have e2 : ((h.insts.getD k ⟨false, [], [], []⟩).order.map intP).length = (h.insts.getD k ⟨false, [], [], []⟩).order.length := List.length_map ..
    have e3 : ((h.insts.getD k ⟨false, [], [], []⟩).own.map pairP).length = (h.insts.getD k ⟨false, [], [], []⟩).own.length := List.length_map ..
    refine vc_seq fun K8 hK8 => ?_
    refine vc_seq fun K9 hK9 => ?_
    refine vc_region ?_
    refine vo_move_pv rfl rfl ?_
    refine vo_fieldAddr_ptr rfl rfl Try.underlying58 rfl inf56 (by rw [sz56]; decide) ?_
    try simp only [Nat.zero_add]
    refine vo_load_var rfl rfl rfl Try.underlying56 rfl rfl ?_
    refine vo_len_pv rfl rfl Try.underlying56 ?_
    refine vo_binI rfl rfl rfl rfl trivial ?_
    refine vo_nil ?_
    refine hK9 _ ?_
    refine vc_cond rfl (fun hc2 => ?_) (fun hc2 => ?_)
    · try simp only [decide_eq_true_eq, decide_eq_false_iff_not, beq_iff_eq, bne_iff_ne, beq_eq_false_iff_ne, bne_eq_false_iff_eq, Bool.not_eq_true, Bool.not_eq_false, Bool.not_eq_eq_eq_not, Bool.not_true, Bool.not_false, List.length_map, Int.not_lt, Int.not_le, ne_eq, Decidable.not_not] at hc2
      refine vc_skip ?_
      refine hK8 _ ?_
      refine vc_seq fun K10 hK10 => ?_
      refine vc_block ?_
      refine vc_draw (by kernel_rfl) ?_
      change VD _ _ _ 27 _ _ _
      refine vd_light 0 rfl rfl rfl (by kernel_rfl) (by kernel_rfl) (by kernel_rfl) (wnt_none rfl) (lt_move_pv rfl) ?_
      refine vd_light 1 rfl rfl rfl (by kernel_rfl) (by kernel_rfl) (by kernel_rfl) (wnt_none rfl) (lt_fieldAddr_ptr rfl Try.underlying58 rfl inf56 (by rw [sz56]; decide)) ?_
      try simp only [Nat.zero_add]
      refine vd_light 2 rfl rfl rfl (by kernel_rfl) (by kernel_rfl) (by kernel_rfl) (wnt_none rfl) (lt_load_var rfl rfl Try.underlying56 rfl rfl) ?_
      refine vd_light 3 rfl rfl rfl (by kernel_rfl) (by kernel_rfl) (by kernel_rfl) (wnt_none rfl) (lt_move_pv rfl) ?_
      refine vd_light 4 rfl rfl rfl (by kernel_rfl) (by kernel_rfl) (by kernel_rfl) (wnt_none rfl) (lt_index_pv (.agg [(.bool false), (.sl none 1 []), (.sl none 1 []), (.sl none 2 [])]) rfl rfl E56.und inf70 sz70 sd sd) ?_
      simp only [Int.toNat_natCast, Int.toNat_zero, getD_ints, getD_intss, getD_bools, getD_bytes, PV.cells, getD_ops, getD_pairs, getD_insts]
      refine vd_light 5 rfl rfl rfl (by kernel_rfl) (by kernel_rfl) (by kernel_rfl) (wnt_none rfl) (lt_fieldAddr_adr rfl Try.underlying70 rfl inf50 (by rw [sz50]; decide)) ?_
      refine vd_light 6 rfl rfl rfl (by kernel_rfl) (by kernel_rfl) (by kernel_rfl) (wnt_none rfl) (lt_load_adr rfl Try.underlying50 rfl) ?_
      refine vd_light 7 rfl rfl rfl (by kernel_rfl) (by kernel_rfl) (by kernel_rfl) (wnt_none rfl) (lt_len_pv rfl Try.underlying50) ?_
      refine vd_light 8 rfl rfl rfl (by kernel_rfl) (by kernel_rfl) (by kernel_rfl) (wnt_none rfl) (lt_binI rfl rfl rfl sd) ?_
      refine vd_light 9 rfl rfl rfl (by kernel_rfl) (by kernel_rfl) (by kernel_rfl) (wnt_none rfl) (lt_fieldAddr_ptr rfl Try.underlying58 rfl inf56 (by rw [sz56]; decide)) ?_
      try simp only [Nat.zero_add]
      refine vd_light 10 rfl rfl rfl (by kernel_rfl) (by kernel_rfl) (by kernel_rfl) (wnt_none rfl) (lt_load_var rfl rfl Try.underlying56 rfl rfl) ?_
      refine vd_light 11 rfl rfl rfl (by kernel_rfl) (by kernel_rfl) (by kernel_rfl) (wnt_none rfl) (lt_move_pv rfl) ?_
      refine vd_light 12 rfl rfl rfl (by kernel_rfl) (by kernel_rfl) (by kernel_rfl) (wnt_none rfl) (lt_index_pv (.agg [(.bool false), (.sl none 1 []), (.sl none 1 []), (.sl none 2 [])]) rfl rfl E56.und inf70 sz70 sd sd) ?_
      simp only [Int.toNat_natCast, Int.toNat_zero, getD_ints, getD_intss, getD_bools, getD_bytes, PV.cells, getD_ops, getD_pairs, getD_insts]
      refine vd_light 13 rfl rfl rfl (by kernel_rfl) (by kernel_rfl) (by kernel_rfl) (wnt_none rfl) (lt_fieldAddr_adr rfl Try.underlying70 rfl inf50 (by rw [sz50]; decide)) ?_
      refine vd_light 14 rfl rfl rfl (by kernel_rfl) (by kernel_rfl) (by kernel_rfl) (wnt_none rfl) (lt_load_adr rfl Try.underlying50 rfl) ?_
      refine vd_light 15 rfl rfl rfl (by kernel_rfl) (by kernel_rfl) (by kernel_rfl) (wnt_none rfl) (lt_len_pv rfl Try.underlying50) ?_
      refine vd_light 16 rfl rfl rfl (by kernel_rfl) (by kernel_rfl) (by kernel_rfl) (wnt_none rfl) (lt_binI rfl rfl rfl sd) ?_
      refine vd_light 17 rfl rfl rfl (by kernel_rfl) (by kernel_rfl) (by kernel_rfl) (wnt_none rfl) (lt_fieldAddr_ptr rfl Try.underlying58 rfl inf56 (by rw [sz56]; decide)) ?_
      try simp only [Nat.zero_add]
      refine vd_light 18 rfl rfl rfl (by kernel_rfl) (by kernel_rfl) (by kernel_rfl) (wnt_none rfl) (lt_load_var rfl rfl Try.underlying56 rfl rfl) ?_
      refine vd_light 19 rfl rfl rfl (by kernel_rfl) (by kernel_rfl) (by kernel_rfl) (wnt_none rfl) (lt_move_pv rfl) ?_
      refine vd_light 20 rfl rfl rfl (by kernel_rfl) (by kernel_rfl) (by kernel_rfl) (wnt_none rfl) (lt_index_pv (.agg [(.bool false), (.sl none 1 []), (.sl none 1 []), (.sl none 2 [])]) rfl rfl E56.und inf70 sz70 sd sd) ?_
      simp only [Int.toNat_natCast, Int.toNat_zero, getD_ints, getD_intss, getD_bools, getD_bytes, PV.cells, getD_ops, getD_pairs, getD_insts]
      refine vd_light 21 rfl rfl rfl (by kernel_rfl) (by kernel_rfl) (by kernel_rfl) (wnt_none rfl) (lt_fieldAddr_adr rfl Try.underlying70 rfl inf32 (by rw [sz32]; decide)) ?_
      refine vd_light 22 rfl rfl rfl (by kernel_rfl) (by kernel_rfl) (by kernel_rfl) (wnt_none rfl) (lt_load_adr rfl Try.underlying32 rfl) ?_
      refine vd_light 23 rfl rfl rfl (by kernel_rfl) (by kernel_rfl) (by kernel_rfl) (wnt_none rfl) (lt_len_pv rfl Try.underlying32) ?_
      refine vd_light 24 rfl rfl rfl (by kernel_rfl) (by kernel_rfl) (by kernel_rfl) (wnt_none rfl) (lt_binI rfl rfl rfl sd) ?_
      refine vd_light 25 rfl rfl rfl (by kernel_rfl) (by kernel_rfl) (by kernel_rfl) (wnt_none rfl) (lt_binI rfl rfl rfl sd) ?_
      refine vd_light 26 rfl rfl rfl (by kernel_rfl) (by kernel_rfl) (by kernel_rfl) (wnt_none rfl) (lt_assign_pv rfl) ?_
      refine vd_nil (by kernel_rfl) ?_
      refine hK10 _ ?_
      refine vc_region ?_
      refine vo_move_pv rfl rfl ?_
      refine vo_binI rfl rfl rfl rfl sd ?_
      refine vo_assign_pv rfl rfl ?_
      refine vo_nil ?_
      change againE _ _ _ _ _ _ _ _ _ _
      refine againE_mk rfl rfl rfl rfl rfl rfl ⟨_, ?_, k + 1, _, rfl, ?_, ?_, rfl, rfl⟩
      · omega
      · omega
      · rw [csum_succ (by omega)]; unfold cst; omega
    · try simp only [decide_eq_true_eq, decide_eq_false_iff_not, beq_iff_eq, bne_iff_ne, beq_eq_false_iff_ne, bne_eq_false_iff_eq, Bool.not_eq_true, Bool.not_eq_false, Bool.not_eq_eq_eq_not, Bool.not_true, Bool.not_false, List.length_map, Int.not_lt, Int.not_le, ne_eq, Decidable.not_not] at hc2
      refine vc_exit ?_
      refine hK6 _ ?_
      refine vc_seq fun K11 hK11 => ?_
      refine vc_region ?_
      refine vo_move_pv rfl rfl ?_
      refine vo_assign_pv rfl rfl ?_
      refine vo_nil ?_
      refine hK11 _ ?_
      refine vc_ret ?_
      change retQ _ _ _ _ _
      refine retQ_sel [] (srows := []) (.inr rfl) hC rfl rfl rfl rfl rfl rfl rfl ?_
      refine ⟨?_, rfl⟩
      refine (congrArg (fun b => [i64 b]) (?_ : _ = _) : [i64 _] = [i64 _])
      first
        | (unfold cellsM; rw [if_neg (by assumption)])
        | (unfold cellsM; rw [if_pos (by assumption), hy, show k = h.insts.length by omega]; rfl)


theorem FnExactCellsOf_sat {a : HeapM}  (ha : GH63 a) : SatAt Try.prog 12 [.pv false (heapP a)] [] (fun res rows => res = [bo true] ∧ rows = []) := by
  refine sat_entry_G (rs := [(2, none)]) Try.func12 rfl rfl (Nat.le_of_ble_eq_true rfl) (Nat.le_of_ble_eq_true rfl) (resTs1 trivial) fun C hC => ?_
  rw [Try.ntmps12]
  replace hC : C.nb = 0 := hC
  refine vc_seq fun K1 hK1 => ?_
  refine vc_region ?_
  refine vo_box rfl rfl ?_
  refine vo_stM ?_
  refine vo_assign_pv rfl rfl ?_
  refine vo_nil ?_
  refine hK1 _ ?_
  refine vc_seq fun K2 hK2 => ?_
  refine vc_region ?_
  refine vo_assign_pv rfl rfl ?_
  refine vo_nil ?_
  refine hK2 _ ?_
  refine vc_seq fun K3 hK3 => ?_
  refine vc_region ?_
  refine vo_load_varS rfl rfl rfl Try.underlying53 rfl inf53 sz53 rfl rfl ?_
  refine vo_move_pv rfl rfl ?_
  refine vo_call0 Try.func34 rfl rfl rfl rfl (szHeap_sat ha (by omega) (by omega)) ?_
  rintro _ _ ⟨v, hv, rfl, rfl⟩
  refine ⟨rfl, rfl, .inl rfl, ?_⟩
  refine vo_stM ?_
  refine vo_assign_pv rfl rfl ?_
  refine vo_nil ?_
  refine hK3 _ ?_
  refine vc_seq fun K4 hK4 => ?_
  refine vc_seq fun K5 hK5 => ?_
  refine vc_region ?_
  refine vo_move_pv rfl rfl ?_
  refine vo_binI rfl rfl rfl rfl trivial ?_
  refine vo_nil ?_
  refine hK5 _ ?_
  refine vc_cond rfl (fun hc1 => ?_) (fun hc1 => ?_)
  · try simp only [decide_eq_true_eq, decide_eq_false_iff_not, beq_iff_eq, bne_iff_ne, beq_eq_false_iff_ne, bne_eq_false_iff_eq, Bool.not_eq_true, Bool.not_eq_false, Bool.not_eq_eq_eq_not, Bool.not_true, Bool.not_false, List.length_map, Int.not_lt, Int.not_le, ne_eq, Decidable.not_not] at hc1
    refine vc_seq fun K6 hK6 => ?_
    refine vc_region ?_
    refine vo_assign_pv rfl rfl ?_
    refine vo_nil ?_
    refine hK6 _ ?_
    refine vc_ret ?_
    change retQ _ _ _ _ _
    refine retQ_sel [] (srows := []) (.inr rfl) hC rfl rfl rfl rfl rfl rfl rfl ?_
    exact ⟨rfl, rfl⟩
  · try simp only [decide_eq_true_eq, decide_eq_false_iff_not, beq_iff_eq, bne_iff_ne, beq_eq_false_iff_ne, bne_eq_false_iff_eq, Bool.not_eq_true, Bool.not_eq_false, Bool.not_eq_eq_eq_not, Bool.not_true, Bool.not_false, List.length_map, Int.not_lt, Int.not_le, ne_eq, Decidable.not_not] at hc1
    rcases hv with hv | hv
    · omega
    have hs := hv.2.2
    refine vc_skip ?_
    refine hK4 _ ?_
    refine vc_seq fun K7 hK7 => ?_
    refine vc_region ?_
    refine vo_load_varS rfl rfl rfl Try.underlying53 rfl inf53 sz53 rfl rfl ?_
    refine vo_call0 Try.func36 rfl rfl rfl rfl (toHeap_sat hs) ?_
    rintro _ _ ⟨rfl, rfl⟩
    refine ⟨rfl, rfl, .inl rfl, ?_⟩
    refine vo_stM ?_
    refine vo_call0 Try.func44 rfl rfl rfl rfl (specCellsOf_sat hs) ?_
    rintro _ _ ⟨rfl, rfl⟩
    refine ⟨rfl, rfl, .inl rfl, ?_⟩
    refine vo_stM ?_
    refine vo_assign_pv rfl rfl ?_
    refine vo_nil ?_
    refine hK7 _ ?_
    refine vc_seq fun K8 hK8 => ?_
    refine vc_region ?_
    refine vo_load_varS rfl rfl rfl Try.underlying53 rfl inf53 sz53 rfl rfl ?_
    refine vo_call0 Try.func36 rfl rfl rfl rfl (toHeap_sat hs) ?_
    rintro _ _ ⟨rfl, rfl⟩
    refine ⟨rfl, rfl, .inl rfl, ?_⟩
    refine vo_stM ?_
    refine vo_alloc Z58 rfl ?_
    refine vo_stM ?_
    refine vo_store_varS rfl rfl rfl inf58 sz58 rfl ?_
    refine vo_stM ?_
    refine vo_nil ?_
    refine hK8 _ ?_
    refine vc_seq fun K9 hK9 => ?_
    refine vc_region ?_
    refine vo_load_varS rfl rfl rfl Try.underlying58 rfl inf58 sz58 rfl rfl ?_
    refine vo_call0 Try.func45 rfl rfl rfl rfl (implCellsOf_sat hs) ?_
    rintro _ _ ⟨rfl, rfl⟩
    refine ⟨rfl, rfl, .inl rfl, ?_⟩
    refine vo_stM ?_
    refine vo_assign_pv rfl rfl ?_
    refine vo_nil ?_
    refine hK9 _ ?_
    refine vc_seq fun K10 hK10 => ?_
    refine vc_seq fun K11 hK11 => ?_
    refine vc_region ?_
    refine vo_move_pv rfl rfl ?_
    refine vo_move_pv rfl rfl ?_
    refine vo_binI rfl rfl rfl rfl trivial ?_
    refine vo_nil ?_
    refine hK11 _ ?_
    refine vc_cond rfl (fun hc2 => ?_) (fun hc2 => ?_)
    · try simp only [decide_eq_true_eq, decide_eq_false_iff_not, beq_iff_eq, bne_iff_ne, beq_eq_false_iff_ne, bne_eq_false_iff_eq, Bool.not_eq_true, Bool.not_eq_false, Bool.not_eq_eq_eq_not, Bool.not_true, Bool.not_false, List.length_map, Int.not_lt, Int.not_le, ne_eq, Decidable.not_not] at hc2
      refine vc_seq fun K12 hK12 => ?_
      refine vc_region ?_
      refine vo_assign_pv rfl rfl ?_
      refine vo_nil ?_
      refine hK12 _ ?_
      refine vc_ret ?_
      change retQ _ _ _ _ _
      refine retQ_sel [] (srows := []) (.inr rfl) hC rfl rfl rfl rfl rfl rfl rfl ?_
      first | exact ⟨rfl, rfl⟩ | exact absurd trivial hc2 | exact absurd trivial hc3 | exact absurd rfl hc2
    · try simp only [decide_eq_true_eq, decide_eq_false_iff_not, beq_iff_eq, bne_iff_ne, beq_eq_false_iff_ne, bne_eq_false_iff_eq, Bool.not_eq_true, Bool.not_eq_false, Bool.not_eq_eq_eq_not, Bool.not_true, Bool.not_false, List.length_map, Int.not_lt, Int.not_le, ne_eq, Decidable.not_not] at hc2
      refine vc_skip ?_
      refine hK10 _ ?_
      refine vc_seq fun K13 hK13 => ?_
      refine vc_seq fun K14 hK14 => ?_
      refine vc_draw (by kernel_rfl) ?_
      change VD _ _ _ 5 _ _ _
      refine vd_light 0 rfl rfl rfl (by kernel_rfl) (by kernel_rfl) (by kernel_rfl) (wnt_none rfl) (lt_load_varS rfl rfl Try.underlying58 rfl inf58 sz58 rfl rfl) ?_
      refine vd_light 1 rfl rfl rfl (by kernel_rfl) (by kernel_rfl) (by kernel_rfl) (wnt_none rfl) (lt_load_varS rfl rfl Try.underlying53 rfl inf53 sz53 rfl rfl) ?_
      refine vd_call 2 rfl (by kernel_rfl) (wnt_none rfl) Try.func36 rfl rfl rfl rfl (toHeap_sat hs) ?_
      rintro _ _ ⟨rfl, rfl⟩
      refine ⟨rfl, rfl, .inl rfl, ?_⟩
      refine vd_stM ?_
      refine vd_call 3 rfl (by kernel_rfl) (wnt_none rfl) Try.func38 rfl rfl rfl rfl (eqHeap_sat hs hs) ?_
      rintro _ _ ⟨rfl, rfl⟩
      refine ⟨rfl, rfl, .inl rfl, ?_⟩
      refine vd_stM ?_
      refine vd_light 4 rfl rfl rfl (by kernel_rfl) (by kernel_rfl) (by kernel_rfl) (wnt_none rfl) (lt_not rfl) ?_
      refine vd_nil (by kernel_rfl) ?_
      refine hK14 _ ?_
      refine vc_cond rfl (fun hc3 => ?_) (fun hc3 => ?_)
      · try simp only [decide_eq_true_eq, decide_eq_false_iff_not, beq_iff_eq, bne_iff_ne, beq_eq_false_iff_ne, bne_eq_false_iff_eq, Bool.not_eq_true, Bool.not_eq_false, Bool.not_eq_eq_eq_not, Bool.not_true, Bool.not_false, List.length_map, Int.not_lt, Int.not_le, ne_eq, Decidable.not_not] at hc3
        refine vc_seq fun K15 hK15 => ?_
        refine vc_region ?_
        refine vo_assign_pv rfl rfl ?_
        refine vo_nil ?_
        refine hK15 _ ?_
        refine vc_ret ?_
        change retQ _ _ _ _ _
        refine retQ_sel [] (srows := []) (.inr rfl) hC rfl rfl rfl rfl rfl rfl rfl ?_
        first | exact ⟨rfl, rfl⟩ | exact absurd trivial hc2 | exact absurd trivial hc3 | exact absurd rfl hc2
      · try simp only [decide_eq_true_eq, decide_eq_false_iff_not, beq_iff_eq, bne_iff_ne, beq_eq_false_iff_ne, bne_eq_false_iff_eq, Bool.not_eq_true, Bool.not_eq_false, Bool.not_eq_eq_eq_not, Bool.not_true, Bool.not_false, List.length_map, Int.not_lt, Int.not_le, ne_eq, Decidable.not_not] at hc3
        refine vc_skip ?_
        refine hK13 _ ?_
        refine vc_seq fun K16 hK16 => ?_
        refine vc_region ?_
        refine vo_assign_pv rfl rfl ?_
        refine vo_nil ?_
        refine hK16 _ ?_
        refine vc_ret ?_
        change retQ _ _ _ _ _
        refine retQ_sel [] (srows := []) (.inr rfl) hC rfl rfl rfl rfl rfl rfl rfl ?_
        first | exact ⟨rfl, rfl⟩ | exact absurd trivial hc2 | exact absurd trivial hc3 | exact absurd rfl hc2

end Go.Vl

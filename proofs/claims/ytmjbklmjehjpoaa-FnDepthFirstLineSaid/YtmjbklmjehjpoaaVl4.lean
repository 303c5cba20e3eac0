/- Part 4 of the texts that the proof of FnDepthFirstLine is built on. -/
import Derived.Test.YtmjbklmjehjpoaaVl3
namespace Go.Vl
set_option linter.unusedVariables false
set_option linter.unusedSimpArgs false
open Go.Proofs

theorem implOrderOf_sat {nl0 : Option Bool} {bases : List (List Int)} {c : Int} (hbases : bases.length < 1000000000) (hlbases : ∀ l ∈ bases, l.length < 1000000000) : SatAt Try.prog 43 [.pv false (.sl nl0 1 (bases.map ints)), i64 c] [] (fun res rows => ∃ (Rr : TypeId) (nl : Option Bool), res = [.ref 0, bo (decide (orOK bases c))] ∧ rows = [Row.own Rr 1 nl true ((orR bases c).map intP)]) := by
  refine sat_entry_g (ts := [4, 5]) Try.func43 rfl rfl (by decide) (Nat.le_of_ble_eq_true rfl) fun C hC => ?_
  rw [Try.ntmps43]
  replace hC : C.nb = 0 := hC
  refine vc_seq fun K1 hK1 => ?_
  refine vc_region ?_
  refine vo_assign_pv rfl rfl ?_
  refine vo_assign_pv rfl rfl ?_
  refine vo_nil ?_
  refine hK1 _ ?_
  refine vc_seq fun K2 hK2 => ?_
  refine vc_seq fun K3 hK3 => ?_
  refine vc_region ?_
  refine vo_move_pv rfl rfl ?_
  refine vo_move_pv rfl rfl ?_
  refine vo_call0 Try.func79 rfl rfl rfl rfl (hasClass_sat hbases hlbases) ?_
  rintro _ _ ⟨rfl, rfl⟩
  refine ⟨rfl, rfl, .inl rfl, ?_⟩
  refine vo_not rfl rfl ?_
  refine vo_nil ?_
  refine hK3 _ ?_
  refine vc_cond rfl (fun hc1 => ?_) (fun hc1 => ?_)
  · try simp only [decide_eq_true_eq, decide_eq_false_iff_not, beq_iff_eq, bne_iff_ne, beq_eq_false_iff_ne, bne_eq_false_iff_eq, Bool.not_eq_true, Bool.not_eq_false, Bool.not_eq_eq_eq_not, Bool.not_true, Bool.not_false, List.length_map, Int.not_lt, Int.not_le, ne_eq, Decidable.not_not] at hc1
    refine vc_seq fun K4 hK4 => ?_
    refine vc_region ?_
    refine vo_assign_pv rfl rfl ?_
    refine vo_assign_pv rfl rfl ?_
    refine vo_nil ?_
    refine hK4 _ ?_
    refine vc_own_nil 4 E25 rfl ?_
    refine vc_ret ?_
    change retG _ _ _ _ _
    refine retG_one 0 hC rfl rfl rfl rfl rfl ?_
    exact ⟨_, _, congrArg (fun b => [SV.ref 0, bo b]) (bF fun h => hc1 h.1), row1_eqF (by rw [orR_no fun h => hc1 h.1]; rfl)⟩
  · try simp only [decide_eq_true_eq, decide_eq_false_iff_not, beq_iff_eq, bne_iff_ne, beq_eq_false_iff_ne, bne_eq_false_iff_eq, Bool.not_eq_true, Bool.not_eq_false, Bool.not_eq_eq_eq_not, Bool.not_true, Bool.not_false, List.length_map, Int.not_lt, Int.not_le, ne_eq, Decidable.not_not] at hc1
    obtain ⟨hv, h0, h1⟩ := hc1
    obtain ⟨n, rfl⟩ := Int.eq_ofNat_of_zero_le h0
    have hn : n < bases.length := by omega
    have hTl := ordT_len bases (n+1)
    refine vc_skip ?_
    refine hK2 _ ?_
    refine vc_seq fun K5 hK5 => ?_
    refine vc_region ?_
    refine vo_move_pv rfl rfl ?_
    refine vo_move_pv rfl rfl ?_
    refine vo_call [] Try.func82 rfl rfl rfl rfl rfl rfl rfl (ordersUpTo_sat hbases hlbases hv hn) ?_
    rintro _ _ ⟨rfl, rfl⟩
    refine ⟨Nat.le_of_ble_eq_true rfl, ⟨rfl, rfl, rfl⟩, .inl rfl, ?_⟩
    refine vo_stN ?_
    refine vo_move_pv rfl rfl ?_
    refine vo_index_ref rfl rfl rfl rfl E23.und inf25 sz25 sd sd ?_
    try simp only [Int.toNat_natCast]
    refine vo_load_sub rfl rfl rfl Try.underlying25 rfl sd fun u1 => ?_
    refine vo_stN ?_
    try simp only [Int.toNat_natCast]
    refine vo_take 0 16 (by omega) rfl rfl (get_ord (by rw [ordT_len]; omega)) (plain_ints _) fun Rt => ?_
    refine vo_stN ?_
    refine vo_assign_ref rfl rfl ?_
    refine vo_nil ?_
    refine hK5 _ ?_
    refine vc_seq fun K6 hK6 => ?_
    refine vc_region ?_
    refine vo_move_ref rfl rfl ?_
    refine vo_move_ref rfl rfl ?_
    refine vo_neqnil_ref rfl rfl rfl Try.underlying25 fun bn1 hn1 hnt1 hnf1 => ?_
    refine vo_assign_ref rfl rfl ?_
    refine vo_assign_pv rfl rfl ?_
    refine vo_nil ?_
    refine hK6 _ ?_
    refine vc_ret ?_
    change retG _ _ _ _ _
    refine retG_one 1 hC rfl rfl rfl rfl rfl ?_
    have hg := ordT_get bases (n+1) n (by omega)
    rw [hg] at hn1 hnt1 hnf1 ⊢
    have hb := bEmp hnt1 hnf1
    by_cases he : ordM bases n = []
    · have hno : ¬ orOK bases n := fun h => h.2 he
      refine ⟨_, _, congrArg (fun b => [SV.ref 0, bo b]) (show (!bn1) = _ by rw [hb, he]; exact bF hno), row1_eqF (by rw [orR_no hno, he])⟩
    · have hok : orOK bases n := ⟨⟨hv, h0, h1⟩, he⟩
      refine ⟨_, _, congrArg (fun b => [SV.ref 0, bo b]) (show (!bn1) = _ by rw [hb, isE he]; exact bT hok), row1_eqF (by rw [orR_yes hok]; rfl)⟩

end Go.Vl

namespace Go.Vl
set_option linter.unusedVariables false
set_option linter.unusedSimpArgs false
open Go.Proofs
def allOK (b : List (List Int)) : Prop := VB b ∧ ∀ i, i < b.length → ordM b i ≠ []
instance {b : List (List Int)} : Decidable (allOK b) := by unfold allOK; infer_instance
theorem ordersUpTo_satI {nl0 : Option Bool} {bases : List (List Int)} {c : Int} (hbases : bases.length < 1000000000) (hlbases : ∀ l ∈ bases, l.length < 1000000000) (hv : VB bases) (h0 : 0 ≤ c) (h1 : c < bases.length) : SatAt Try.prog 82 [.pv false (.sl nl0 1 (bases.map ints)), i64 c] [] (fun res rows => res = [.ref 0] ∧ rows = [Row.tree 25 1 (some false) none ((ordT bases (c.toNat + 1)).map ordP)]) := by
  obtain ⟨n, rfl⟩ := Int.eq_ofNat_of_zero_le h0
  exact ordersUpTo_sat hbases hlbases hv (by omega)


theorem allOrders_sat {nl0 : Option Bool} {bases : List (List Int)} (hbases : bases.length < 1000000000) (hlbases : ∀ l ∈ bases, l.length < 1000000000) (hv : VB bases) : SatAt Try.prog 92 [.pv false (.sl nl0 1 (bases.map ints))] [] (fun res rows => res = [bo (decide (∀ i, i < bases.length → ordM bases i ≠ []))] ∧ rows = []) := by
  refine sat_entry (ts := [2]) Try.func92 rfl rfl (by decide) (Nat.le_of_ble_eq_true rfl) fun C hC => ?_
  rw [Try.ntmps92]
  replace hC : C.nb = 0 := hC
  refine vc_seq fun K1 hK1 => ?_
  refine vc_region ?_
  refine vo_assign_pv rfl rfl ?_
  refine vo_nil ?_
  refine hK1 _ ?_
  refine vc_seq fun K2 hK2 => ?_
  refine vc_seq fun K3 hK3 => ?_
  refine vc_region ?_
  refine vo_assign_pv rfl rfl ?_
  refine vo_nil ?_
  refine hK3 _ ?_
  refine vc_block ?_
  refine vc_stN ?_
  refine vc_loopF [0] [3] [.pv false (.sl nl0 1 (bases.map ints))] _ (fun mz vs => ∃ (k : Nat), mz = bases.length - k ∧ (k ≤ bases.length) ∧ (∀ i, i < k → ordM bases i ≠ []) ∧ vs = [i64 k]) (bases.length) rfl rfl (le_len hC rfl) ⟨rfl, rfl, rfl⟩ ⟨0, rfl, Nat.zero_le _, (fun i h => by omega), rfl⟩ ?_
  rintro mz vs - ⟨k, rfl, hk, hf, rfl⟩
  refine vc_stN ?_
  refine vc_seq fun K4 hK4 => ?_
  refine vc_seq fun K5 hK5 => ?_
  refine vc_region ?_
  refine vo_move_pv rfl rfl ?_
  refine vo_move_pv rfl rfl ?_
  refine vo_len_pv rfl rfl Try.underlying23 ?_
  refine vo_binI rfl rfl rfl rfl trivial ?_
  refine vo_nil ?_
  refine hK5 _ ?_
  refine vc_cond rfl (fun hc1 => ?_) (fun hc1 => ?_)
  · try simp only [decide_eq_true_eq, decide_eq_false_iff_not, beq_iff_eq, bne_iff_ne, beq_eq_false_iff_ne, bne_eq_false_iff_eq, Bool.not_eq_true, Bool.not_eq_false, Bool.not_eq_eq_eq_not, Bool.not_true, Bool.not_false, List.length_map, Int.not_lt, Int.not_le, ne_eq, Decidable.not_not] at hc1
    refine vc_skip ?_
    refine hK4 _ ?_
    refine vc_seq fun K6 hK6 => ?_
    refine vc_block ?_
    refine vc_seq fun K7 hK7 => ?_
    refine vc_region ?_
    refine vo_move_pv rfl rfl ?_
    refine vo_move_pv rfl rfl ?_
    refine vo_call [] Try.func60 rfl rfl rfl rfl rfl rfl rfl (orderOf_sat hbases hlbases hv k (by omega)) ?_
    rintro _ _ ⟨nl9, rfl, rfl⟩
    refine ⟨Nat.le_of_ble_eq_true rfl, ⟨rfl, rfl, rfl⟩, .inl rfl, ?_⟩
    refine vo_stN ?_
    refine vo_len_ref rfl rfl rfl Try.underlying25 ?_
    refine vo_binI rfl rfl rfl rfl trivial ?_
    refine vo_nil ?_
    refine hK7 _ ?_
    refine vc_cond rfl (fun hc2 => ?_) (fun hc2 => ?_)
    · try simp only [decide_eq_true_eq, decide_eq_false_iff_not, beq_iff_eq, bne_iff_ne, beq_eq_false_iff_ne, bne_eq_false_iff_eq, Bool.not_eq_true, Bool.not_eq_false, Bool.not_eq_eq_eq_not, Bool.not_true, Bool.not_false, List.length_map, Int.not_lt, Int.not_le, ne_eq, Decidable.not_not] at hc2
      refine vc_seq fun K8 hK8 => ?_
      refine vc_region ?_
      refine vo_assign_pv rfl rfl ?_
      refine vo_nil ?_
      refine hK8 _ ?_
      refine vc_ret ?_
      change retPv _ _ _ _ _
      refine retPv_mk rfl rfl rfl ⟨?_, rfl⟩
      refine (congrArg (fun b => [bo b]) (?_ : _ = _) : [bo _] = [bo _])
      exact bF fun h => h k (by omega) (List.eq_nil_of_length_eq_zero (by omega))
    · try simp only [decide_eq_true_eq, decide_eq_false_iff_not, beq_iff_eq, bne_iff_ne, beq_eq_false_iff_ne, bne_eq_false_iff_eq, Bool.not_eq_true, Bool.not_eq_false, Bool.not_eq_eq_eq_not, Bool.not_true, Bool.not_false, List.length_map, Int.not_lt, Int.not_le, ne_eq, Decidable.not_not] at hc2
      refine vc_skip ?_
      refine hK6 _ ?_
      refine vc_region ?_
      refine vo_move_pv rfl rfl ?_
      refine vo_binI rfl rfl rfl rfl sd ?_
      refine vo_assign_pv rfl rfl ?_
      refine vo_nil ?_
      change againF _ _ _ _ _ _ _ _ _
      refine againF_mk rfl rfl rfl rfl rfl rfl ⟨_, ?_, k + 1, rfl, ?_, ?_, rfl⟩
      · omega
      · omega
      · intro i hi; rcases Nat.lt_or_ge i k with h1 | h1; exact hf i h1; rw [show i = k by omega]; intro e; rw [e] at hc2; simp at hc2
  · try simp only [decide_eq_true_eq, decide_eq_false_iff_not, beq_iff_eq, bne_iff_ne, beq_eq_false_iff_ne, bne_eq_false_iff_eq, Bool.not_eq_true, Bool.not_eq_false, Bool.not_eq_eq_eq_not, Bool.not_true, Bool.not_false, List.length_map, Int.not_lt, Int.not_le, ne_eq, Decidable.not_not] at hc1
    refine vc_exit ?_
    refine hK2 _ ?_
    refine vc_seq fun K9 hK9 => ?_
    refine vc_region ?_
    refine vo_assign_pv rfl rfl ?_
    refine vo_nil ?_
    refine hK9 _ ?_
    refine vc_ret ?_
    change retPv _ _ _ _ _
    refine retPv_mk rfl rfl rfl ⟨?_, rfl⟩
    refine (congrArg (fun b => [bo b]) (?_ : _ = _) : [bo _] = [bo _])
    exact bT fun i hi => hf i (by omega)


theorem specAllOrders_sat {nl0 : Option Bool} {bases : List (List Int)} (hbases : bases.length < 1000000000) (hlbases : ∀ l ∈ bases, l.length < 1000000000)  : SatAt Try.prog 52 [.pv false (.sl nl0 1 (bases.map ints))] [] (fun res rows => res = [bo (decide (allOK bases))] ∧ rows = []) := by
  refine sat_entry (ts := [2]) Try.func52 rfl rfl (by decide) (Nat.le_of_ble_eq_true rfl) fun C hC => ?_
  rw [Try.ntmps52]
  replace hC : C.nb = 0 := hC
  refine vc_seq fun K1 hK1 => ?_
  refine vc_region ?_
  refine vo_assign_pv rfl rfl ?_
  refine vo_nil ?_
  refine hK1 _ ?_
  refine vc_seq fun K2 hK2 => ?_
  refine vc_region ?_
  refine vo_move_pv rfl rfl ?_
  refine vo_call0 Try.func85 rfl rfl rfl rfl (specValidBases0_sat hbases hlbases) ?_
  rintro _ _ ⟨rfl, rfl⟩
  refine ⟨rfl, rfl, .inl rfl, ?_⟩
  refine vo_move_pv rfl rfl ?_
  refine vo_split 5 rfl (fun hg1 => ?_) (fun hg1 => ?_)
  · try simp only [decide_eq_true_eq, decide_eq_false_iff_not, beq_iff_eq, bne_iff_ne, beq_eq_false_iff_ne, bne_eq_false_iff_eq, Bool.not_eq_true, Bool.not_eq_false, Bool.not_eq_eq_eq_not, Bool.not_true, Bool.not_false, List.length_map, Int.not_lt, Int.not_le, ne_eq, Decidable.not_not] at hg1
    refine vo_guard_on rfl rfl rfl ?_
    refine vo_move_pv rfl rfl ?_
    refine vo_guard_on rfl rfl rfl ?_
    refine vo_call0 Try.func92 rfl rfl rfl rfl (allOrders_sat hbases hlbases hg1) ?_
    rintro _ _ ⟨rfl, rfl⟩
    refine ⟨rfl, rfl, .inl rfl, ?_⟩
    refine vo_pick_t rfl rfl ?_
    refine vo_assign_pv rfl rfl ?_
    refine vo_nil ?_
    refine hK2 _ ?_
    refine vc_ret ?_
    change retPv _ _ _ _ _
    refine retPv_mk rfl rfl rfl ⟨?_, rfl⟩
    refine (congrArg (fun b => [bo b]) (?_ : _ = _) : [bo _] = [bo _])
    exact decide_eq_decide.2 ⟨fun h => ⟨hg1, h⟩, fun h => h.2⟩
  · try simp only [decide_eq_true_eq, decide_eq_false_iff_not, beq_iff_eq, bne_iff_ne, beq_eq_false_iff_ne, bne_eq_false_iff_eq, Bool.not_eq_true, Bool.not_eq_false, Bool.not_eq_eq_eq_not, Bool.not_true, Bool.not_false, List.length_map, Int.not_lt, Int.not_le, ne_eq, Decidable.not_not] at hg1
    refine vo_guard_off rfl rfl rfl rfl rfl ?_
    refine vo_guard_off rfl rfl rfl rfl rfl ?_
    refine vo_pick_f rfl rfl ?_
    refine vo_assign_pv rfl rfl ?_
    refine vo_nil ?_
    refine hK2 _ ?_
    refine vc_ret ?_
    change retPv _ _ _ _ _
    refine retPv_mk rfl rfl rfl ⟨?_, rfl⟩
    refine (congrArg (fun b => [bo b]) (?_ : _ = _) : [bo _] = [bo _])
    exact bF fun h => hg1 h.1


theorem implAllOrders_sat {nl0 : Option Bool} {bases : List (List Int)} (hbases : bases.length < 1000000000) (hlbases : ∀ l ∈ bases, l.length < 1000000000)  : SatAt Try.prog 51 [.pv false (.sl nl0 1 (bases.map ints))] [] (fun res rows => res = [bo (decide (allOK bases))] ∧ rows = []) := by
  refine sat_entry (ts := [2]) Try.func51 rfl rfl (by decide) (Nat.le_of_ble_eq_true rfl) fun C hC => ?_
  rw [Try.ntmps51]
  replace hC : C.nb = 0 := hC
  refine vc_seq fun K1 hK1 => ?_
  refine vc_region ?_
  refine vo_assign_pv rfl rfl ?_
  refine vo_nil ?_
  refine hK1 _ ?_
  refine vc_seq fun K2 hK2 => ?_
  refine vc_seq fun K3 hK3 => ?_
  refine vc_region ?_
  refine vo_move_pv rfl rfl ?_
  refine vo_call0 Try.func53 rfl rfl rfl rfl (implValidBases_sat hbases hlbases) ?_
  rintro _ _ ⟨rfl, rfl⟩
  refine ⟨rfl, rfl, .inl rfl, ?_⟩
  refine vo_not rfl rfl ?_
  refine vo_nil ?_
  refine hK3 _ ?_
  refine vc_cond rfl (fun hc1 => ?_) (fun hc1 => ?_)
  · try simp only [decide_eq_true_eq, decide_eq_false_iff_not, beq_iff_eq, bne_iff_ne, beq_eq_false_iff_ne, bne_eq_false_iff_eq, Bool.not_eq_true, Bool.not_eq_false, Bool.not_eq_eq_eq_not, Bool.not_true, Bool.not_false, List.length_map, Int.not_lt, Int.not_le, ne_eq, Decidable.not_not] at hc1
    refine vc_seq fun K4 hK4 => ?_
    refine vc_region ?_
    refine vo_assign_pv rfl rfl ?_
    refine vo_nil ?_
    refine hK4 _ ?_
    refine vc_ret ?_
    change retPv _ _ _ _ _
    refine retPv_mk rfl rfl rfl ⟨?_, rfl⟩
    refine (congrArg (fun b => [bo b]) (?_ : _ = _) : [bo _] = [bo _])
    exact bF fun h => hc1 h.1
  · try simp only [decide_eq_true_eq, decide_eq_false_iff_not, beq_iff_eq, bne_iff_ne, beq_eq_false_iff_ne, bne_eq_false_iff_eq, Bool.not_eq_true, Bool.not_eq_false, Bool.not_eq_eq_eq_not, Bool.not_true, Bool.not_false, List.length_map, Int.not_lt, Int.not_le, ne_eq, Decidable.not_not] at hc1
    have h1 := hc1.1
    have hTl2 := ordT_len bases (((bases.length : Int) - 1).toNat + 1)
    have hlm : (bases.map ints).length = bases.length := List.length_map ..
    have hTl := ordT_len bases ((((bases.map ints).length : Int) - 1).toNat + 1)
    have hN : (((bases.map ints).length : Int) - 1).toNat + 1 = bases.length := by omega
    refine vc_skip ?_
    refine hK2 _ ?_
    refine vc_seq fun K5 hK5 => ?_
    refine vc_seq fun K6 hK6 => ?_
    refine vc_region ?_
    refine vo_move_pv rfl rfl ?_
    refine vo_move_pv rfl rfl ?_
    refine vo_len_pv rfl rfl Try.underlying23 ?_
    refine vo_binI rfl rfl rfl rfl sd ?_
    refine vo_call [] Try.func82 rfl rfl rfl rfl rfl rfl rfl (ordersUpTo_satI (c := ((bases.map ints).length : Int) - 1) hbases hlbases hc1 (by have := hc1.1; rw [List.length_map]; omega) (by rw [List.length_map]; omega)) ?_
    rintro _ _ ⟨rfl, rfl⟩
    refine ⟨Nat.le_of_ble_eq_true rfl, ⟨rfl, rfl, rfl⟩, .inl rfl, ?_⟩
    refine vo_stN ?_
    refine vo_len_ref rfl rfl rfl Try.underlying23 ?_
    refine vo_move_pv rfl rfl ?_
    refine vo_nil ?_
    refine hK6 _ ?_
    refine vc_block ?_
    refine vc_stN ?_
    refine vc_loop [12, 13, 14] (fun mz vs rows => ∃ (k : Nat), mz = bases.length - k ∧ (k ≤ bases.length) ∧ (∀ i, i < k → ordM bases i ≠ []) ∧ vs = [.ref 0, i64 (((ordT bases ((((bases.map ints).length : Int) - 1).toNat + 1)).map ordP).length : Nat), i64 k] ∧ rows = [Row.tree 25 1 (some false) none ((ordT bases ((((bases.map ints).length : Int) - 1).toNat + 1)).map ordP)]) (bases.length) (le_len hC rfl) ⟨rfl, rfl⟩ ⟨0, rfl, Nat.zero_le _, (fun i h => by omega), rfl, rfl⟩ ?_
    rintro mz vs rows - - ⟨k, rfl, hk, hf, rfl, rfl⟩
    refine vc_seq fun K7 hK7 => ?_
    refine vc_region ?_
    refine vo_binI rfl rfl rfl rfl trivial ?_
    refine vo_nil ?_
    refine hK7 _ ?_
    refine vc_seq fun K8 hK8 => ?_
    refine vc_cond rfl (fun hc2 => ?_) (fun hc2 => ?_)
    · try simp only [decide_eq_true_eq, decide_eq_false_iff_not, beq_iff_eq, bne_iff_ne, beq_eq_false_iff_ne, bne_eq_false_iff_eq, Bool.not_eq_true, Bool.not_eq_false, Bool.not_eq_eq_eq_not, Bool.not_true, Bool.not_false, List.length_map, Int.not_lt, Int.not_le, ne_eq, Decidable.not_not] at hc2
      refine vc_skip ?_
      refine hK8 _ ?_
      refine vc_seq fun K9 hK9 => ?_
      refine vc_block ?_
      refine vc_seq fun K10 hK10 => ?_
      refine vc_region ?_
      refine vo_index_ref rfl rfl rfl rfl E23.und inf25 sz25 sd sd ?_
      try simp only [Int.toNat_natCast]
      refine vo_load_sub rfl rfl rfl Try.underlying25 rfl sd fun u1 => ?_
      refine vo_stN ?_
      refine vo_assign rfl ?_
      refine vo_nil ?_
      refine hK10 _ ?_
      refine vc_seq fun K11 hK11 => ?_
      refine vc_region ?_
      refine vo_move rfl ?_
      refine vo_eqnil_val (id := 0) rfl rfl rfl (get_ord (o := ordT bases ((((bases.map ints).length : Int) - 1).toNat + 1)) (k := k) (by rw [hTl]; omega)) Try.underlying25 fun bn1 hn1 hnt1 hnf1 => ?_
      refine vo_unknow 0 rfl ?_
      refine vo_stN ?_
      refine vo_nil ?_
      refine hK11 _ ?_
      refine vc_cond rfl (fun hc3 => ?_) (fun hc3 => ?_)
      · try simp only [decide_eq_true_eq, decide_eq_false_iff_not, beq_iff_eq, bne_iff_ne, beq_eq_false_iff_ne, bne_eq_false_iff_eq, Bool.not_eq_true, Bool.not_eq_false, Bool.not_eq_eq_eq_not, Bool.not_true, Bool.not_false, List.length_map, Int.not_lt, Int.not_le, ne_eq, Decidable.not_not] at hc3
        have hg := ordT_get bases ((((bases.map ints).length : Int) - 1).toNat + 1) k (by omega)
        rw [hg] at hn1 hnt1 hnf1
        have hb := bEmp hnt1 hnf1
        have hE : ordM bases k = [] := List.isEmpty_iff.1 (hb.symm.trans hc3)
        refine vc_seq fun K12 hK12 => ?_
        refine vc_region ?_
        refine vo_assign_pv rfl rfl ?_
        refine vo_nil ?_
        refine hK12 _ ?_
        refine vc_ret ?_
        change retPv _ _ _ _ _
        refine retPv_mk rfl rfl rfl ⟨?_, rfl⟩
        refine (congrArg (fun b => [bo b]) (?_ : _ = _) : [bo _] = [bo _])
        exact bF fun h => h.2 k (by omega) hE
      · try simp only [decide_eq_true_eq, decide_eq_false_iff_not, beq_iff_eq, bne_iff_ne, beq_eq_false_iff_ne, bne_eq_false_iff_eq, Bool.not_eq_true, Bool.not_eq_false, Bool.not_eq_eq_eq_not, Bool.not_true, Bool.not_false, List.length_map, Int.not_lt, Int.not_le, ne_eq, Decidable.not_not] at hc3
        have hg := ordT_get bases ((((bases.map ints).length : Int) - 1).toNat + 1) k (by omega)
        rw [hg] at hn1 hnt1 hnf1
        have hb := bEmp hnt1 hnf1
        have hE : ordM bases k ≠ [] := fun e => by rw [e] at hb; simp [hb] at hc3
        refine vc_skip ?_
        refine hK9 _ ?_
        refine vc_region ?_
        refine vo_binI rfl rfl rfl rfl sd ?_
        refine vo_move_pv rfl rfl ?_
        refine vo_nil ?_
        change again _ _ _ _ _ _
        refine again_mk rfl rfl rfl rfl ⟨_, ?_, k + 1, rfl, ?_, ?_, rfl, rfl⟩
        · omega
        · omega
        · intro i hi; rcases Nat.lt_or_ge i k with h1 | h1; exact hf i h1; rw [show i = k by omega]; exact hE
    · try simp only [decide_eq_true_eq, decide_eq_false_iff_not, beq_iff_eq, bne_iff_ne, beq_eq_false_iff_ne, bne_eq_false_iff_eq, Bool.not_eq_true, Bool.not_eq_false, Bool.not_eq_eq_eq_not, Bool.not_true, Bool.not_false, List.length_map, Int.not_lt, Int.not_le, ne_eq, Decidable.not_not] at hc2
      refine vc_exit ?_
      refine hK5 _ ?_
      refine vc_seq fun K13 hK13 => ?_
      refine vc_region ?_
      refine vo_assign_pv rfl rfl ?_
      refine vo_nil ?_
      refine hK13 _ ?_
      refine vc_ret ?_
      change retPv _ _ _ _ _
      refine retPv_mk rfl rfl rfl ⟨?_, rfl⟩
      refine (congrArg (fun b => [bo b]) (?_ : _ = _) : [bo _] = [bo _])
      exact bT ⟨hc1, fun i hi => hf i (by omega)⟩

end Go.Vl

namespace Go.Vl
set_option linter.unusedVariables false
set_option linter.unusedSimpArgs false
open Go.Proofs
def wkS (t : List (List Int)) (l : List Int) (c : Int) : List Int := c :: l.flatMap (fun x => t.getD x.toNat [])
def wkT (b : List (List Int)) : Nat → List (List Int)
  | 0 => []
  | n+1 => wkT b n ++ [wkS (wkT b n) (b.getD n []) n]
def wkM (b : List (List Int)) (c : Nat) : List Int := wkS (wkT b c) (b.getD c []) c
theorem wkT_len (b : List (List Int)) : ∀ n, (wkT b n).length = n
  | 0 => rfl
  | n+1 => by rw [wkT, List.length_append, wkT_len b n]; rfl
theorem wkT_get (b : List (List Int)) : ∀ (n k : Nat), k < n → (wkT b n).getD k [] = wkM b k
  | n+1, k, h => by
    rw [wkT]
    by_cases hk : k < n
    · rw [← wkT_get b n k hk]; simp only [List.getD]; rw [List.getElem?_append_left (by rw [wkT_len]; exact hk)]
    · have : k = n := by omega
      subst this
      simp only [List.getD]; rw [List.getElem?_append_right (by rw [wkT_len]; exact Nat.le_refl _), wkT_len, Nat.sub_self]; rfl
theorem wkT_at {b : List (List Int)} (hv : VB b) {c : Nat} (hc : c < b.length) {x : Int} (hx : x ∈ b.getD c []) : (wkT b c).getD x.toNat [] = wkM b x.toNat := by
  have := (hv.at hc).2.2 x hx
  exact wkT_get b c _ (by omega)
theorem flat_len {M : Nat} (f : Int → List Int) : ∀ (l : List Int), (∀ x ∈ l, (f x).length ≤ M) → (l.flatMap f).length ≤ l.length * M
  | [], _ => by simp
  | x :: l, h => by
    have h1 := flat_len f l (fun y hy => h y (List.mem_cons_of_mem _ hy))
    have h2 := h x List.mem_cons_self
    rw [List.flatMap_cons, List.length_append, List.length_cons, Nat.add_mul]
    omega
theorem wkM_len {b : List (List Int)} (hv : VB b) : ∀ c, c < b.length → (wkM b c).length ≤ 5 ^ c := by
  intro c
  induction c using Nat.strongRecOn with
  | ind c ih =>
    intro hc
    obtain ⟨h4, _, hx⟩ := hv.at hc
    rcases Nat.eq_zero_or_pos c with rfl | hp
    · have : b.getD 0 [] = [] := hv.2.2.1
      unfold wkM wkS
      rw [this]; simp
    · have h1 := flat_len (M := 5 ^ (c - 1)) (fun x => (wkT b c).getD x.toNat []) (b.getD c []) (fun x hm => by
        have hb := hx x hm
        rw [wkT_at hv hc hm]
        exact Nat.le_trans (ih x.toNat (by omega) (by omega)) (Nat.pow_le_pow_right (by omega) (by omega)))
      have h2 : (b.getD c []).length * 5 ^ (c - 1) ≤ 4 * 5 ^ (c - 1) := Nat.mul_le_mul_right _ h4
      have h3 : 5 ^ c = 5 * 5 ^ (c - 1) := by rw [← Nat.pow_succ', show (c - 1).succ = c by omega]
      have h5 : 0 < 5 ^ (c - 1) := Nat.pow_pos (by omega)
      show (List.length (_ :: _)) ≤ _
      rw [List.length_cons]
      omega
theorem wkM_lt {b : List (List Int)} (hv : VB b) {c : Nat} (hc : c < b.length) : (wkM b c).length ≤ 48828125 := by
  have h1 := wkM_len hv c hc
  have h2 : 5 ^ c ≤ 5 ^ 11 := Nat.pow_le_pow_right (by omega) (by have := hv.2.1; omega)
  have h3 : (5 : Nat) ^ 11 = 48828125 := by decide
  omega
def wkP (b : List (List Int)) (c : Nat) (k : Nat) : List Int := (c : Int) :: ((b.getD c []).take k).flatMap (fun x => (wkT b c).getD x.toNat [])
theorem wkP_all {b : List (List Int)} {c k : Nat} (h : (b.getD c []).length ≤ k) : wkP b c k = wkM b c := by unfold wkP; rw [take_all h]; rfl
theorem wkP_succ {b : List (List Int)} (hv : VB b) {c k : Nat} (hc : c < b.length) (h : k < (b.getD c []).length) : wkP b c k ++ wkM b ((b.getD c []).getD k 0).toNat = wkP b c (k+1) := by
  have e := wkT_at hv hc (getD_mem h 0)
  have e2 : (b.getD c []).getD k 0 = (b.getD c [])[k] := by rw [List.getD, List.getElem?_eq_getElem h]; rfl
  unfold wkP
  rw [List.take_succ_eq_append_getElem h, List.flatMap_append, List.flatMap_cons, List.flatMap_nil, List.append_nil, ← e2, e]; rfl
theorem wkP_len {b : List (List Int)} {c k : Nat} (hv : VB b) (hc : c < b.length) : (wkP b c k).length ≤ 48828125 := by
  refine Nat.le_trans ?_ (wkM_lt hv hc)
  rcases Nat.lt_or_ge k (b.getD c []).length with h | h
  · unfold wkP wkM wkS
    rw [List.length_cons, List.length_cons]
    refine Nat.succ_le_succ ?_
    conv => rhs; rw [← List.take_append_drop k (b.getD c [])]
    rw [List.flatMap_append, List.length_append]
    omega
  · rw [wkP_all h]; exact Nat.le_refl _
def cwP (b : List (List Int)) (c : Int) : Prop := (VB b ∧ 0 ≤ c ∧ c < b.length) ∧ c ≤ 9
instance {b : List (List Int)} {c : Int} : Decidable (cwP b c) := by unfold cwP; infer_instance
def dfR (b : List (List Int)) (c : Int) : List Int := if cwP b c then onceF [] (wkM b c.toNat) else []
theorem dfR_no {b : List (List Int)} {c : Int} (h : ¬ cwP b c) : dfR b c = [] := if_neg h
theorem dfR_yes {b : List (List Int)} {c : Int} (h : cwP b c) : dfR b c = onceF [] (wkM b c.toNat) := if_pos h
theorem dfR_len {b : List (List Int)} {c : Int} : (dfR b c).length < 1000000000 := by
  by_cases h : cwP b c
  · rw [dfR_yes h]
    have h1 := onceL_len (wkM b c.toNat)
    have h2 := wkM_lt h.1.1 (show c.toNat < b.length by have := h.1; omega)
    omega
  · rw [dfR_no h]; simp
theorem once_succ {l : List Int} {k : Nat} (h : k < l.length) : onceF [] (l.take (k+1)) = if l.getD k 0 ∈ onceF [] (l.take k) then onceF [] (l.take k) else onceF [] (l.take k) ++ [l.getD k 0] := by
  have e2 : l.getD k 0 = l[k] := by simp [List.getD, List.getElem?_eq_getElem h]
  rw [List.take_succ_eq_append_getElem h, onceF_snoc, e2]

theorem walkFrom_step {nl0 : Option Bool} {bases : List (List Int)} {c : Nat} (hbases : bases.length < 1000000000) (hlbases : ∀ l ∈ bases, l.length < 1000000000) (hv : VB bases) (hc : c < bases.length) (ih : ∀ x : Int, 0 ≤ x → x < c → SatAt Try.prog 74 [.pv false (.sl nl0 1 (bases.map ints)), i64 x] [] (fun res rows => ∃ nl, res = [.ref 0] ∧ rows = [Row.own 3 1 nl true ((wkM bases x.toNat).map intP)])) : SatAt Try.prog 74 [.pv false (.sl nl0 1 (bases.map ints)), i64 c] [] (fun res rows => ∃ nl, res = [.ref 0] ∧ rows = [Row.own 3 1 nl true ((wkM bases c).map intP)]) := by
  refine sat_entry_g (ts := [4]) Try.func74 rfl rfl (by decide) (Nat.le_of_ble_eq_true rfl) fun C hC => ?_
  rw [Try.ntmps74]
  replace hC : C.nb = 0 := hC
  refine vc_seq fun K1 hK1 => ?_
  refine vc_region ?_
  refine vo_assign_pv rfl rfl ?_
  refine vo_nil ?_
  refine hK1 _ ?_
  refine vc_seq fun K2 hK2 => ?_
  refine vc_region ?_
  refine vo_move_pv rfl rfl ?_
  refine vo_buildSlice E25 rfl rfl rfl rfl rfl ?_
  refine vo_assign_ref rfl rfl ?_
  refine vo_nil ?_
  refine hK2 _ ?_
  refine vc_seq fun K3 hK3 => ?_
  refine vc_seq fun K4 hK4 => ?_
  refine vc_region ?_
  refine vo_move_pv rfl rfl ?_
  refine vo_move_pv rfl rfl ?_
  refine vo_index_pv (.sl none 1 []) rfl rfl rfl E23.und inf25 sz25 sd sd ?_
  simp only [Int.toNat_natCast, Int.toNat_zero, getD_ints, getD_intss, getD_bools, getD_bytes, PV.cells]
  refine vo_load_adr rfl rfl Try.underlying25 rfl ?_
  refine vo_len_pv rfl rfl Try.underlying25 ?_
  refine vo_move_pv rfl rfl ?_
  refine vo_nil ?_
  refine hK4 _ ?_
  refine vc_block ?_
  refine vc_stN ?_
  refine vc_loop [0, 5, 13, 14, 15] (fun mz vs rows => ∃ (k : Nat), mz = (bases.getD c []).length - k ∧ (k ≤ (bases.getD c []).length) ∧ vs = [.pv false (.sl nl0 1 (bases.map ints)), .ref 0, .pv false (.sl none 1 ((bases.getD c []).map intP)), i64 ((bases.getD c []).map intP).length, i64 k] ∧ rows = [Row.own 3 1 (some false) true ((wkP bases c k).map intP)]) ((bases.getD c []).length) (le_len hC rfl) ⟨rfl, rfl⟩ ⟨0, rfl, Nat.zero_le _, rfl, rfl⟩ ?_
  rintro mz vs rows - - ⟨k, rfl, hk, rfl, rfl⟩
  have h4 := (hv.at hc).1
  have hwl := wkP_len (k := k) hv hc
  refine vc_seq fun K5 hK5 => ?_
  refine vc_region ?_
  refine vo_binI rfl rfl rfl rfl trivial ?_
  refine vo_nil ?_
  refine hK5 _ ?_
  refine vc_seq fun K6 hK6 => ?_
  refine vc_cond rfl (fun hc1 => ?_) (fun hc1 => ?_)
  · try simp only [decide_eq_true_eq, decide_eq_false_iff_not, beq_iff_eq, bne_iff_ne, beq_eq_false_iff_ne, bne_eq_false_iff_eq, Bool.not_eq_true, Bool.not_eq_false, Bool.not_eq_eq_eq_not, Bool.not_true, Bool.not_false, List.length_map, Int.not_lt, Int.not_le, ne_eq, Decidable.not_not] at hc1
    have hm := getD_mem (show k < (bases.getD c []).length by omega) 0
    have hb := (hv.at hc).2.2 _ hm
    have hyl := wkM_lt hv (show ((bases.getD c []).getD k 0).toNat < bases.length by omega)
    refine vc_skip ?_
    refine hK6 _ ?_
    refine vc_seq fun K7 hK7 => ?_
    refine vc_block ?_
    refine vc_seq fun K8 hK8 => ?_
    refine vc_region ?_
    refine vo_index_pv (.int .i64 0) rfl rfl rfl E25.und inf3 sz3 sd sd ?_
    simp only [Int.toNat_natCast, Int.toNat_zero, getD_ints, getD_intss, getD_bools, getD_bytes, PV.cells]
    refine vo_load_adr rfl rfl Try.underlying3 rfl ?_
    refine vo_assign_pv rfl rfl ?_
    refine vo_nil ?_
    refine hK8 _ ?_
    refine vc_region ?_
    refine vo_move_ref rfl rfl ?_
    refine vo_move_pv rfl rfl ?_
    refine vo_move_pv rfl rfl ?_
    refine vo_call [] Try.func74 rfl rfl rfl rfl rfl rfl rfl (ih _ hb.1 (by omega)) ?_
    rintro _ _ ⟨nl9, rfl, rfl⟩
    refine ⟨Nat.le_of_ble_eq_true rfl, ⟨rfl, rfl, rfl⟩, .inl rfl, ?_⟩
    refine vo_stN ?_
    refine vo_append E25 rfl (by omega) rfl rfl rfl sd sd ?_
    refine vo_stN ?_
    try simp only [app_ints, app_intss, app_bools]
    refine vo_assign_ref rfl rfl ?_
    refine vo_nil ?_
    refine hK7 _ ?_
    refine vc_region ?_
    refine vo_binI rfl rfl rfl rfl sd ?_
    refine vo_move_pv rfl rfl ?_
    refine vo_nil ?_
    change again _ _ _ _ _ _
    refine again_mk rfl rfl rfl rfl ⟨_, ?_, k + 1, rfl, ?_, rfl, (row1_eqF (by rw [← List.map_append, wkP_succ (k := k) hv hc (by omega)]))⟩
    · omega
    · omega
  · try simp only [decide_eq_true_eq, decide_eq_false_iff_not, beq_iff_eq, bne_iff_ne, beq_eq_false_iff_ne, bne_eq_false_iff_eq, Bool.not_eq_true, Bool.not_eq_false, Bool.not_eq_eq_eq_not, Bool.not_true, Bool.not_false, List.length_map, Int.not_lt, Int.not_le, ne_eq, Decidable.not_not] at hc1
    refine vc_exit ?_
    refine hK3 _ ?_
    refine vc_seq fun K9 hK9 => ?_
    refine vc_region ?_
    refine vo_move_ref rfl rfl ?_
    refine vo_assign_ref rfl rfl ?_
    refine vo_nil ?_
    refine hK9 _ ?_
    refine vc_ret ?_
    change retG _ _ _ _ _
    refine retG_one 0 hC rfl rfl rfl rfl rfl ?_
    exact ⟨_, rfl, rows_eq (g := intP) (wkP_all (by omega))⟩

theorem walkFrom_sat {nl0 : Option Bool} {bases : List (List Int)} (hbases : bases.length < 1000000000) (hlbases : ∀ l ∈ bases, l.length < 1000000000) (hv : VB bases) : ∀ (n : Nat), n < bases.length → SatAt Try.prog 74 [.pv false (.sl nl0 1 (bases.map ints)), i64 n] [] (fun res rows => ∃ nl, res = [.ref 0] ∧ rows = [Row.own 3 1 nl true ((wkM bases n).map intP)]) := by
  intro n
  induction n using Nat.strongRecOn with
  | ind n ih =>
    intro hn
    refine walkFrom_step hbases hlbases hv hn fun x h0 h1 => ?_
    obtain ⟨k, rfl⟩ := Int.eq_ofNat_of_zero_le h0
    exact ih k (by omega) (by omega)


theorem walk_step {nl0 : Option Bool} {bases : List (List Int)} {c : Nat} (hbases : bases.length < 1000000000) (hlbases : ∀ l ∈ bases, l.length < 1000000000) (hv : VB bases) (hc : c < bases.length) (ih : ∀ x : Int, 0 ≤ x → x < c → SatAt Try.prog 78 [.pv false (.sl nl0 1 (bases.map ints)), i64 x] [] (fun res rows => ∃ nl, res = [.ref 0] ∧ rows = [Row.own 3 1 nl true ((wkM bases x.toNat).map intP)])) : SatAt Try.prog 78 [.pv false (.sl nl0 1 (bases.map ints)), i64 c] [] (fun res rows => ∃ nl, res = [.ref 0] ∧ rows = [Row.own 3 1 nl true ((wkM bases c).map intP)]) := by
  refine sat_entry_g (ts := [4]) Try.func78 rfl rfl (by decide) (Nat.le_of_ble_eq_true rfl) fun C hC => ?_
  rw [Try.ntmps78]
  replace hC : C.nb = 0 := hC
  refine vc_seq fun K1 hK1 => ?_
  refine vc_region ?_
  refine vo_assign_pv rfl rfl ?_
  refine vo_nil ?_
  refine hK1 _ ?_
  refine vc_seq fun K2 hK2 => ?_
  refine vc_region ?_
  refine vo_move_pv rfl rfl ?_
  refine vo_buildSlice E25 rfl rfl rfl rfl rfl ?_
  refine vo_assign_ref rfl rfl ?_
  refine vo_nil ?_
  refine hK2 _ ?_
  refine vc_seq fun K3 hK3 => ?_
  refine vc_seq fun K4 hK4 => ?_
  refine vc_region ?_
  refine vo_assign_pv rfl rfl ?_
  refine vo_nil ?_
  refine hK4 _ ?_
  refine vc_block ?_
  refine vc_stN ?_
  refine vc_loop [0, 1, 5, 6] (fun mz vs rows => ∃ (k : Nat), mz = (bases.getD c []).length - k ∧ (k ≤ (bases.getD c []).length) ∧ vs = [.pv false (.sl nl0 1 (bases.map ints)), i64 c, .ref 0, i64 k] ∧ rows = [Row.own 3 1 (some false) true ((wkP bases c k).map intP)]) ((bases.getD c []).length) (le_len hC rfl) ⟨rfl, rfl⟩ ⟨0, rfl, Nat.zero_le _, rfl, rfl⟩ ?_
  rintro mz vs rows - - ⟨k, rfl, hk, rfl, rfl⟩
  have h4 := (hv.at hc).1
  have hwl := wkP_len (k := k) hv hc
  refine vc_seq fun K5 hK5 => ?_
  refine vc_seq fun K6 hK6 => ?_
  refine vc_region ?_
  refine vo_move_pv rfl rfl ?_
  refine vo_move_pv rfl rfl ?_
  refine vo_move_pv rfl rfl ?_
  refine vo_index_pv (.sl none 1 []) rfl rfl rfl E23.und inf25 sz25 sd sd ?_
  simp only [Int.toNat_natCast, Int.toNat_zero, getD_ints, getD_intss, getD_bools, getD_bytes, PV.cells]
  refine vo_load_adr rfl rfl Try.underlying25 rfl ?_
  refine vo_len_pv rfl rfl Try.underlying25 ?_
  refine vo_binI rfl rfl rfl rfl trivial ?_
  refine vo_nil ?_
  refine hK6 _ ?_
  refine vc_cond rfl (fun hc1 => ?_) (fun hc1 => ?_)
  · try simp only [decide_eq_true_eq, decide_eq_false_iff_not, beq_iff_eq, bne_iff_ne, beq_eq_false_iff_ne, bne_eq_false_iff_eq, Bool.not_eq_true, Bool.not_eq_false, Bool.not_eq_eq_eq_not, Bool.not_true, Bool.not_false, List.length_map, Int.not_lt, Int.not_le, ne_eq, Decidable.not_not] at hc1
    have hm := getD_mem (show k < (bases.getD c []).length by omega) 0
    have hb := (hv.at hc).2.2 _ hm
    have hyl := wkM_lt hv (show ((bases.getD c []).getD k 0).toNat < bases.length by omega)
    refine vc_skip ?_
    refine hK5 _ ?_
    refine vc_seq fun K7 hK7 => ?_
    refine vc_block ?_
    refine vc_region ?_
    refine vo_move_ref rfl rfl ?_
    refine vo_move_pv rfl rfl ?_
    refine vo_move_pv rfl rfl ?_
    refine vo_move_pv rfl rfl ?_
    refine vo_index_pv (.sl none 1 []) rfl rfl rfl E23.und inf25 sz25 sd sd ?_
    simp only [Int.toNat_natCast, Int.toNat_zero, getD_ints, getD_intss, getD_bools, getD_bytes, PV.cells]
    refine vo_load_adr rfl rfl Try.underlying25 rfl ?_
    refine vo_move_pv rfl rfl ?_
    refine vo_index_pv (.int .i64 0) rfl rfl rfl E25.und inf3 sz3 sd sd ?_
    simp only [Int.toNat_natCast, Int.toNat_zero, getD_ints, getD_intss, getD_bools, getD_bytes, PV.cells]
    refine vo_load_adr rfl rfl Try.underlying3 rfl ?_
    refine vo_call [] Try.func78 rfl rfl rfl rfl rfl rfl rfl (ih _ hb.1 (by omega)) ?_
    rintro _ _ ⟨nl9, rfl, rfl⟩
    refine ⟨Nat.le_of_ble_eq_true rfl, ⟨rfl, rfl, rfl⟩, .inl rfl, ?_⟩
    refine vo_stN ?_
    refine vo_append E25 rfl (by omega) rfl rfl rfl sd sd ?_
    refine vo_stN ?_
    try simp only [app_ints, app_intss, app_bools]
    refine vo_assign_ref rfl rfl ?_
    refine vo_nil ?_
    refine hK7 _ ?_
    refine vc_region ?_
    refine vo_move_pv rfl rfl ?_
    refine vo_binI rfl rfl rfl rfl sd ?_
    refine vo_assign_pv rfl rfl ?_
    refine vo_nil ?_
    change again _ _ _ _ _ _
    refine again_mk rfl rfl rfl rfl ⟨_, ?_, k + 1, rfl, ?_, rfl, (row1_eqF (by rw [← List.map_append, wkP_succ (k := k) hv hc (by omega)]))⟩
    · omega
    · omega
  · try simp only [decide_eq_true_eq, decide_eq_false_iff_not, beq_iff_eq, bne_iff_ne, beq_eq_false_iff_ne, bne_eq_false_iff_eq, Bool.not_eq_true, Bool.not_eq_false, Bool.not_eq_eq_eq_not, Bool.not_true, Bool.not_false, List.length_map, Int.not_lt, Int.not_le, ne_eq, Decidable.not_not] at hc1
    refine vc_exit ?_
    refine hK3 _ ?_
    refine vc_seq fun K8 hK8 => ?_
    refine vc_region ?_
    refine vo_move_ref rfl rfl ?_
    refine vo_assign_ref rfl rfl ?_
    refine vo_nil ?_
    refine hK8 _ ?_
    refine vc_ret ?_
    change retG _ _ _ _ _
    refine retG_one 0 hC rfl rfl rfl rfl rfl ?_
    exact ⟨_, rfl, rows_eq (g := intP) (wkP_all (by omega))⟩

theorem walk_sat {nl0 : Option Bool} {bases : List (List Int)} (hbases : bases.length < 1000000000) (hlbases : ∀ l ∈ bases, l.length < 1000000000) (hv : VB bases) : ∀ (n : Nat), n < bases.length → SatAt Try.prog 78 [.pv false (.sl nl0 1 (bases.map ints)), i64 n] [] (fun res rows => ∃ nl, res = [.ref 0] ∧ rows = [Row.own 3 1 nl true ((wkM bases n).map intP)]) := by
  intro n
  induction n using Nat.strongRecOn with
  | ind n ih =>
    intro hn
    refine walk_step hbases hlbases hv hn fun x h0 h1 => ?_
    obtain ⟨k, rfl⟩ := Int.eq_ofNat_of_zero_le h0
    exact ih k (by omega) (by omega)


theorem canWalk_sat {nl0 : Option Bool} {bases : List (List Int)} {c : Int} (hbases : bases.length < 1000000000) (hlbases : ∀ l ∈ bases, l.length < 1000000000)  : SatAt Try.prog 73 [.pv false (.sl nl0 1 (bases.map ints)), i64 c] [] (fun res rows => res = [bo (decide (cwP bases c))] ∧ rows = []) := by
  refine sat_entry (ts := [4]) Try.func73 rfl rfl (by decide) (Nat.le_of_ble_eq_true rfl) fun C hC => ?_
  rw [Try.ntmps73]
  replace hC : C.nb = 0 := hC
  refine vc_seq fun K1 hK1 => ?_
  refine vc_region ?_
  refine vo_assign_pv rfl rfl ?_
  refine vo_nil ?_
  refine hK1 _ ?_
  refine vc_seq fun K2 hK2 => ?_
  refine vc_region ?_
  refine vo_move_pv rfl rfl ?_
  refine vo_move_pv rfl rfl ?_
  refine vo_call0 Try.func79 rfl rfl rfl rfl (hasClass_sat hbases hlbases) ?_
  rintro _ _ ⟨rfl, rfl⟩
  refine ⟨rfl, rfl, .inl rfl, ?_⟩
  refine vo_move_pv rfl rfl ?_
  refine vo_split 8 rfl (fun hg1 => ?_) (fun hg1 => ?_)
  · try simp only [decide_eq_true_eq, decide_eq_false_iff_not, beq_iff_eq, bne_iff_ne, beq_eq_false_iff_ne, bne_eq_false_iff_eq, Bool.not_eq_true, Bool.not_eq_false, Bool.not_eq_eq_eq_not, Bool.not_true, Bool.not_false, List.length_map, Int.not_lt, Int.not_le, ne_eq, Decidable.not_not] at hg1
    refine vo_guard_on rfl rfl rfl ?_
    refine vo_move_pv rfl rfl ?_
    refine vo_guard_on rfl rfl rfl ?_
    refine vo_binI rfl rfl rfl rfl trivial ?_
    refine vo_pick_t rfl rfl ?_
    refine vo_assign_pv rfl rfl ?_
    refine vo_nil ?_
    refine hK2 _ ?_
    refine vc_ret ?_
    change retPv _ _ _ _ _
    refine retPv_mk rfl rfl rfl ⟨?_, rfl⟩
    refine (congrArg (fun b => [bo b]) (?_ : _ = _) : [bo _] = [bo _])
    exact decide_eq_decide.2 ⟨fun h => ⟨hg1, h⟩, fun h => h.2⟩
  · try simp only [decide_eq_true_eq, decide_eq_false_iff_not, beq_iff_eq, bne_iff_ne, beq_eq_false_iff_ne, bne_eq_false_iff_eq, Bool.not_eq_true, Bool.not_eq_false, Bool.not_eq_eq_eq_not, Bool.not_true, Bool.not_false, List.length_map, Int.not_lt, Int.not_le, ne_eq, Decidable.not_not] at hg1
    refine vo_guard_off rfl rfl rfl rfl rfl ?_
    refine vo_guard_off rfl rfl rfl rfl rfl ?_
    refine vo_pick_f rfl rfl ?_
    refine vo_assign_pv rfl rfl ?_
    refine vo_nil ?_
    refine hK2 _ ?_
    refine vc_ret ?_
    change retPv _ _ _ _ _
    refine retPv_mk rfl rfl rfl ⟨?_, rfl⟩
    refine (congrArg (fun b => [bo b]) (?_ : _ = _) : [bo _] = [bo _])
    exact bF fun h => hg1 h.1


theorem validWalk_sat {nl0 : Option Bool} {bases : List (List Int)} {c : Int} (hbases : bases.length < 1000000000) (hlbases : ∀ l ∈ bases, l.length < 1000000000)  : SatAt Try.prog 77 [.pv false (.sl nl0 1 (bases.map ints)), i64 c] [] (fun res rows => res = [bo (decide (cwP bases c))] ∧ rows = []) := by
  refine sat_entry (ts := [4]) Try.func77 rfl rfl (by decide) (Nat.le_of_ble_eq_true rfl) fun C hC => ?_
  rw [Try.ntmps77]
  replace hC : C.nb = 0 := hC
  refine vc_seq fun K1 hK1 => ?_
  refine vc_region ?_
  refine vo_assign_pv rfl rfl ?_
  refine vo_nil ?_
  refine hK1 _ ?_
  refine vc_seq fun K2 hK2 => ?_
  refine vc_region ?_
  refine vo_move_pv rfl rfl ?_
  refine vo_move_pv rfl rfl ?_
  refine vo_call0 Try.func104 rfl rfl rfl rfl (validClass_sat hbases hlbases) ?_
  rintro _ _ ⟨rfl, rfl⟩
  refine ⟨rfl, rfl, .inl rfl, ?_⟩
  refine vo_move_pv rfl rfl ?_
  refine vo_split 8 rfl (fun hg1 => ?_) (fun hg1 => ?_)
  · try simp only [decide_eq_true_eq, decide_eq_false_iff_not, beq_iff_eq, bne_iff_ne, beq_eq_false_iff_ne, bne_eq_false_iff_eq, Bool.not_eq_true, Bool.not_eq_false, Bool.not_eq_eq_eq_not, Bool.not_true, Bool.not_false, List.length_map, Int.not_lt, Int.not_le, ne_eq, Decidable.not_not] at hg1
    refine vo_guard_on rfl rfl rfl ?_
    refine vo_move_pv rfl rfl ?_
    refine vo_guard_on rfl rfl rfl ?_
    refine vo_binI rfl rfl rfl rfl trivial ?_
    refine vo_pick_t rfl rfl ?_
    refine vo_assign_pv rfl rfl ?_
    refine vo_nil ?_
    refine hK2 _ ?_
    refine vc_ret ?_
    change retPv _ _ _ _ _
    refine retPv_mk rfl rfl rfl ⟨?_, rfl⟩
    refine (congrArg (fun b => [bo b]) (?_ : _ = _) : [bo _] = [bo _])
    exact decide_eq_decide.2 ⟨fun h => ⟨hg1, h⟩, fun h => h.2⟩
  · try simp only [decide_eq_true_eq, decide_eq_false_iff_not, beq_iff_eq, bne_iff_ne, beq_eq_false_iff_ne, bne_eq_false_iff_eq, Bool.not_eq_true, Bool.not_eq_false, Bool.not_eq_eq_eq_not, Bool.not_true, Bool.not_false, List.length_map, Int.not_lt, Int.not_le, ne_eq, Decidable.not_not] at hg1
    refine vo_guard_off rfl rfl rfl rfl rfl ?_
    refine vo_guard_off rfl rfl rfl rfl rfl ?_
    refine vo_pick_f rfl rfl ?_
    refine vo_assign_pv rfl rfl ?_
    refine vo_nil ?_
    refine hK2 _ ?_
    refine vc_ret ?_
    change retPv _ _ _ _ _
    refine retPv_mk rfl rfl rfl ⟨?_, rfl⟩
    refine (congrArg (fun b => [bo b]) (?_ : _ = _) : [bo _] = [bo _])
    exact bF fun h => hg1 h.1


theorem implDepthFirst_sat {nl0 : Option Bool} {bases : List (List Int)} {c : Int} (hbases : bases.length < 1000000000) (hlbases : ∀ l ∈ bases, l.length < 1000000000)  : SatAt Try.prog 41 [.pv false (.sl nl0 1 (bases.map ints)), i64 c] [] (fun res rows => ∃ nl, res = [.ref 0] ∧ rows = [Row.own 3 1 nl true ((dfR bases c).map intP)]) := by
  refine sat_entry_g (ts := [4]) Try.func41 rfl rfl (by decide) (Nat.le_of_ble_eq_true rfl) fun C hC => ?_
  rw [Try.ntmps41]
  replace hC : C.nb = 0 := hC
  refine vc_seq fun K1 hK1 => ?_
  refine vc_region ?_
  refine vo_assign_pv rfl rfl ?_
  refine vo_nil ?_
  refine hK1 _ ?_
  refine vc_seq fun K2 hK2 => ?_
  refine vc_seq fun K3 hK3 => ?_
  refine vc_region ?_
  refine vo_move_pv rfl rfl ?_
  refine vo_move_pv rfl rfl ?_
  refine vo_call0 Try.func73 rfl rfl rfl rfl (canWalk_sat hbases hlbases) ?_
  rintro _ _ ⟨rfl, rfl⟩
  refine ⟨rfl, rfl, .inl rfl, ?_⟩
  refine vo_not rfl rfl ?_
  refine vo_nil ?_
  refine hK3 _ ?_
  refine vc_cond rfl (fun hc1 => ?_) (fun hc1 => ?_)
  · try simp only [decide_eq_true_eq, decide_eq_false_iff_not, beq_iff_eq, bne_iff_ne, beq_eq_false_iff_ne, bne_eq_false_iff_eq, Bool.not_eq_true, Bool.not_eq_false, Bool.not_eq_eq_eq_not, Bool.not_true, Bool.not_false, List.length_map, Int.not_lt, Int.not_le, ne_eq, Decidable.not_not] at hc1
    refine vc_seq fun K4 hK4 => ?_
    refine vc_region ?_
    refine vo_assign_pv rfl rfl ?_
    refine vo_nil ?_
    refine hK4 _ ?_
    refine vc_own_nil 4 E25 rfl ?_
    refine vc_ret ?_
    change retG _ _ _ _ _
    refine retG_one 0 hC rfl rfl rfl rfl rfl ?_
    exact ⟨_, rfl, rows_eq (g := intP) ((dfR_no hc1).symm)⟩
  · try simp only [decide_eq_true_eq, decide_eq_false_iff_not, beq_iff_eq, bne_iff_ne, beq_eq_false_iff_ne, bne_eq_false_iff_eq, Bool.not_eq_true, Bool.not_eq_false, Bool.not_eq_eq_eq_not, Bool.not_true, Bool.not_false, List.length_map, Int.not_lt, Int.not_le, ne_eq, Decidable.not_not] at hc1
    obtain ⟨⟨hv, h0, h1⟩, h9⟩ := hc1
    obtain ⟨n, rfl⟩ := Int.eq_ofNat_of_zero_le h0
    have hn : n < bases.length := by omega
    have hcw : cwP bases n := ⟨⟨hv, h0, h1⟩, h9⟩
    have hwl := wkM_lt hv hn
    refine vc_skip ?_
    refine hK2 _ ?_
    refine vc_seq fun K5 hK5 => ?_
    refine vc_region ?_
    refine vo_move_pv rfl rfl ?_
    refine vo_move_pv rfl rfl ?_
    refine vo_call [] Try.func74 rfl rfl rfl rfl rfl rfl rfl (walkFrom_sat hbases hlbases hv n hn) ?_
    rintro _ _ ⟨nl8, rfl, rfl⟩
    refine ⟨Nat.le_of_ble_eq_true rfl, ⟨rfl, rfl, rfl⟩, .inl rfl, ?_⟩
    refine vo_stN ?_
    refine vo_expose 0 (by omega) rfl ?_
    refine vo_weaken 11 rfl ?_
    refine vo_stN ?_
    refine vo_call [] Try.func76 rfl rfl rfl rfl rfl rfl rfl (eachOnce_sat (list := wkM bases n) (by omega)) ?_
    rintro _ _ ⟨nl9, rfl, rfl⟩
    refine ⟨Nat.le_of_ble_eq_true rfl, ⟨rfl, rfl, rfl⟩, .inl rfl, ?_⟩
    refine vo_stN ?_
    refine vo_assign_ref rfl rfl ?_
    refine vo_nil ?_
    refine hK5 _ ?_
    refine vc_ret ?_
    change retG _ _ _ _ _
    refine retG_one 1 hC rfl rfl rfl rfl rfl ?_
    exact ⟨_, rfl, rows_eq (g := intP) ((dfR_yes hcw).symm)⟩


theorem specDepthFirst_sat {nl0 : Option Bool} {bases : List (List Int)} {c : Int} (hbases : bases.length < 1000000000) (hlbases : ∀ l ∈ bases, l.length < 1000000000)  : SatAt Try.prog 42 [.pv false (.sl nl0 1 (bases.map ints)), i64 c] [] (fun res rows => ∃ nl, res = [.ref 0] ∧ rows = [Row.own 3 1 nl true ((dfR bases c).map intP)]) := by
  refine sat_entry_g (ts := [4]) Try.func42 rfl rfl (by decide) (Nat.le_of_ble_eq_true rfl) fun C hC => ?_
  rw [Try.ntmps42]
  replace hC : C.nb = 0 := hC
  refine vc_seq fun K1 hK1 => ?_
  refine vc_region ?_
  refine vo_assign_pv rfl rfl ?_
  refine vo_nil ?_
  refine hK1 _ ?_
  refine vc_seq fun K2 hK2 => ?_
  refine vc_seq fun K3 hK3 => ?_
  refine vc_region ?_
  refine vo_move_pv rfl rfl ?_
  refine vo_move_pv rfl rfl ?_
  refine vo_call0 Try.func77 rfl rfl rfl rfl (validWalk_sat hbases hlbases) ?_
  rintro _ _ ⟨rfl, rfl⟩
  refine ⟨rfl, rfl, .inl rfl, ?_⟩
  refine vo_not rfl rfl ?_
  refine vo_nil ?_
  refine hK3 _ ?_
  refine vc_cond rfl (fun hc1 => ?_) (fun hc1 => ?_)
  · try simp only [decide_eq_true_eq, decide_eq_false_iff_not, beq_iff_eq, bne_iff_ne, beq_eq_false_iff_ne, bne_eq_false_iff_eq, Bool.not_eq_true, Bool.not_eq_false, Bool.not_eq_eq_eq_not, Bool.not_true, Bool.not_false, List.length_map, Int.not_lt, Int.not_le, ne_eq, Decidable.not_not] at hc1
    refine vc_seq fun K4 hK4 => ?_
    refine vc_region ?_
    refine vo_assign_pv rfl rfl ?_
    refine vo_nil ?_
    refine hK4 _ ?_
    refine vc_own_nil 4 E25 rfl ?_
    refine vc_ret ?_
    change retG _ _ _ _ _
    refine retG_one 0 hC rfl rfl rfl rfl rfl ?_
    exact ⟨_, rfl, rows_eq (g := intP) ((dfR_no hc1).symm)⟩
  · try simp only [decide_eq_true_eq, decide_eq_false_iff_not, beq_iff_eq, bne_iff_ne, beq_eq_false_iff_ne, bne_eq_false_iff_eq, Bool.not_eq_true, Bool.not_eq_false, Bool.not_eq_eq_eq_not, Bool.not_true, Bool.not_false, List.length_map, Int.not_lt, Int.not_le, ne_eq, Decidable.not_not] at hc1
    obtain ⟨⟨hv, h0, h1⟩, h9⟩ := hc1
    obtain ⟨n, rfl⟩ := Int.eq_ofNat_of_zero_le h0
    have hn : n < bases.length := by omega
    have hcw : cwP bases n := ⟨⟨hv, h0, h1⟩, h9⟩
    have hwl := wkM_lt hv hn
    refine vc_skip ?_
    refine hK2 _ ?_
    refine vc_seq fun K5 hK5 => ?_
    refine vc_region ?_
    refine vo_buildSlice E25 rfl rfl rfl rfl rfl ?_
    refine vo_assign_ref rfl rfl ?_
    refine vo_nil ?_
    refine hK5 _ ?_
    refine vc_seq fun K6 hK6 => ?_
    refine vc_region ?_
    refine vo_move_pv rfl rfl ?_
    refine vo_move_pv rfl rfl ?_
    refine vo_call [] Try.func78 rfl rfl rfl rfl rfl rfl rfl (walk_sat hbases hlbases hv n hn) ?_
    rintro _ _ ⟨nl8, rfl, rfl⟩
    refine ⟨Nat.le_of_ble_eq_true rfl, ⟨rfl, rfl, rfl⟩, .inl rfl, ?_⟩
    refine vo_stN ?_
    refine vo_assign_ref rfl rfl ?_
    refine vo_nil ?_
    refine hK6 _ ?_
    refine vc_seq fun K7 hK7 => ?_
    refine vc_seq fun K8 hK8 => ?_
    refine vc_region ?_
    refine vo_assign_pv rfl rfl ?_
    refine vo_nil ?_
    refine hK8 _ ?_
    refine vc_block ?_
    refine vc_stN ?_
    refine vc_loop [5, 6, 7] (fun mz vs rows => ∃ (k : Nat), mz = (wkM bases n).length - k ∧ (k ≤ (wkM bases n).length) ∧ vs = [.ref 0, .ref 1, i64 k] ∧ rows = [Row.own 3 1 (some false) true ((onceF [] ((wkM bases n).take k)).map intP), Row.own 3 1 nl8 true (((wkM bases n)).map intP)]) ((wkM bases n).length) (le_len hC rfl) ⟨rfl, rfl⟩ ⟨0, rfl, Nat.zero_le _, rfl, rfl⟩ ?_
    rintro mz vs rows - - ⟨k, rfl, hk, rfl, rfl⟩
    have hL := Nat.le_trans (onceL_len ((wkM bases n).take k)) (List.length_take_le k (wkM bases n))
    refine vc_seq fun K9 hK9 => ?_
    refine vc_seq fun K10 hK10 => ?_
    refine vc_region ?_
    refine vo_move_pv rfl rfl ?_
    refine vo_move_ref rfl rfl ?_
    refine vo_len_ref rfl rfl rfl Try.underlying25 ?_
    refine vo_binI rfl rfl rfl rfl trivial ?_
    refine vo_nil ?_
    refine hK10 _ ?_
    refine vc_cond rfl (fun hc2 => ?_) (fun hc2 => ?_)
    · try simp only [decide_eq_true_eq, decide_eq_false_iff_not, beq_iff_eq, bne_iff_ne, beq_eq_false_iff_ne, bne_eq_false_iff_eq, Bool.not_eq_true, Bool.not_eq_false, Bool.not_eq_eq_eq_not, Bool.not_true, Bool.not_false, List.length_map, Int.not_lt, Int.not_le, ne_eq, Decidable.not_not] at hc2
      refine vc_skip ?_
      refine hK9 _ ?_
      refine vc_seq fun K11 hK11 => ?_
      refine vc_block ?_
      refine vc_seq fun K12 hK12 => ?_
      refine vc_region ?_
      refine vo_move_ref rfl rfl ?_
      refine vo_move_ref rfl rfl ?_
      refine vo_move_pv rfl rfl ?_
      refine vo_index_ref rfl rfl rfl rfl E25.und inf3 sz3 sd sd ?_
      try simp only [Int.toNat_natCast]
      refine vo_load_own rfl rfl rfl Try.underlying3 rfl sd (getD_ints _ _) rfl ?_
      try simp only [Int.toNat_natCast]
      refine vo_call0 Try.func69 rfl rfl rfl rfl (placeIn_sat (by omega)) ?_
      rintro _ _ ⟨rfl, rfl⟩
      refine ⟨rfl, rfl, .inr rfl, ?_⟩
      refine vo_binI rfl rfl rfl rfl trivial ?_
      refine vo_nil ?_
      refine hK12 _ ?_
      refine vc_cond rfl (fun hc3 => ?_) (fun hc3 => ?_)
      · try simp only [decide_eq_true_eq, decide_eq_false_iff_not, beq_iff_eq, bne_iff_ne, beq_eq_false_iff_ne, bne_eq_false_iff_eq, Bool.not_eq_true, Bool.not_eq_false, Bool.not_eq_eq_eq_not, Bool.not_true, Bool.not_false, List.length_map, Int.not_lt, Int.not_le, ne_eq, Decidable.not_not] at hc3
        refine vc_region ?_
        refine vo_move_ref rfl rfl ?_
        refine vo_move_ref rfl rfl ?_
        refine vo_move_pv rfl rfl ?_
        refine vo_index_ref rfl rfl rfl rfl E25.und inf3 sz3 sd sd ?_
        try simp only [Int.toNat_natCast]
        refine vo_load_own rfl rfl rfl Try.underlying3 rfl sd (getD_ints _ _) rfl ?_
        try simp only [Int.toNat_natCast]
        refine vo_buildSlice E25 rfl rfl rfl rfl rfl ?_
        refine vo_append E25 rfl (by omega) rfl rfl rfl sd sd ?_
        refine vo_stN ?_
        try simp only [app_ints, app_intss, app_bools]
        refine vo_assign_ref rfl rfl ?_
        refine vo_nil ?_
        refine hK11 _ ?_
        refine vc_region ?_
        refine vo_move_pv rfl rfl ?_
        refine vo_binI rfl rfl rfl rfl sd ?_
        refine vo_assign_pv rfl rfl ?_
        refine vo_nil ?_
        change again _ _ _ _ _ _
        refine again_mk rfl rfl rfl rfl ⟨_, ?_, k + 1, rfl, ?_, rfl, (congrArg (fun l => [Row.own 3 1 (some false) true (List.map intP l), Row.own 3 1 nl8 true (((wkM bases n)).map intP)]) (show onceF [] ((wkM bases n).take k) ++ [(wkM bases n).getD k 0] = onceF [] ((wkM bases n).take (k+1)) by rw [once_succ (by omega), if_neg ((findM_not _ _ 0 (by omega)).1 (by omega))]))⟩
        · omega
        · omega
      · try simp only [decide_eq_true_eq, decide_eq_false_iff_not, beq_iff_eq, bne_iff_ne, beq_eq_false_iff_ne, bne_eq_false_iff_eq, Bool.not_eq_true, Bool.not_eq_false, Bool.not_eq_eq_eq_not, Bool.not_true, Bool.not_false, List.length_map, Int.not_lt, Int.not_le, ne_eq, Decidable.not_not] at hc3
        refine vc_skip ?_
        refine hK11 _ ?_
        refine vc_region ?_
        refine vo_move_pv rfl rfl ?_
        refine vo_binI rfl rfl rfl rfl sd ?_
        refine vo_assign_pv rfl rfl ?_
        refine vo_nil ?_
        change again _ _ _ _ _ _
        refine again_mk rfl rfl rfl rfl ⟨_, ?_, k + 1, rfl, ?_, rfl, (congrArg (fun l => [Row.own 3 1 (some false) true (List.map intP l), Row.own 3 1 nl8 true (((wkM bases n)).map intP)]) (show onceF [] ((wkM bases n).take k) = onceF [] ((wkM bases n).take (k+1)) by rw [once_succ (by omega), if_pos ((findM_mem _ _ 0 (by omega)).1 (by omega))]))⟩
        · omega
        · omega
    · try simp only [decide_eq_true_eq, decide_eq_false_iff_not, beq_iff_eq, bne_iff_ne, beq_eq_false_iff_ne, bne_eq_false_iff_eq, Bool.not_eq_true, Bool.not_eq_false, Bool.not_eq_eq_eq_not, Bool.not_true, Bool.not_false, List.length_map, Int.not_lt, Int.not_le, ne_eq, Decidable.not_not] at hc2
      refine vc_exit ?_
      refine hK7 _ ?_
      refine vc_seq fun K13 hK13 => ?_
      refine vc_region ?_
      refine vo_move_ref rfl rfl ?_
      refine vo_assign_ref rfl rfl ?_
      refine vo_nil ?_
      refine hK13 _ ?_
      refine vc_ret ?_
      change retG _ _ _ _ _
      refine retG_one 0 hC rfl rfl rfl rfl rfl ?_
      exact ⟨_, rfl, rows_eq (g := intP) (by rw [dfR_yes hcw, take_all (by omega)]; rfl)⟩

end Go.Vl

namespace Go.Vl
set_option linter.unusedVariables false
set_option linter.unusedSimpArgs false
open Go.Proofs
def srtL (l : List Int) (n : Nat) : List Int := ((List.range n).filter (fun (i : Nat) => decide ((i : Int) ∈ l))).map (fun (i : Nat) => (i : Int))
theorem srt_succ (l : List Int) (n : Nat) : srtL l (n+1) = if (n : Int) ∈ l then srtL l n ++ [(n : Int)] else srtL l n := by
  unfold srtL
  rw [List.range_succ, List.filter_append, List.map_append]
  by_cases h : (n : Int) ∈ l <;> simp [h]
theorem srt_len (l : List Int) (n : Nat) : (srtL l n).length ≤ n := by
  unfold srtL
  rw [List.length_map]
  exact Nat.le_trans (List.length_filter_le _ _) (by simp)
theorem srt_abv {b : List (List Int)} {c : Nat} {l : List Int} (hv : VB b) (hc : c < b.length) (h : ∀ i : Nat, (i : Int) ∈ l ↔ Abv b c i) : srtL l b.length = abvR b c := by
  rw [abvR_of hv hc]
  unfold srtL abvL idxB idxT
  rw [abvB_len]
  congr 1
  refine List.filter_congr fun i _ => ?_
  have h5 : (i : Int) ∈ l ↔ (abvB b c).getD i false = true := by rw [h i, abvB_iff hv.bd' hc i]
  by_cases h6 : (i : Int) ∈ l
  · rw [decide_eq_true h6, h5.1 h6]
  · rw [decide_eq_false h6]
    exact (Bool.eq_false_iff.2 (fun e => h6 (h5.2 e))).symm
theorem wk_mem {b : List (List Int)} (hv : VB b) {c : Nat} (hc : c < b.length) (y : Int) : y ∈ wkM b c ↔ y = c ∨ ∃ x ∈ b.getD c [], y ∈ wkM b x.toNat := by
  show y ∈ _ :: _ ↔ _
  rw [List.mem_cons, List.mem_flatMap]
  constructor
  · rintro (h | ⟨x, hx, h⟩)
    · exact .inl h
    · exact .inr ⟨x, hx, by rwa [wkT_at hv hc hx] at h⟩
  · rintro (h | ⟨x, hx, h⟩)
    · exact .inl h
    · exact .inr ⟨x, hx, by rwa [wkT_at hv hc hx]⟩
theorem wk_bd {b : List (List Int)} (hv : VB b) : ∀ c, c < b.length → ∀ y ∈ wkM b c, 0 ≤ y ∧ y ≤ c := by
  intro c
  induction c using Nat.strongRecOn with
  | ind c ih =>
    intro hc y hy
    rcases (wk_mem hv hc y).1 hy with h | ⟨x, hx, h⟩
    · omega
    · have hb := (hv.at hc).2.2 x hx
      have := ih x.toNat (by omega) (by omega) y h
      omega
theorem wk_abv {b : List (List Int)} (hv : VB b) : ∀ c, c < b.length → ∀ i : Nat, (i : Int) ∈ wkM b c ↔ Abv b c i := by
  intro c
  induction c using Nat.strongRecOn with
  | ind c ih =>
    intro hc i
    rw [wk_mem hv hc]
    constructor
    · rintro (h | ⟨x, hx, h⟩)
      · rw [show i = c by omega]; exact .refl c
      · have hb := (hv.at hc).2.2 x hx
        exact .step (d := x.toNat) (by rw [show ((x.toNat : Nat) : Int) = x by omega]; exact hx) ((ih x.toNat (by omega) (by omega) i).1 h)
    · intro h
      cases h with
      | refl => exact .inl rfl
      | @step _ d _ h1 h2 =>
        have hb := (hv.at hc).2.2 d h1
        exact .inr ⟨d, h1, (ih d (by omega) (by omega) i).2 h2⟩
theorem once_mem : ∀ (l acc : List Int) (y : Int), y ∈ onceF acc l ↔ y ∈ acc ∨ y ∈ l
  | [], acc, y => by simp [onceF]
  | x :: l, acc, y => by
    rw [onceF, once_mem l]
    by_cases h : x ∈ acc
    · rw [if_pos h, List.mem_cons]
      constructor
      · rintro (h1 | h1)
        · exact .inl h1
        · exact .inr (.inr h1)
      · rintro (h1 | rfl | h1)
        · exact .inl h1
        · exact .inl h
        · exact .inr h1
    · rw [if_neg h, List.mem_append, List.mem_singleton, List.mem_cons]
      constructor
      · rintro ((h1 | h1) | h1)
        · exact .inl h1
        · exact .inr (.inl h1)
        · exact .inr (.inr h1)
      · rintro (h1 | h1 | h1)
        · exact .inl (.inl h1)
        · exact .inl (.inr h1)
        · exact .inr h1
theorem once_pre : ∀ (l acc : List Int), ∃ r, onceF acc l = acc ++ r
  | [], acc => ⟨[], by simp [onceF]⟩
  | x :: l, acc => by
    rw [onceF]
    split
    · exact once_pre l acc
    · obtain ⟨r, hr⟩ := once_pre l (acc ++ [x])
      exact ⟨[x] ++ r, by rw [hr, List.append_assoc]⟩
theorem once_app : ∀ (l1 l2 acc : List Int), onceF acc (l1 ++ l2) = onceF (onceF acc l1) l2
  | [], _, _ => rfl
  | x :: l1, l2, acc => by rw [List.cons_append, onceF, onceF, once_app l1]
theorem once_cons : ∀ (l acc : List Int) (c : Int), c ∉ l → onceF (c :: acc) l = c :: onceF acc l
  | [], _, _, _ => rfl
  | x :: l, acc, c, h => by
    have h1 : x ≠ c := fun e => h (e ▸ List.mem_cons_self)
    have h2 : c ∉ l := fun e => h (List.mem_cons_of_mem _ e)
    rw [onceF, onceF]
    by_cases hx : x ∈ acc
    · rw [if_pos hx, if_pos (List.mem_cons_of_mem _ hx)]; exact once_cons l acc c h2
    · rw [if_neg hx, if_neg (by simp [h1, hx]), List.cons_append]; exact once_cons l (acc ++ [x]) c h2
theorem df_cons {b : List (List Int)} {c : Nat} (hw : cwP b c) : ∃ r, dfR b c = (c : Int) :: r := by
  rw [dfR_yes hw]
  show ∃ r, onceF [] ((c : Int) :: _) = _
  rw [onceF]
  obtain ⟨r, hr⟩ := once_pre ((b.getD c []).flatMap (fun x => (wkT b c).getD x.toNat [])) [(c : Int)]
  exact ⟨r, by simpa using hr⟩
theorem df_part {b : List (List Int)} {c : Nat} (hw : cwP b c) (h0 : c ≠ 0) : cwP b ((b.getD c []).getD 0 0) ∧ ∃ r, dfR b c = (c : Int) :: (dfR b ((b.getD c []).getD 0 0) ++ r) := by
  obtain ⟨⟨hv, h1, h2⟩, h3⟩ := hw
  have hc : c < b.length := by omega
  have hCB := hv.2.2.2 c hc (by omega)
  have hpos : 0 < (b.getD c []).length := List.length_pos_iff.2 hCB.1
  have hm := getD_mem hpos 0
  have hb := (hv.at hc).2.2 _ hm
  have hw2 : cwP b ((b.getD c []).getD 0 0) := ⟨⟨hv, hb.1, by omega⟩, by omega⟩
  refine ⟨hw2, ?_⟩
  rw [dfR_yes hw2, dfR_yes ⟨⟨hv, h1, h2⟩, h3⟩]
  obtain ⟨r2, hr2⟩ : ∃ r2, wkM b c = (c : Int) :: (wkM b ((b.getD c []).getD 0 0).toNat ++ r2) := by
    unfold wkM wkS
    cases hl : b.getD c [] with
    | nil => exact absurd hl hCB.1
    | cons x l =>
      have hx := wkT_at hv hc (x := x) (by rw [hl]; exact List.mem_cons_self)
      refine ⟨l.flatMap (fun x => (wkT b c).getD x.toNat []), ?_⟩
      rw [List.flatMap_cons, hx]; rfl
  show ∃ r, onceF [] (wkM b c) = _
  rw [hr2]
  rw [onceF, if_neg (by simp), List.nil_append, once_app, once_cons _ [] _ (fun hm2 => by have := wk_bd hv _ (by omega) _ hm2; omega)]
  obtain ⟨r, hr⟩ := once_pre r2 ((c : Int) :: onceF [] (wkM b ((b.getD c []).getD 0 0).toNat))
  exact ⟨r, by rw [hr]; rfl⟩
theorem df_srt {b : List (List Int)} {c : Nat} (hw : cwP b c) : srtL (dfR b c) b.length = abvR b c :=
  srt_abv hw.1.1 (by have := hw.1; omega) fun i => by
    rw [dfR_yes hw]
    rw [once_mem]
    have := wk_abv hw.1.1 c (by have := hw.1; omega) i
    simpa using this

end Go.Vl

/- '!=' on structs of two numbers. -/
namespace Go.Vl
set_option linter.unusedVariables false
set_option linter.unusedSimpArgs false
open Go.RowKit

section
variable {P : Program} {C : Ctx} {Q : Go.Exit → St → Prop} {s : St} {ops : Array Oper} {rest : List Oper} {t : Nat} {ty : TypeId} {pos : String} {af : Array Edge}

theorem lt_neqS2 {xt yt : TypeId} {x y : Operand} {a1 a2 b1 b2 : Int} {f1 f2 : Bool} (h : EqI2 P xt) (hx : getO s.env x = .pv f1 (.agg [.int .i64 a1, .int .i64 a2])) (hy : getO s.env y = .pv f2 (.agg [.int .i64 b1, .int .i64 b2])) :
    Lt P C s ⟨some t, .binOp .neq xt x y yt, ty, pos, af, none⟩ (.pv true (.bool (!(a1 == b1 && a2 == b2)))) := by
  intro m a w hs
  have e1 := hs.get x
  rw [hx] at e1
  have e1 := e1.pv_inv.agg2
  have e2 := hs.get y
  rw [hy] at e2
  have e2 := e2.pv_inv.agg2
  refine ⟨_, fun w' _ => ?_, .pv _ _ _ (.bool _)⟩
  have hg : (eqGuard .neq xt x y (.agg #[.int .i64 a1, .int .i64 a2]) (.agg #[.int .i64 b1, .int .i64 b2])).run P w' = .ok () w' := run_eqGuard_agg w' .neq xt x y _ _ h.2
  have hb : (binOp .neq xt (.agg #[.int .i64 a1, .int .i64 a2]) (.agg #[.int .i64 b1, .int .i64 b2])).run P w' = .ok (.bool (!(a1 == b1 && a2 == b2))) w' := by
    rw [run_neq_struct, h.1]; rfl
  simp only [execOp, e1, e2, Sem.run_bind, hg, Result.andThen_ok, hb]
  rfl

theorem vo_neqS2 {xt yt : TypeId} {x y : Operand} {a1 a2 b1 b2 : Int} {f1 f2 : Bool} (h : EqI2 P xt) (ht : Nat.blt t s.n = true) (hx : getO s.env x = .pv f1 (.agg [.int .i64 a1, .int .i64 a2])) (hy : getO s.env y = .pv f2 (.agg [.int .i64 b1, .int .i64 b2]))
    (next : VO P C ops rest Q (s.put t (.pv true (.bool (!(a1 == b1 && a2 == b2)))))) : VO P C ops (⟨some t, .binOp .neq xt x y yt, ty, pos, af, none⟩ :: rest) Q s :=
  vo_pure ht (lt_neqS2 h hx hy) next
end
section
variable {P : Program}
theorem run_results5 {fn : Func} {ts : List Nat} (h : fn.results = (ts.map ResultVar.tmp).toArray) (hl : ts.length ≤ 5) (tmps : Array Value) (P : Program) (w : World) :
    (results fn tmps).run P w = .ok (pack (ts.map fun t => tmps.getD t undef).toArray) w := by
  match ts, hl with
  | [], _ => simp [results, h, pack]
  | [a], _ => simp [results, h, pack]
  | [a, b], _ => simp [results, h, pack]
  | [a, b, c], _ => simp [results, h, pack]
  | [a, b, c, d], _ => simp [results, h, pack]
  | [a, b, c, d, e], _ => simp [results, h, pack]

theorem sat_entry_g5 {f : FuncId} {fn : Func} {c : Code} {args : List SV} {rows : List Row} {R : List SV → List Row → Prop} {ts : List Nat} (hf : P.funcs[f]? = some fn) (hb : fn.body = some c)
    (hr : fn.results = (ts.map ResultVar.tmp).toArray) (hl : ts.length ≤ 5) (hn : args.length ≤ fn.ntmps)
    (h : ∀ C : Ctx, C.nb = rows.length → VC P C c (retG C ts R) ⟨fn.ntmps, enumE 0 args, rows⟩) : SatAt P f args rows R := by
  intro C m vals hnb hA hv hs
  refine calls_of_wp hf hb ?_
  have hs2 : SimM C ⟨fn.ntmps, enumE 0 args, rows⟩ m { tmps := vals ++ Array.replicate (fn.ntmps - vals.size) undef, defers := [] } C.w0 := by
    refine { hs with size := ?_, env := fun t => ?_, defs := rfl }
    · simp; omega
    · have := hs.env t
      show RS _ _ _ _ (look (enumE 0 args) t) _
      change RS _ _ _ _ (look (enumE 0 args) t) _ at this
      by_cases ht : t < vals.size
      · have e : (vals ++ Array.replicate (fn.ntmps - vals.size) undef).getD t undef = vals.getD t undef := by
          simp [Array.getD, ht]
          intro hh; omega
        rw [e]
        exact this
      · have e : look (enumE 0 args) t = .any := by
          rw [look_enumE]
          simp
          rw [List.getElem?_eq_none (by omega)]
          rfl
        rw [e]
        exact .any _
  refine wp_mono (h C hnb _ _ ⟨m, hs2⟩) ?_
  rintro e a w' ⟨s', ⟨m', hs'⟩, he, res, rows', hlen, hh, hR⟩
  obtain ⟨m2, hm2⟩ := hh m' a w' hs'
  have key : ∃ v, (results fn a.tmps).run P w' = .ok v w' ∧ (∃ (us : Array Value) (res : List SV) (rows' : List Row) (m' : Nat → MV), Ending.returned v = .returned (pack us) ∧ us.size = res.length ∧
      SimM C ⟨us.size, enumE 0 res, rows'⟩ m' ⟨us, []⟩ w' ∧ R res rows') := by
    refine ⟨_, run_results5 hr hl a.tmps P w', (ts.map fun t => a.tmps.getD t undef).toArray, res, rows', m2, rfl, by simp [hlen], ?_, hR⟩
    have e : (ts.map fun t => a.tmps.getD t undef).toArray.size = ts.length := by simp
    rw [e]
    exact hm2
  obtain ⟨v, hv1, hv2⟩ := key
  rcases he with rfl | rfl
  · exact ⟨hs'.defs, v, hv1, hv2⟩
  · exact ⟨hs'.defs, v, hv1, hv2⟩

end
end Go.Vl

/- What yields the same in every world may be taken first, whatever else comes. -/
namespace Go.Vl
set_option linter.unusedVariables false
set_option linter.unusedSimpArgs false
open Go.RowKit

section
variable {P : Program} {ops : Array Oper} {Q : Go.Exit → Act → World → Prop}

def yields0 (P : Program) (ops : Array Oper) (o : Oper) (v : Value) (a : Act) : Prop :=
  (Region.wanted o (yielded ops a.tmps) = true ∧ ∀ w, (execOp a.eval o).run P w = .ok (.value v) w) ∨ (Region.wanted o (yielded ops a.tmps) = false ∧ v = undef)

theorem yields0.step {o : Oper} {v : Value} {a a' : Act} (h : yields0 P ops o v a) (he : execOp a'.eval o = execOp a.eval o)
    (hw : Region.wanted o (yielded ops a'.tmps) = Region.wanted o (yielded ops a.tmps)) : yields0 P ops o v a' := by
  unfold yields0 at *
  rw [he, hw]
  exact h

theorem yields0.op {i : Nat} {o : Oper} {v : Value} {a : Act} {w : World} (hi : ops[i]? = some o) (hy : yields0 P ops o v a) {K : Act → World → Prop} (h : K (a.put o.dst v) w) : wpOp P ops Q i K a w := by
  unfold wpOp
  simp only [hi]
  rcases hy with ⟨hw, hv⟩ | ⟨hw, rfl⟩
  · simp only [hw, if_true, Oper.wp, hv w, Oper.upon]; exact .inl h
  · simp only [hw, Bool.false_eq_true, if_false]; exact h

theorem op_before0 {j : Nat} {oi oj : Oper} {v : Value} (hj : ops[j]? = some oj) (hap : oi.apart ops oj = true) (hsi : ∀ cs b, oi.op ≠ .select cs b) (hsj : ∀ cs b, oj.op ≠ .select cs b)
    (hQ : ∀ c a w, ¬ Q (.panic c) a w) {K : Act → World → Prop} {a : Act} {w : World} (hy : yields0 P ops oi v a) (h : wpOp P ops Q j K (a.put oi.dst v) w) :
    wpOp P ops Q j (fun a' w' => yields0 P ops oi v a' ∧ K (a'.put oi.dst v) w') a w := by
  obtain ⟨h1, h2, h3⟩ := Oper.apart_spec hap
  have keep : ∀ (u : Value), yields0 P ops oi v (a.put oj.dst u) := fun u => hy.step (execOp_put oi hsi a oj.dst u h3) (wanted_put oi a oj.dst u h3)
  have fin : ∀ (u : Value) (w' : World), K ((a.put oi.dst v).put oj.dst u) w' → yields0 P ops oi v (a.put oj.dst u) ∧ K ((a.put oj.dst u).put oi.dst v) w' := by
    intro u w' hk
    exact ⟨keep u, by rw [← Act.put_comm a v u h2]; exact hk⟩
  unfold wpOp at *
  simp only [hj] at *
  rw [wanted_put oj a oi.dst v h1] at h
  by_cases hw : Region.wanted oj (yielded ops a.tmps) = true
  · rw [if_pos hw] at h ⊢
    rcases h with h | ⟨hasks, hlets⟩
    · left
      unfold Oper.wp at *
      rw [execOp_put oj hsj a oi.dst v h1] at h
      generalize (execOp a.eval oj).run P w = r at *
      cases r with
      | ok n w' =>
        cases n with
        | value u => exact fin u w' h
        | skip => exact fin undef w' h
        | defer d =>
          simp only [Oper.upon] at h ⊢
          refine ⟨?_, by rw [← Act.put_comm _ v undef h2, ← Act.put_defers]; exact h⟩
          have hy1 : yields0 P ops oi v { a with defers := d :: a.defers } := hy.step rfl rfl
          exact hy1.step (execOp_put oi hsi _ oj.dst undef h3) (wanted_put oi _ oj.dst undef h3)
        | enter f args =>
          simp only [Oper.upon] at h ⊢
          refine h.mono fun e w'' he => ?_
          cases e with
          | returned u => exact fin u w'' he
          | panicked c => exact (hQ _ _ _ he).elim
          | outgrown => exact he
        | row row args => exact Rows.mono h fun u w'' he => fin u w'' he
        | _ => exact h
      | halt x w' =>
        cases x <;> simp only [Oper.upon] at h ⊢
        exact (hQ _ _ _ h).elim
    · right
      refine ⟨?_, hlets⟩
      unfold Oper.asks at *
      rw [execOp_put oj hsj a oi.dst v h1] at hasks
      exact hasks
  · rw [if_neg hw] at h ⊢
    exact fin undef w h

theorem anyL_first0 {late : List Nat} {i : Nat} {oi : Oper} {v : Value} (hi : ops[i]? = some oi) (hsel : ∀ (j : Nat) (o : Oper) cs b, ops[j]? = some o → o.op ≠ .select cs b) (hQ : ∀ c a w, ¬ Q (.panic c) a w) :
    ∀ (n : Nat) (listed : Array Bool) (a : Act) (w : World),
      (∀ j oj, ops[j]? = some oj → j ≠ i → listed.getD j true = false → (∀ e ∈ oj.after, Region.binds .any e = true → e.on ≠ i) → oi.apart ops oj = true) →
      i ∈ Region.ready .any ops listed → yields0 P ops oi v a → anyL late P ops Q n (listed.setIfInBounds i true) (a.put oi.dst v) w → anyL late P ops Q (n + 1) listed a w := by
  intro n
  induction n with
  | zero =>
    intro listed a w _ hr hy H
    refine ⟨fun h => (by rw [h] at hr; cases hr), fun j hj => ?_⟩
    by_cases hji : j = i
    · subst hji; exact hy.op hi ⟨.inl (ExtW.refl w), H⟩
    · have := ready_mono hj hji
      rw [H.1] at this
      cases this
  | succ n ih =>
    intro listed a w hfree hr hy H
    refine ⟨fun h => (by rw [h] at hr; cases hr), fun j hj => ?_⟩
    by_cases hji : j = i
    · subst hji; exact hy.op hi ⟨.inl (ExtW.refl w), H⟩
    · have g1 := H.2 j (ready_mono hj hji)
      obtain ⟨hjun, oj, hoj, hall⟩ := mem_ready.1 hj
      have hnot : ∀ e ∈ oj.after, Region.binds .any e = true → e.on ≠ i := by
        intro e he hb heq
        have l1 := hall e he hb
        have l0 := (mem_ready.1 hr).1
        rw [heq] at l1
        rcases Nat.lt_or_ge i listed.size with h' | h'
        · simp [h'] at l0 l1
          rw [l0] at l1
          cases l1
        · simp [Array.getElem?_eq_none h'] at l1
      have g2 := op_before0 hoj (hfree j oj hoj hji hjun hnot) (fun cs b => hsel i oi cs b hi) (fun cs b => hsel j oj cs b hoj) hQ hy g1
      have hfree' : ∀ k ok, ops[k]? = some ok → k ≠ i → (listed.setIfInBounds j true).getD k true = false → (∀ e ∈ ok.after, Region.binds .any e = true → e.on ≠ i) → oi.apart ops ok = true := by
        intro k ok hk hki hun hno
        refine hfree k ok hk hki ?_ hno
        by_cases hjk : j = k
        · subst hjk; exact hjun
        · rw [getD_set_ne true hjk] at hun; exact hun
      refine wpOp_mono (fun a' w' g3 => ⟨g3.2.1, ih (listed.setIfInBounds j true) a' w' hfree' (ready_mono hr (Ne.symm hji)) g3.1 ?_⟩) g2
      rw [Array.setIfInBounds_comm _ _ hji]
      exact g3.2.2
end

/-- The operation hands back a value that no world changes. -/
def Lt0 (P : Program) (C : Ctx) (s : St) (o : Oper) (sv : SV) : Prop :=
  ∀ m a w, SimM C s m a w → ∃ v, (∀ w', (execOp a.eval o).run P w' = .ok (.value v) w') ∧ RS w (Gd C s.rows m w) m s.rows.length sv v

section
variable {late : List Nat} {P : Program} {C : Ctx} {ops : Array Oper} {K : St → Prop} {s : St} {n : Nat} {listed : Array Bool} {t : Nat} {ty : TypeId} {pos : String} {af : Array Edge}

theorem l0_move {x : Operand} : Lt0 P C s ⟨some t, .move x, ty, pos, af, none⟩ (getO s.env x) := fun m a w hs => ⟨a.eval x, fun _ => rfl, hs.get x⟩
theorem l0_move_pv {x : Operand} {f : Bool} {p : PV} (hx : getO s.env x = .pv f p) : Lt0 P C s ⟨some t, .move x, ty, pos, af, none⟩ (.pv f p) := by rw [← hx]; exact l0_move
theorem l0_move_ref {x : Operand} {id : Nat} (hx : getO s.env x = .ref id) : Lt0 P C s ⟨some t, .move x, ty, pos, af, none⟩ (.ref id) := by rw [← hx]; exact l0_move
theorem l0_move_ptr {x : Operand} {id e i o : Nat} (hx : getO s.env x = .ptr id e i o) : Lt0 P C s ⟨some t, .move x, ty, pos, af, none⟩ (.ptr id e i o) := by rw [← hx]; exact l0_move

theorem vl_light0 (i : Nat) {o : Oper} {t : Nat} {sv : SV} (hi : ops[i]? = some o) (hd : o.dst = some t) (ht : Nat.blt t s.n = true) (hr : (Region.ready .any ops listed).contains i = true) (hns : Region.noSelect ops = true)
    (hf : Region.free .any ops listed i = true) (hw : Wnt C ops s o true) (hl : Lt0 P C s { o with guard := none } sv) (next : VL late P C ops n (listed.setIfInBounds i true) K (s.put t sv)) : VL late P C ops (n + 1) listed K s := by
  intro m a w hs
  obtain ⟨v, hrun, hv⟩ := hl m a w hs
  refine anyL_first0 hi (Region.noSelect_spec hns) post0_panic n listed a w (Region.free_spec hi hf) (by simpa using hr) (.inl ⟨hw m a w hs, hrun⟩) ?_
  rw [hd]
  exact next m _ _ (hs.put (blt_lt ht) hv)
end
end Go.Vl

/- A row that holds numbers alone points nowhere. -/
namespace Go.Vl
set_option linter.unusedVariables false
set_option linter.unusedSimpArgs false
open Go.RowKit

theorem clean_row {w : World} {G G' : Bool → Nat → Prop} {m m' : Nat → MV} {N N' : Nat} {mv : MV} {t : TypeId} {e : Nat} {nl : Option Bool} {f : Bool} {xs : List PV} (h : RowOK w G m N mv (.own t e nl f xs)) (hp : ∀ x ∈ xs, ∀ c ∈ x.cells, c.scal = true) :
    RowOK w G' m' N' mv (.own t e nl true xs) := by
  cases h with
  | own v t e nl f xs vs hown h1 h2 hw hr =>
    refine .own v t e nl true xs vs hown h1 h2 hw fun i x j c hx hc => ?_
    obtain ⟨u, hu, hq⟩ := hr i x j c hx hc
    exact ⟨u, hu, hq.scal_any (hp x (List.mem_of_getElem? hx) c (List.mem_of_getElem? hc))⟩

section
variable {P : Program} {C : Ctx} {Q : Go.Exit → St → Prop} {s : St} {ops : Array Oper}

theorem SimM.clean {m : Nat → MV} {a : Act} {w : World} (hs : SimM C s m a w) (id : Nat) {el e : Nat} {nl : Option Bool} {f : Bool} {xs : List PV} (hrow : s.rows[id]? = some (.own el e nl f xs)) (hp : ∀ x ∈ xs, ∀ c ∈ x.cells, c.scal = true) :
    SimM C ⟨s.n, s.env, s.rows.set id (.own el e nl true xs)⟩ m a w :=
  hs.storeRow (w' := w) (bo := none) ⟨_, hrow, rfl⟩ (fun _ e => by cases e) ⟨rfl, rfl, rfl, Nat.le_refl _, fun _ _ _ => rfl⟩ _ (fun hG => clean_row (hs.rows id _ hrow) hp)

theorem scal_ints (l : List Int) : ∀ x ∈ l.map intP, ∀ c ∈ x.cells, c.scal = true := by
  intro x hx c hc
  obtain ⟨n, _, rfl⟩ := List.mem_map.1 hx
  simp [PV.cells] at hc
  subst hc; rfl
theorem vo_clean {l : List Oper} (id : Nat) {el e : Nat} {nl : Option Bool} {f : Bool} {xs : List PV} (hrow : s.rows[id]? = some (.own el e nl f xs)) (hp : ∀ x ∈ xs, ∀ c ∈ x.cells, c.scal = true)
    (next : VO P C ops l Q ⟨s.n, s.env, s.rows.set id (.own el e nl true xs)⟩) : VO P C ops l Q s := fun a w ⟨m, hs⟩ => next a w ⟨m, hs.clean id hrow hp⟩
theorem vc_clean {code : Code} (id : Nat) {el e : Nat} {nl : Option Bool} {f : Bool} {xs : List PV} (hrow : s.rows[id]? = some (.own el e nl f xs)) (hp : ∀ x ∈ xs, ∀ c ∈ x.cells, c.scal = true)
    (next : VC P C code Q ⟨s.n, s.env, s.rows.set id (.own el e nl true xs)⟩) : VC P C code Q s := fun a w ⟨m, hs⟩ => next a w ⟨m, hs.clean id hrow hp⟩
theorem retG_norm {C : Ctx} {ts : List Nat} {R : List SV → List Row → Prop} {s : St} (h : retG C ts R .ret s) : retG C ts R .normal s := ⟨.inl rfl, h.2⟩
end
end Go.Vl

/- Statements at which two orders of evaluation are known: what holds in whatever order holds in both. -/
namespace Go.Vl
set_option linter.unusedVariables false
set_option linter.unusedSimpArgs false
open Go.RowKit

section
variable {P : Program} {ops : Array Oper} {Q : Go.Exit → Act → World → Prop}

theorem binds_sub {md : Region.Mode} {e : Edge} (h : Region.binds .any e = true) : Region.binds md e = true := by
  unfold Region.binds at *
  split at h <;> simp_all

theorem ready_sub {md : Region.Mode} {listed : Array Bool} {i : Nat} (h : i ∈ Region.ready md ops listed) : i ∈ Region.ready .any ops listed := by
  obtain ⟨h1, o, ho, h2⟩ := mem_ready.1 h
  exact mem_ready.2 ⟨h1, o, ho, fun e he hb => h2 e he (binds_sub hb)⟩

/-- An order in which all can come. -/
def orderB (md : Region.Mode) (ops : Array Oper) : List Nat → List Nat → Bool
  | seen, [] => (List.range ops.size).all fun j => seen.contains j
  | seen, i :: r => (match ops[i]? with
    | some o => o.after.all fun e => !Region.binds md e || seen.contains e.on
    | none => true) && orderB md ops (i :: seen) r

theorem order_spec {md : Region.Mode} {listed : Array Bool} (hsz : listed.size = ops.size) (hr : Region.ready md ops listed = []) : ∀ (perm seen : List Nat), (∀ j, seen.contains j = true → j < ops.size → listed.getD j false = true) → (∀ j, seen.contains j = true → j < ops.size) → (∀ i ∈ perm, i < ops.size) → orderB md ops seen perm = true → ∀ j, j < ops.size → listed.getD j false = true
  | [], seen, hs, _, _, h, j, hj => by
    simp only [orderB, List.all_eq_true, List.mem_range] at h
    exact hs j (h j hj) hj
  | i :: r, seen, hs, hlt, hp, h, j, hj => by
    simp only [orderB, Bool.and_eq_true] at h
    have hi := hp i List.mem_cons_self
    have hl : listed.getD i false = true := by
      have ho : ops[i]? = some ops[i] := Array.getElem?_eq_getElem hi
      rw [ho] at h
      have hi2 : i < listed.size := by omega
      by_cases hli : listed[i] = true
      · simp [Array.getD, hi2, hli]
      · exfalso
        have hm : i ∈ Region.ready md ops listed := mem_ready.2 ⟨by simp [Array.getD, hi2]; simpa using hli, _, ho, fun e he hb => by
          have h1 := Array.all_eq_true_iff_forall_mem.1 h.1 e he
          rw [hb] at h1
          have h2 : seen.contains e.on = true := by simpa using h1
          exact hs _ h2 (hlt _ h2)⟩
        rw [hr] at hm
        cases hm
    refine order_spec hsz hr r (i :: seen) (fun k hk hk2 => ?_) (fun k hk => ?_) (fun k hk => hp k (List.mem_cons_of_mem _ hk)) h.2 j hj
    · by_cases e : k = i
      · subst e; exact hl
      · refine hs k ?_ hk2
        simp only [List.contains_cons, Bool.or_eq_true, beq_iff_eq, e, false_or] at hk
        exact hk
    · by_cases e : k = i
      · subst e; exact hi
      · refine hlt k ?_
        simp only [List.contains_cons, Bool.or_eq_true, beq_iff_eq, e, false_or] at hk
        exact hk

theorem wpAny_md {md : Region.Mode} (H : ∀ listed : Array Bool, listed.size = ops.size → Region.ready md ops listed = [] → Region.ready .any ops listed = []) :
    ∀ (n : Nat) (listed : Array Bool) (a : Act) (w : World), listed.size = ops.size → wpAny P .any ops Q n listed a w → wpAny P md ops Q n listed a w
  | 0, listed, a, w, _, h => by
    refine ⟨?_, h.2⟩
    rw [List.eq_nil_iff_forall_not_mem]
    intro i hi
    have := ready_sub hi
    rw [h.1] at this
    cases this
  | n + 1, listed, a, w, hs, h => ⟨fun h0 => h.1 (H listed hs h0), fun i hi => wpOp_mono (fun a' w' h' => wpAny_md H n _ a' w' (by simpa using hs) h') (h.2 i (ready_sub hi))⟩

theorem order_any {md : Region.Mode} (perm : List Nat) (hp : perm.all (fun i => Nat.blt i ops.size) = true) (h : orderB md ops [] perm = true) (listed : Array Bool) (hsz : listed.size = ops.size) (hr : Region.ready md ops listed = []) : Region.ready .any ops listed = [] := by
  rw [List.all_eq_true] at hp
  have hall := order_spec hsz hr perm [] (fun j hj => by simp at hj) (fun j hj => by simp at hj) (fun i hi => blt_lt (hp i hi)) h
  rw [List.eq_nil_iff_forall_not_mem]
  intro i hi
  obtain ⟨h1, o, ho, _⟩ := mem_ready.1 hi
  have hi2 := (Array.getElem?_eq_some_iff.1 ho).1
  have := hall i hi2
  have hi3 : i < listed.size := by omega
  simp [Array.getD, hi3] at h1 this
  rw [h1] at this
  cases this
end

theorem vc_drawLD (late pt pg : List Nat) {P : Program} {C : Ctx} {ops : Array Oper} {s : St} {id : Nat} {Q : Go.Exit → St → Prop} (h1 : pt.all (fun i => Nat.blt i ops.size) = true) (h2 : orderB .text ops [] pt = true) (h3 : pg.all (fun i => Nat.blt i ops.size) = true) (h4 : orderB .gc ops [] pg = true)
    (h : VL late P C ops ops.size (Array.replicate ops.size false) (Q .normal) s) : VC P C (.region id ops true) Q s := by
  intro a w ⟨m, hs⟩
  refine wp_region_draw fun t => ?_
  have hany := any_of_anyL _ _ _ _ (h m a _ (hs.grow (w' := { w with drawn := w.drawn + 1 }) (ExtW.refl w) rfl rfl rfl))
  have hfin : ∀ e a' w', post0 C (Q .normal) e a' w' → post C Q e a' w' := by
    rintro e a' w' ⟨rfl, s', hs', hk⟩
    exact ⟨s', hs', hk⟩
  unfold Region.schedule
  split
  · exact wpOps_monoQ hfin _ _ _ (wpAny_sound ops.size t _ a _ hany)
  · split
    · exact wpOps_monoQ hfin _ _ _ (wpAny_sound ops.size _ _ a _ (wpAny_md (order_any pt h1 h2) _ _ _ _ (by simp) hany))
    · exact wpOps_monoQ hfin _ _ _ (wpAny_sound ops.size _ _ a _ (wpAny_md (order_any pg h3 h4) _ _ _ _ (by simp) hany))
end Go.Vl

namespace Go.Vl
set_option linter.unusedVariables false
set_option linter.unusedSimpArgs false
open Go.Proofs

theorem getD_set_i (m : List Int) (i j : Nat) (v : Int) : (m.set i v).getD j 0 = if i = j ∧ i < m.length then v else m.getD j 0 := by
  simp only [List.getD, List.getElem?_set]
  by_cases h : i = j
  · subst h
    by_cases h2 : i < m.length
    · simp [h2]
    · simp [h2, List.getElem?_eq_none (by omega : m.length ≤ i)]
  · simp [h]
theorem ext_int {a b : List Int} (h : a.length = b.length) (h2 : ∀ i, i < a.length → a.getD i 0 = b.getD i 0) : a = b := by
  apply List.ext_getElem h
  intro i hi hi2
  have := h2 i hi
  rwa [getD_at hi, getD_at hi2] at this
theorem rev_get {l : List Int} {i : Nat} (h : i < l.length) : l.reverse.getD i 0 = l.getD (l.length - 1 - i) 0 := by
  rw [getD_at (by rw [List.length_reverse]; exact h), getD_at (by omega), List.getElem_reverse]
/-- The first and the last k numbers have changed places. -/
def RevK (l r : List Int) (k : Nat) : Prop := r.length = l.length ∧ ∀ x, x < l.length → r.getD x 0 = if x < k ∨ l.length ≤ x + k then l.getD (l.length - 1 - x) 0 else l.getD x 0
theorem RevK.zero (l : List Int) : RevK l l 0 := ⟨rfl, fun x hx => by rw [if_neg (by omega)]⟩
theorem RevK.step {l r : List Int} {k j : Nat} (h : RevK l r k) (hj : j + 1 + k = l.length) (hk : k < j) : RevK l ((r.set k (r.getD j 0)).set j (r.getD k 0)) (k+1) := by
  obtain ⟨h1, h2⟩ := h
  refine ⟨by simp [h1], fun x hx => ?_⟩
  have hlj : r.getD j 0 = l.getD j 0 := by rw [h2 j (by omega), if_neg (by omega)]
  have hlk : r.getD k 0 = l.getD k 0 := by rw [h2 k (by omega), if_neg (by omega)]
  rw [getD_set_i, getD_set_i, List.length_set, h1]
  by_cases e1 : j = x
  · subst e1
    rw [if_pos ⟨rfl, by omega⟩, if_pos (by omega), hlk, show l.length - 1 - j = k by omega]
  · rw [if_neg (fun e => e1 e.1)]
    by_cases e2 : k = x
    · subst e2
      rw [if_pos ⟨rfl, by omega⟩, if_pos (by omega), hlj, show l.length - 1 - k = j by omega]
    · rw [if_neg (fun e => e2 e.1), h2 x hx]
      by_cases e3 : x < k ∨ l.length ≤ x + k
      · rw [if_pos e3, if_pos (by omega)]
      · rw [if_neg e3, if_neg (by omega)]
theorem RevK.all {l r : List Int} {k : Nat} (h : RevK l r k) (hk : l.length ≤ k + k + 1) : r = l.reverse := by
  obtain ⟨h1, h2⟩ := h
  refine ext_int (by rw [List.length_reverse]; exact h1) fun x hx => ?_
  rw [h1] at hx
  rw [h2 x hx, rev_get hx]
  split
  · rfl
  · rename_i h3
    rw [show l.length - 1 - x = x by omega]
/-- Each where it stands last. -/
def lastF : List Int → List Int
  | [] => []
  | x :: r => if x ∈ r then lastF r else x :: lastF r
theorem lastF_once : ∀ l : List Int, lastF l = (onceF [] l.reverse).reverse
  | [] => rfl
  | x :: r => by
    rw [List.reverse_cons, onceF_snoc]
    unfold lastF
    have hm : x ∈ onceF [] r.reverse ↔ x ∈ r := by rw [once_mem]; simp
    by_cases h : x ∈ r
    · rw [if_pos h, if_pos (hm.2 h), lastF_once r]
    · rw [if_neg h, if_neg (fun e => h (hm.1 e)), lastF_once r, List.reverse_append]; rfl
theorem lastF_drop {l : List Int} {k : Nat} (h : k < l.length) : lastF (l.drop k) = if l.getD k 0 ∈ l.drop (k+1) then lastF (l.drop (k+1)) else l.getD k 0 :: lastF (l.drop (k+1)) := by
  rw [List.drop_eq_getElem_cons h, ← getD_at h 0]; rfl
def lmR (b : List (List Int)) (c : Int) : List Int := if cwP b c then lastF (wkM b c.toNat) else []
theorem lmR_no {b : List (List Int)} {c : Int} (h : ¬ cwP b c) : lmR b c = [] := if_neg h
theorem lmR_yes {b : List (List Int)} {c : Int} (h : cwP b c) : lmR b c = lastF (wkM b c.toNat) := if_pos h
theorem lastF_len (l : List Int) : (lastF l).length ≤ l.length := by
  rw [lastF_once, List.length_reverse]
  have := onceL_len l.reverse
  rwa [List.length_reverse] at this
theorem lmR_len {b : List (List Int)} {c : Int} : (lmR b c).length < 1000000000 := by
  by_cases h : cwP b c
  · rw [lmR_yes h]
    have h1 := lastF_len (wkM b c.toNat)
    have h2 := wkM_lt h.1.1 (show c.toNat < b.length by have := h.1; omega)
    omega
  · rw [lmR_no h]; simp
theorem row_ints {el : TypeId} {e : Nat} {nl : Option Bool} {f : Bool} {a b : List Int} (h : a = b) : [Row.own el e nl f (a.map intP)] = [Row.own el e nl f (b.map intP)] := by rw [h]

theorem Reverse_sat {nl : Option Bool} {l : List Int} (hl : l.length < 1000000000) : SatAt Try.prog 75 [.ref 0] [Row.own 3 1 nl false ((l).map intP)] (fun res rows => res = [] ∧ rows = [Row.own 3 1 nl false ((l.reverse).map intP)]) := by
  refine sat_entry_g (ts := []) Try.func75 rfl rfl (by decide) (Nat.le_of_ble_eq_true rfl) fun C hC => ?_
  rw [Try.ntmps75]
  replace hC : C.nb = 1 := hC
  refine vc_seq fun K1 hK1 => ?_
  refine vc_region ?_
  refine vo_move_ref rfl rfl ?_
  refine vo_len_ref rfl rfl rfl Try.underlying25 ?_
  refine vo_binI rfl rfl rfl rfl sd ?_
  refine vo_assign_pv rfl rfl ?_
  refine vo_assign_pv rfl rfl ?_
  refine vo_nil ?_
  refine hK1 _ ?_
  refine vc_block ?_
  refine vc_stN ?_
  refine vc_loop [0, 2, 3] (fun mz vs rows => ∃ (k : Nat) (j : Int) (r : List Int), mz = (j + 1).toNat ∧ (j + 1 + k = l.length) ∧ (RevK l r k) ∧ (-1 ≤ j) ∧ ((k : Int) ≤ l.length) ∧ vs = [.ref 0, i64 k, i64 j] ∧ rows = [Row.own 3 1 nl false ((r).map intP)]) (((((l.map intP).length : Nat) : Int) - 1 + 1).toNat) (le_len hC rfl) ⟨rfl, rfl⟩ ⟨0, (((l.map intP).length : Nat) : Int) - 1, l, rfl, (by rw [List.length_map]; omega), (RevK.zero l), (by omega), (by omega), rfl, rfl⟩ ?_
  rintro mz vs rows - - ⟨k, j, r, rfl, hj, hr, hj2, hk, rfl, rfl⟩
  have hrl := hr.1
  refine vc_seq fun K2 hK2 => ?_
  refine vc_seq fun K3 hK3 => ?_
  refine vc_region ?_
  refine vo_move_pv rfl rfl ?_
  refine vo_move_pv rfl rfl ?_
  refine vo_binI rfl rfl rfl rfl trivial ?_
  refine vo_nil ?_
  refine hK3 _ ?_
  refine vc_cond rfl (fun hc1 => ?_) (fun hc1 => ?_)
  · try simp only [decide_eq_true_eq, decide_eq_false_iff_not, beq_iff_eq, bne_iff_ne, beq_eq_false_iff_ne, bne_eq_false_iff_eq, Bool.not_eq_true, Bool.not_eq_false, Bool.not_eq_eq_eq_not, Bool.not_true, Bool.not_false, List.length_map, Int.not_lt, Int.not_le, ne_eq, Decidable.not_not] at hc1
    refine vc_skip ?_
    refine hK2 _ ?_
    refine vc_seq fun K4 hK4 => ?_
    refine vc_block ?_
    refine vc_drawLD [13, 14, 15] [0, 1, 2, 3, 4, 5, 6, 7, 8, 9, 10, 11, 12, 13, 14, 15] [0, 1, 4, 5, 6, 7, 8, 9, 10, 11, 12, 13, 2, 3, 14, 15] (by kernel_rfl) (by kernel_rfl) (by kernel_rfl) (by kernel_rfl) ?_
    change VL [13, 14, 15] _ _ _ 16 _ _ _
    refine vl_light 0 [1, 2, 3, 4, 5, 6, 7, 8, 9, 10, 11] rfl rfl rfl (by kernel_rfl) (by kernel_rfl) (by kernel_rfl) (by kernel_rfl) (by kernel_rfl) (wnt_none rfl) (lt_move_ref rfl) ?_
    refine vl_light 1 [0, 2, 3, 4, 5, 6, 7, 8, 9, 10, 11] rfl rfl rfl (by kernel_rfl) (by kernel_rfl) (by kernel_rfl) (by kernel_rfl) (by kernel_rfl) (wnt_none rfl) (lt_move_pv rfl) ?_
    refine vl_light0 2 rfl rfl rfl (by kernel_rfl) (by kernel_rfl) (by kernel_rfl) (wnt_none rfl) (l0_move_ref rfl) ?_
    refine vl_light0 3 rfl rfl rfl (by kernel_rfl) (by kernel_rfl) (by kernel_rfl) (wnt_none rfl) (l0_move_pv rfl) ?_
    refine vl_light 4 [0, 1, 2, 3, 5, 8, 9, 10, 11] rfl rfl rfl (by kernel_rfl) (by kernel_rfl) (by kernel_rfl) (by kernel_rfl) (by kernel_rfl) (wnt_none rfl) (lt_move_ref rfl) ?_
    refine vl_light 5 [0, 1, 2, 3, 4, 8, 9, 10, 11] rfl rfl rfl (by kernel_rfl) (by kernel_rfl) (by kernel_rfl) (by kernel_rfl) (by kernel_rfl) (wnt_none rfl) (lt_move_pv rfl) ?_
    refine vl_light 6 [0, 1, 2, 3, 4, 5, 8, 9, 10, 11] rfl rfl rfl (by kernel_rfl) (by kernel_rfl) (by kernel_rfl) (by kernel_rfl) (by kernel_rfl) (wnt_none rfl) (lt_index_ref rfl rfl rfl E25.und inf3 sz3 sd sd) ?_
    try simp only [Int.toNat_natCast]
    refine vl_light 7 [0, 1, 2, 3, 4, 5, 6, 8, 9, 10, 11] rfl rfl rfl (by kernel_rfl) (by kernel_rfl) (by kernel_rfl) (by kernel_rfl) (by kernel_rfl) (wnt_none rfl) (lt_load_own rfl rfl Try.underlying3 rfl sd (getD_ints _ _) rfl) ?_
    try simp only [Int.toNat_natCast]
    refine vl_light 8 [0, 1, 2, 3, 4, 5, 6, 7, 9] rfl rfl rfl (by kernel_rfl) (by kernel_rfl) (by kernel_rfl) (by kernel_rfl) (by kernel_rfl) (wnt_none rfl) (lt_move_ref rfl) ?_
    refine vl_light 9 [0, 1, 2, 3, 4, 5, 6, 7, 8] rfl rfl rfl (by kernel_rfl) (by kernel_rfl) (by kernel_rfl) (by kernel_rfl) (by kernel_rfl) (wnt_none rfl) (lt_move_pv rfl) ?_
    refine vl_light 10 [0, 1, 2, 3, 4, 5, 6, 7, 8, 9] rfl rfl rfl (by kernel_rfl) (by kernel_rfl) (by kernel_rfl) (by kernel_rfl) (by kernel_rfl) (wnt_none rfl) (lt_index_ref rfl rfl rfl E25.und inf3 sz3 sd sd) ?_
    try simp only [Int.toNat_natCast]
    refine vl_light 11 [0, 1, 2, 3, 4, 5, 6, 7, 8, 9, 10] rfl rfl rfl (by kernel_rfl) (by kernel_rfl) (by kernel_rfl) (by kernel_rfl) (by kernel_rfl) (wnt_none rfl) (lt_load_own rfl rfl Try.underlying3 rfl sd (getD_ints _ _) rfl) ?_
    try simp only [Int.toNat_natCast]
    refine vl_light 12 [0, 1, 2, 3, 4, 5, 6, 7, 8, 9, 10, 11] rfl rfl rfl (by kernel_rfl) (by kernel_rfl) (by kernel_rfl) (by kernel_rfl) (by kernel_rfl) (wnt_none rfl) (lt_index_ref rfl rfl rfl E25.und inf3 sz3 sd sd) ?_
    try simp only [Int.toNat_natCast]
    refine vl_one 13 rfl (by kernel_rfl) rfl ?_
    refine vo_store_own rfl rfl rfl inf3 sz3 (by decide) rfl sd ?_
    try simp only [set_ints, set_intss, set_bools, rep_bools, rep_ints, Int.toNat_natCast, Int.toNat_zero]
    refine vo_done ⟨rfl, ?_⟩
    refine vl_one 14 rfl (by kernel_rfl) rfl ?_
    refine vo_index_ref rfl rfl rfl rfl E25.und inf3 sz3 sd sd ?_
    try simp only [Int.toNat_natCast]
    refine vo_done ⟨rfl, ?_⟩
    refine vl_one 15 rfl (by kernel_rfl) rfl ?_
    refine vo_store_own rfl rfl rfl inf3 sz3 (by decide) rfl sd ?_
    try simp only [set_ints, set_intss, set_bools, rep_bools, rep_ints, Int.toNat_natCast, Int.toNat_zero]
    refine vo_done ⟨rfl, ?_⟩
    refine vl_nil (by kernel_rfl) ?_
    refine hK4 _ ?_
    refine vc_region ?_
    refine vo_move_pv rfl rfl ?_
    refine vo_binI rfl rfl rfl rfl sd ?_
    refine vo_move_pv rfl rfl ?_
    refine vo_binI rfl rfl rfl rfl sd ?_
    refine vo_assign_pv rfl rfl ?_
    refine vo_assign_pv rfl rfl ?_
    refine vo_nil ?_
    change again _ _ _ _ _ _
    refine again_mk rfl rfl rfl rfl ⟨_, ?_, k + 1, j - 1, (r.set k (r.getD j.toNat 0)).set j.toNat (r.getD k 0), rfl, ?_, ?_, ?_, ?_, rfl, rfl⟩
    · omega
    · omega
    · exact hr.step (by omega) (by omega)
    · omega
    · omega
  · try simp only [decide_eq_true_eq, decide_eq_false_iff_not, beq_iff_eq, bne_iff_ne, beq_eq_false_iff_ne, bne_eq_false_iff_eq, Bool.not_eq_true, Bool.not_eq_false, Bool.not_eq_eq_eq_not, Bool.not_true, Bool.not_false, List.length_map, Int.not_lt, Int.not_le, ne_eq, Decidable.not_not] at hc1
    refine vc_exit ?_
    refine retG_norm ?_
    change retG _ _ _ _ _
    refine retG_sel [] [] hC rfl rfl rfl rfl rfl rfl ?_
    exact ⟨rfl, row_ints (hr.all (by omega))⟩

end Go.Vl

namespace Go.Vl
set_option linter.unusedVariables false
set_option linter.unusedSimpArgs false
open Go.Proofs

theorem sl_from {α β : Type} (f : α → β) (L : List α) (k : Nat) : List.take ((L.map f).length - (((k : Nat) : Int) + 1).toNat) (L.drop (((k : Nat) : Int) + 1).toNat) = L.drop (k + 1) := by
  rw [show (((k : Nat) : Int) + 1).toNat = k + 1 by omega, List.take_of_length_le (by rw [List.length_drop, List.length_map]; exact Nat.le_refl _)]
theorem rev_once (l : List Int) : (onceF [] l.reverse).reverse = lastF l := (lastF_once l).symm
theorem lastF_end {l : List Int} {k : Nat} (h : l.length ≤ k) : lastF (l.drop k) = [] := by rw [List.drop_of_length_le h]; rfl
theorem row2i_eq {r : Row} {el : TypeId} {e : Nat} {nl : Option Bool} {f : Bool} {a b : List Int} (h : a = b) : [Row.own el e nl f (a.map intP), r] = [Row.own el e nl f (b.map intP), r] := by rw [h]

theorem implLastMet_sat {nl0 : Option Bool} {bases : List (List Int)} {c : Int} (hbases : bases.length < 1000000000) (hlbases : ∀ l ∈ bases, l.length < 1000000000)  : SatAt Try.prog 29 [.pv false (.sl nl0 1 (bases.map ints)), i64 c] [] (fun res rows => ∃ nl, res = [.ref 0] ∧ rows = [Row.own 3 1 nl true ((lmR bases c).map intP)]) := by
  refine sat_entry_g (ts := [4]) Try.func29 rfl rfl (by decide) (Nat.le_of_ble_eq_true rfl) fun C hC => ?_
  rw [Try.ntmps29]
  replace hC : C.nb = 0 := hC
  refine vc_seq fun K1 hK1 => ?_
  refine vc_region ?_
  refine vo_assign_pv rfl rfl ?_
  refine vo_nil ?_
  refine hK1 _ ?_
  refine vc_seq fun K2 hK2 => ?_
  refine vc_seq fun K3 hK3 => ?_
  refine vc_region ?_
  refine vo_move_pv rfl rfl ?_
  refine vo_move_pv rfl rfl ?_
  refine vo_call0 Try.func73 rfl rfl rfl rfl (canWalk_sat hbases hlbases) ?_
  rintro _ _ ⟨rfl, rfl⟩
  refine ⟨rfl, rfl, .inl rfl, ?_⟩
  refine vo_not rfl rfl ?_
  refine vo_nil ?_
  refine hK3 _ ?_
  refine vc_cond rfl (fun hc1 => ?_) (fun hc1 => ?_)
  · try simp only [decide_eq_true_eq, decide_eq_false_iff_not, beq_iff_eq, bne_iff_ne, beq_eq_false_iff_ne, bne_eq_false_iff_eq, Bool.not_eq_true, Bool.not_eq_false, Bool.not_eq_eq_eq_not, Bool.not_true, Bool.not_false, List.length_map, Int.not_lt, Int.not_le, ne_eq, Decidable.not_not] at hc1
    refine vc_seq fun K4 hK4 => ?_
    refine vc_region ?_
    refine vo_assign_pv rfl rfl ?_
    refine vo_nil ?_
    refine hK4 _ ?_
    refine vc_own_nil 4 E25 rfl ?_
    refine vc_ret ?_
    change retG _ _ _ _ _
    refine retG_one 0 hC rfl rfl rfl rfl rfl ?_
    exact ⟨_, rfl, rows_eq (g := intP) ((lmR_no hc1).symm)⟩
  · try simp only [decide_eq_true_eq, decide_eq_false_iff_not, beq_iff_eq, bne_iff_ne, beq_eq_false_iff_ne, bne_eq_false_iff_eq, Bool.not_eq_true, Bool.not_eq_false, Bool.not_eq_eq_eq_not, Bool.not_true, Bool.not_false, List.length_map, Int.not_lt, Int.not_le, ne_eq, Decidable.not_not] at hc1
    obtain ⟨⟨hv, h0, h1⟩, h9⟩ := hc1
    obtain ⟨n, rfl⟩ := Int.eq_ofNat_of_zero_le h0
    have hn : n < bases.length := by omega
    have hcw : cwP bases n := ⟨⟨hv, h0, h1⟩, h9⟩
    have hwl := wkM_lt hv hn
    have hol := onceL_len (wkM bases n).reverse
    rw [List.length_reverse] at hol
    refine vc_skip ?_
    refine hK2 _ ?_
    refine vc_seq fun K5 hK5 => ?_
    refine vc_region ?_
    refine vo_move_pv rfl rfl ?_
    refine vo_move_pv rfl rfl ?_
    refine vo_call [] Try.func74 rfl rfl rfl rfl rfl rfl rfl (walkFrom_sat hbases hlbases hv n hn) ?_
    rintro _ _ ⟨nl8, rfl, rfl⟩
    refine ⟨Nat.le_of_ble_eq_true rfl, ⟨rfl, rfl, rfl⟩, .inl rfl, ?_⟩
    refine vo_stN ?_
    refine vo_assign_ref rfl rfl ?_
    refine vo_nil ?_
    refine hK5 _ ?_
    refine vc_seq fun K6 hK6 => ?_
    refine vc_region ?_
    refine vo_move_ref rfl rfl ?_
    refine vo_call [0] Try.func75 rfl rfl rfl rfl rfl rfl rfl (Reverse_sat (l := (wkM bases n)) (by omega)) ?_
    rintro _ _ ⟨rfl, rfl⟩
    refine ⟨Nat.le_of_ble_eq_true rfl, ⟨rfl, rfl, rfl⟩, .inl rfl, ?_⟩
    refine vo_stN ?_
    refine vo_nil ?_
    refine hK6 _ ?_
    refine vc_seq fun K7 hK7 => ?_
    refine vc_region ?_
    refine vo_move_ref rfl rfl ?_
    refine vo_expose 0 (by omega) rfl ?_
    refine vo_weaken 16 rfl ?_
    refine vo_stN ?_
    refine vo_call [] Try.func76 rfl rfl rfl rfl rfl rfl rfl (eachOnce_sat (list := (wkM bases n).reverse) (by rw [List.length_reverse]; omega)) ?_
    rintro _ _ ⟨nl9, rfl, rfl⟩
    refine ⟨Nat.le_of_ble_eq_true rfl, ⟨rfl, rfl, rfl⟩, .inl rfl, ?_⟩
    refine vo_stN ?_
    refine vo_assign_ref rfl rfl ?_
    refine vo_nil ?_
    refine hK7 _ ?_
    refine vc_seq fun K8 hK8 => ?_
    refine vc_region ?_
    refine vo_move_ref rfl rfl ?_
    refine vo_call [1] Try.func75 rfl rfl rfl rfl rfl rfl rfl (Reverse_sat (l := onceF [] (wkM bases n).reverse) (by omega)) ?_
    rintro _ _ ⟨rfl, rfl⟩
    refine ⟨Nat.le_of_ble_eq_true rfl, ⟨rfl, rfl, rfl⟩, .inl rfl, ?_⟩
    refine vo_stN ?_
    refine vo_nil ?_
    refine hK8 _ ?_
    refine vc_seq fun K9 hK9 => ?_
    refine vc_region ?_
    refine vo_move_ref rfl rfl ?_
    refine vo_clean 1 rfl (scal_ints _) ?_
    refine vo_stN ?_
    refine vo_assign_ref rfl rfl ?_
    refine vo_nil ?_
    refine hK9 _ ?_
    refine vc_ret ?_
    change retG _ _ _ _ _
    refine retG_one 1 hC rfl rfl rfl rfl rfl ?_
    exact ⟨_, rfl, rows_eq (g := intP) (by rw [rev_once]; exact (lmR_yes hcw).symm)⟩


theorem specLastMet_sat {nl0 : Option Bool} {bases : List (List Int)} {c : Int} (hbases : bases.length < 1000000000) (hlbases : ∀ l ∈ bases, l.length < 1000000000)  : SatAt Try.prog 30 [.pv false (.sl nl0 1 (bases.map ints)), i64 c] [] (fun res rows => ∃ nl, res = [.ref 0] ∧ rows = [Row.own 3 1 nl true ((lmR bases c).map intP)]) := by
  refine sat_entry_g (ts := [4]) Try.func30 rfl rfl (by decide) (Nat.le_of_ble_eq_true rfl) fun C hC => ?_
  rw [Try.ntmps30]
  replace hC : C.nb = 0 := hC
  refine vc_seq fun K1 hK1 => ?_
  refine vc_region ?_
  refine vo_assign_pv rfl rfl ?_
  refine vo_nil ?_
  refine hK1 _ ?_
  refine vc_seq fun K2 hK2 => ?_
  refine vc_seq fun K3 hK3 => ?_
  refine vc_region ?_
  refine vo_move_pv rfl rfl ?_
  refine vo_move_pv rfl rfl ?_
  refine vo_call0 Try.func77 rfl rfl rfl rfl (validWalk_sat hbases hlbases) ?_
  rintro _ _ ⟨rfl, rfl⟩
  refine ⟨rfl, rfl, .inl rfl, ?_⟩
  refine vo_not rfl rfl ?_
  refine vo_nil ?_
  refine hK3 _ ?_
  refine vc_cond rfl (fun hc1 => ?_) (fun hc1 => ?_)
  · try simp only [decide_eq_true_eq, decide_eq_false_iff_not, beq_iff_eq, bne_iff_ne, beq_eq_false_iff_ne, bne_eq_false_iff_eq, Bool.not_eq_true, Bool.not_eq_false, Bool.not_eq_eq_eq_not, Bool.not_true, Bool.not_false, List.length_map, Int.not_lt, Int.not_le, ne_eq, Decidable.not_not] at hc1
    refine vc_seq fun K4 hK4 => ?_
    refine vc_region ?_
    refine vo_assign_pv rfl rfl ?_
    refine vo_nil ?_
    refine hK4 _ ?_
    refine vc_own_nil 4 E25 rfl ?_
    refine vc_ret ?_
    change retG _ _ _ _ _
    refine retG_one 0 hC rfl rfl rfl rfl rfl ?_
    exact ⟨_, rfl, rows_eq (g := intP) ((lmR_no hc1).symm)⟩
  · try simp only [decide_eq_true_eq, decide_eq_false_iff_not, beq_iff_eq, bne_iff_ne, beq_eq_false_iff_ne, bne_eq_false_iff_eq, Bool.not_eq_true, Bool.not_eq_false, Bool.not_eq_eq_eq_not, Bool.not_true, Bool.not_false, List.length_map, Int.not_lt, Int.not_le, ne_eq, Decidable.not_not] at hc1
    obtain ⟨⟨hv, h0, h1⟩, h9⟩ := hc1
    obtain ⟨n, rfl⟩ := Int.eq_ofNat_of_zero_le h0
    have hn : n < bases.length := by omega
    have hcw : cwP bases n := ⟨⟨hv, h0, h1⟩, h9⟩
    have hwl := wkM_lt hv hn
    refine vc_skip ?_
    refine hK2 _ ?_
    refine vc_seq fun K5 hK5 => ?_
    refine vc_region ?_
    refine vo_buildSlice E25 rfl rfl rfl rfl rfl ?_
    refine vo_assign_ref rfl rfl ?_
    refine vo_nil ?_
    refine hK5 _ ?_
    refine vc_seq fun K6 hK6 => ?_
    refine vc_region ?_
    refine vo_move_pv rfl rfl ?_
    refine vo_move_pv rfl rfl ?_
    refine vo_call [] Try.func78 rfl rfl rfl rfl rfl rfl rfl (walk_sat hbases hlbases hv n hn) ?_
    rintro _ _ ⟨nl8, rfl, rfl⟩
    refine ⟨Nat.le_of_ble_eq_true rfl, ⟨rfl, rfl, rfl⟩, .inl rfl, ?_⟩
    refine vo_stN ?_
    refine vo_assign_ref rfl rfl ?_
    refine vo_nil ?_
    refine hK6 _ ?_
    refine vc_seq fun K7 hK7 => ?_
    refine vc_seq fun K8 hK8 => ?_
    refine vc_region ?_
    refine vo_assign_pv rfl rfl ?_
    refine vo_nil ?_
    refine hK8 _ ?_
    refine vc_block ?_
    refine vc_expose 1 (by omega) rfl ?_
    refine vc_stN ?_
    refine vc_stN ?_
    refine vc_loop [5, 6, 7] (fun mz vs rows => ∃ (k : Nat) (acc : List Int), mz = (wkM bases n).length - k ∧ (k ≤ (wkM bases n).length) ∧ (acc ++ lastF ((wkM bases n).drop k) = lastF (wkM bases n)) ∧ (acc.length ≤ k) ∧ vs = [.ref 0, .pv true (.sl nl8 1 ((wkM bases n).map intP)), i64 k] ∧ rows = [Row.own 3 1 (some false) true ((acc).map intP), .dead]) ((wkM bases n).length) (le_len hC rfl) ⟨rfl, rfl⟩ ⟨0, [], rfl, Nat.zero_le _, rfl, (Nat.zero_le _), rfl, rfl⟩ ?_
    rintro mz vs rows - - ⟨k, acc, rfl, hk, hf, hl, rfl, rfl⟩
    refine vc_seq fun K9 hK9 => ?_
    refine vc_seq fun K10 hK10 => ?_
    refine vc_region ?_
    refine vo_move_pv rfl rfl ?_
    refine vo_move_pv rfl rfl ?_
    refine vo_len_pv rfl rfl Try.underlying25 ?_
    refine vo_binI rfl rfl rfl rfl trivial ?_
    refine vo_nil ?_
    refine hK10 _ ?_
    refine vc_cond rfl (fun hc2 => ?_) (fun hc2 => ?_)
    · try simp only [decide_eq_true_eq, decide_eq_false_iff_not, beq_iff_eq, bne_iff_ne, beq_eq_false_iff_ne, bne_eq_false_iff_eq, Bool.not_eq_true, Bool.not_eq_false, Bool.not_eq_eq_eq_not, Bool.not_true, Bool.not_false, List.length_map, Int.not_lt, Int.not_le, ne_eq, Decidable.not_not] at hc2
      refine vc_skip ?_
      refine hK9 _ ?_
      refine vc_seq fun K11 hK11 => ?_
      refine vc_block ?_
      refine vc_seq fun K12 hK12 => ?_
      refine vc_draw (by kernel_rfl) ?_
      change VD _ _ _ 10 _ _ _
      refine vd_light 0 rfl rfl rfl (by kernel_rfl) (by kernel_rfl) (by kernel_rfl) (wnt_none rfl) (lt_move_pv rfl) ?_
      refine vd_light 1 rfl rfl rfl (by kernel_rfl) (by kernel_rfl) (by kernel_rfl) (wnt_none rfl) (lt_move_pv rfl) ?_
      refine vd_light 2 rfl rfl rfl (by kernel_rfl) (by kernel_rfl) (by kernel_rfl) (wnt_none rfl) (lt_binI rfl rfl rfl sd) ?_
      refine vd_light 3 rfl rfl rfl (by kernel_rfl) (by kernel_rfl) (by kernel_rfl) (wnt_none rfl) (lt_slice_pv rfl rfl rfl E25.und inf3 sz3 sd sd sd) ?_
      simp only [Int.toNat_natCast, Int.toNat_zero, List.drop_zero, Nat.sub_zero, ← List.map_drop, ← List.map_take]
      refine vd_st (by simp only [sl_from]; exact eq_refl _) ?_
      refine vd_light 4 rfl rfl rfl (by kernel_rfl) (by kernel_rfl) (by kernel_rfl) (wnt_none rfl) (lt_move_pv rfl) ?_
      refine vd_light 5 rfl rfl rfl (by kernel_rfl) (by kernel_rfl) (by kernel_rfl) (wnt_none rfl) (lt_move_pv rfl) ?_
      refine vd_light 6 rfl rfl rfl (by kernel_rfl) (by kernel_rfl) (by kernel_rfl) (wnt_none rfl) (lt_index_pv (.int .i64 0) rfl rfl E25.und inf3 sz3 sd sd) ?_
      simp only [Int.toNat_natCast, Int.toNat_zero, getD_ints, getD_intss, getD_bools, getD_bytes, PV.cells]
      refine vd_light 7 rfl rfl rfl (by kernel_rfl) (by kernel_rfl) (by kernel_rfl) (wnt_none rfl) (lt_load_adr rfl Try.underlying3 rfl) ?_
      refine vd_call 8 rfl (by kernel_rfl) (wnt_none rfl) Try.func69 rfl rfl rfl rfl (placeIn_sat (list := (wkM bases n).drop (k + 1)) (n := (wkM bases n).getD k 0) (by rw [List.length_drop]; omega)) ?_
      rintro _ _ ⟨rfl, rfl⟩
      refine ⟨rfl, rfl, .inl rfl, ?_⟩
      refine vd_light 9 rfl rfl rfl (by kernel_rfl) (by kernel_rfl) (by kernel_rfl) (wnt_none rfl) (lt_binI rfl rfl rfl trivial) ?_
      refine vd_nil (by kernel_rfl) ?_
      refine hK12 _ ?_
      refine vc_cond rfl (fun hc3 => ?_) (fun hc3 => ?_)
      · try simp only [decide_eq_true_eq, decide_eq_false_iff_not, beq_iff_eq, bne_iff_ne, beq_eq_false_iff_ne, bne_eq_false_iff_eq, Bool.not_eq_true, Bool.not_eq_false, Bool.not_eq_eq_eq_not, Bool.not_true, Bool.not_false, List.length_map, Int.not_lt, Int.not_le, ne_eq, Decidable.not_not] at hc3
        refine vc_region ?_
        refine vo_move_ref rfl rfl ?_
        refine vo_move_pv rfl rfl ?_
        refine vo_move_pv rfl rfl ?_
        refine vo_index_pv (.int .i64 0) rfl rfl rfl E25.und inf3 sz3 sd sd ?_
        simp only [Int.toNat_natCast, Int.toNat_zero, getD_ints, getD_intss, getD_bools, getD_bytes, PV.cells]
        refine vo_load_adr rfl rfl Try.underlying3 rfl ?_
        refine vo_buildSlice E25 rfl rfl rfl rfl rfl ?_
        refine vo_append E25 rfl (by omega) rfl rfl rfl sd sd ?_
        refine vo_stN ?_
        try simp only [app_ints, app_intss, app_bools]
        refine vo_assign_ref rfl rfl ?_
        refine vo_nil ?_
        refine hK11 _ ?_
        refine vc_region ?_
        refine vo_move_pv rfl rfl ?_
        refine vo_binI rfl rfl rfl rfl sd ?_
        refine vo_assign_pv rfl rfl ?_
        refine vo_nil ?_
        change again _ _ _ _ _ _
        refine again_mk rfl rfl rfl rfl ⟨_, ?_, k + 1, acc ++ [(wkM bases n).getD k 0], rfl, ?_, ?_, ?_, rfl, rfl⟩
        · omega
        · omega
        · rw [← hf, lastF_drop (l := (wkM bases n)) (k := k) (by omega), if_neg ((findM_not _ _ 0 (by omega)).1 (by omega))]; simp
        · rw [List.length_append, List.length_singleton]; omega
      · try simp only [decide_eq_true_eq, decide_eq_false_iff_not, beq_iff_eq, bne_iff_ne, beq_eq_false_iff_ne, bne_eq_false_iff_eq, Bool.not_eq_true, Bool.not_eq_false, Bool.not_eq_eq_eq_not, Bool.not_true, Bool.not_false, List.length_map, Int.not_lt, Int.not_le, ne_eq, Decidable.not_not] at hc3
        refine vc_skip ?_
        refine hK11 _ ?_
        refine vc_region ?_
        refine vo_move_pv rfl rfl ?_
        refine vo_binI rfl rfl rfl rfl sd ?_
        refine vo_assign_pv rfl rfl ?_
        refine vo_nil ?_
        change again _ _ _ _ _ _
        refine again_mk rfl rfl rfl rfl ⟨_, ?_, k + 1, acc, rfl, ?_, ?_, ?_, rfl, rfl⟩
        · omega
        · omega
        · rw [← hf, lastF_drop (l := (wkM bases n)) (k := k) (by omega), if_pos ((findM_mem _ _ 0 (by omega)).1 (by omega))]
        · omega
    · try simp only [decide_eq_true_eq, decide_eq_false_iff_not, beq_iff_eq, bne_iff_ne, beq_eq_false_iff_ne, bne_eq_false_iff_eq, Bool.not_eq_true, Bool.not_eq_false, Bool.not_eq_eq_eq_not, Bool.not_true, Bool.not_false, List.length_map, Int.not_lt, Int.not_le, ne_eq, Decidable.not_not] at hc2
      refine vc_exit ?_
      refine hK7 _ ?_
      refine vc_seq fun K13 hK13 => ?_
      refine vc_region ?_
      refine vo_move_ref rfl rfl ?_
      refine vo_assign_ref rfl rfl ?_
      refine vo_nil ?_
      refine hK13 _ ?_
      refine vc_ret ?_
      change retG _ _ _ _ _
      refine retG_one 0 hC rfl rfl rfl rfl rfl ?_
      exact ⟨_, rfl, rows_eq (g := intP) (by rw [lmR_yes hcw, Int.toNat_natCast, ← hf, lastF_end (by omega), List.append_nil])⟩


theorem FnExactLastMet_sat {nl0 : Option Bool} {aBases : List (List Int)} {aC : Int} (haBases : aBases.length ≤ 9223372036854775807) (hlaBases : ∀ l ∈ aBases, l.length ≤ 9223372036854775807) : SatAt Try.prog 8 [.pv false (.sl nl0 1 (aBases.map ints)), i64 aC] [] (fun res rows => res = [bo true] ∧ rows = []) := by
  refine sat_entry (ts := [4]) Try.func8 rfl rfl (by decide) (Nat.le_of_ble_eq_true rfl) fun C hC => ?_
  rw [Try.ntmps8]
  replace hC : C.nb = 0 := hC
  refine vc_seq fun K1 hK1 => ?_
  refine vc_region ?_
  refine vo_assign_pv rfl rfl ?_
  refine vo_nil ?_
  refine hK1 _ ?_
  refine vc_seq fun K2 hK2 => ?_
  refine vc_region ?_
  refine vo_assign_pv rfl rfl ?_
  refine vo_nil ?_
  refine hK2 _ ?_
  refine vc_seq fun K3 hK3 => ?_
  refine vc_region ?_
  refine vo_move_pv rfl rfl ?_
  refine vo_move_pv rfl rfl ?_
  refine vo_call0 Try.func33 rfl rfl rfl rfl (szIntSS_sat haBases hlaBases (by omega) (by omega)) ?_
  rintro _ _ ⟨vaBases, hvaBases, rfl, rfl⟩
  refine ⟨rfl, rfl, .inl rfl, ?_⟩
  refine vo_assign_pv rfl rfl ?_
  refine vo_nil ?_
  refine hK3 _ ?_
  refine vc_seq fun K4 hK4 => ?_
  refine vc_seq fun K5 hK5 => ?_
  refine vc_region ?_
  refine vo_move_pv rfl rfl ?_
  refine vo_binI rfl rfl rfl rfl trivial ?_
  refine vo_nil ?_
  refine hK5 _ ?_
  refine vc_cond rfl (fun hc1 => ?_) (fun hc1 => ?_)
  · try simp only [decide_eq_true_eq, decide_eq_false_iff_not, beq_iff_eq, bne_iff_ne, beq_eq_false_iff_ne, bne_eq_false_iff_eq, Bool.not_eq_true, Bool.not_eq_false, Bool.not_eq_eq_eq_not, Bool.not_true, Bool.not_false, List.length_map, Int.not_lt, Int.not_le, ne_eq, Decidable.not_not] at hc1
    refine vc_seq fun K6 hK6 => ?_
    refine vc_region ?_
    refine vo_assign_pv rfl rfl ?_
    refine vo_nil ?_
    refine hK6 _ ?_
    refine vc_ret ?_
    change retPv _ _ _ _ _
    refine retPv_mk rfl rfl rfl ⟨?_, rfl⟩
    rfl
  · try simp only [decide_eq_true_eq, decide_eq_false_iff_not, beq_iff_eq, bne_iff_ne, beq_eq_false_iff_ne, bne_eq_false_iff_eq, Bool.not_eq_true, Bool.not_eq_false, Bool.not_eq_eq_eq_not, Bool.not_true, Bool.not_false, List.length_map, Int.not_lt, Int.not_le, ne_eq, Decidable.not_not] at hc1
    have hbaBases := hvaBases.resolve_left (by omega)
    have hBaBases : aBases.length < 1000000000 := by omega
    have hLaBases : ∀ l ∈ aBases, l.length < 1000000000 := fun l hl => by have := hbaBases.2.2 l hl; omega
    have hMaBases : ∀ l ∈ aBases, l.length ≤ 2000000 := fun l hl => by have := hbaBases.2.2 l hl; omega
    have hX : (lmR aBases aC).length < 1000000000 := lmR_len
    refine vc_skip ?_
    refine hK4 _ ?_
    refine vc_seq fun K7 hK7 => ?_
    refine vc_region ?_
    refine vo_move_pv rfl rfl ?_
    refine vo_call [] Try.func34 rfl rfl rfl rfl rfl rfl rfl (toIntSST_sat hBaBases hLaBases) ?_
    rintro _ _ ⟨rfl, rfl⟩
    refine ⟨Nat.le_of_ble_eq_true rfl, ⟨rfl, rfl, rfl⟩, .inl rfl, ?_⟩
    refine vo_stN ?_
    refine vo_move_pv rfl rfl ?_
    refine vo_call [] Try.func30 rfl rfl rfl rfl rfl rfl rfl (specLastMet_sat (c := aC) hBaBases hLaBases) ?_
    rintro _ _ ⟨nl900, rfl, rfl⟩
    refine ⟨Nat.le_of_ble_eq_true rfl, ⟨rfl, rfl, rfl⟩, .inr ⟨rfl, rfl⟩, ?_⟩
    refine vo_stN ?_
    refine vo_assign_ref rfl rfl ?_
    refine vo_nil ?_
    refine hK7 _ ?_
    refine vc_seq fun K8 hK8 => ?_
    refine vc_region ?_
    refine vo_move_pv rfl rfl ?_
    refine vo_call [] Try.func34 rfl rfl rfl rfl rfl rfl rfl (toIntSST_sat hBaBases hLaBases) ?_
    rintro _ _ ⟨rfl, rfl⟩
    refine ⟨Nat.le_of_ble_eq_true rfl, ⟨rfl, rfl, rfl⟩, .inl rfl, ?_⟩
    refine vo_stN ?_
    refine vo_assign_ref rfl rfl ?_
    refine vo_nil ?_
    refine hK8 _ ?_
    refine vc_seq fun K9 hK9 => ?_
    refine vc_region ?_
    refine vo_move_ref rfl rfl ?_
    refine vo_move_pv rfl rfl ?_
    refine vo_call [] Try.func29 rfl rfl rfl rfl rfl rfl rfl (implLastMet_sat (c := aC) hBaBases hLaBases) ?_
    rintro _ _ ⟨nl910, rfl, rfl⟩
    refine ⟨Nat.le_of_ble_eq_true rfl, ⟨rfl, rfl, rfl⟩, .inr ⟨rfl, rfl⟩, ?_⟩
    refine vo_stN ?_
    refine vo_assign_ref rfl rfl ?_
    refine vo_nil ?_
    refine hK9 _ ?_
    refine vc_seq fun K10 hK10 => ?_
    refine vc_seq fun K11 hK11 => ?_
    refine vc_region ?_
    refine vo_move_ref rfl rfl ?_
    refine vo_move_ref rfl rfl ?_
    refine vo_call0 Try.func35 rfl rfl rfl rfl (eqIntS_sat (a := lmR aBases aC) (b := lmR aBases aC) hX hX) ?_
    rintro _ _ ⟨rfl, rfl⟩
    refine ⟨rfl, rfl, .inr rfl, ?_⟩
    refine vo_not rfl rfl ?_
    refine vo_nil ?_
    refine hK11 _ ?_
    refine vc_cond rfl (fun hc2 => ?_) (fun hc2 => ?_)
    · try simp only [decide_eq_true_eq, decide_eq_false_iff_not, beq_iff_eq, bne_iff_ne, beq_eq_false_iff_ne, bne_eq_false_iff_eq, Bool.not_eq_true, Bool.not_eq_false, Bool.not_eq_eq_eq_not, Bool.not_true, Bool.not_false, List.length_map, Int.not_lt, Int.not_le, ne_eq, Decidable.not_not] at hc2
      refine vc_seq fun K12 hK12 => ?_
      refine vc_region ?_
      refine vo_assign_pv rfl rfl ?_
      refine vo_nil ?_
      refine hK12 _ ?_
      refine vc_ret ?_
      change retPv _ _ _ _ _
      refine retPv_mk rfl rfl rfl ⟨?_, rfl⟩
      first | rfl | exact absurd trivial (by assumption) | exact absurd rfl (by assumption) | contradiction | omega
    · try simp only [decide_eq_true_eq, decide_eq_false_iff_not, beq_iff_eq, bne_iff_ne, beq_eq_false_iff_ne, bne_eq_false_iff_eq, Bool.not_eq_true, Bool.not_eq_false, Bool.not_eq_eq_eq_not, Bool.not_true, Bool.not_false, List.length_map, Int.not_lt, Int.not_le, ne_eq, Decidable.not_not] at hc2
      refine vc_skip ?_
      refine hK10 _ ?_
      refine vc_seq fun K13 hK13 => ?_
      refine vc_seq fun K14 hK14 => ?_
      refine vc_region ?_
      refine vo_move_ref rfl rfl ?_
      refine vo_move_pv rfl rfl ?_
      refine vo_call [] Try.func34 rfl rfl rfl rfl rfl rfl rfl (toIntSST_sat hBaBases hLaBases) ?_
      rintro _ _ ⟨rfl, rfl⟩
      refine ⟨Nat.le_of_ble_eq_true rfl, ⟨rfl, rfl, rfl⟩, .inl rfl, ?_⟩
      refine vo_stN ?_
      refine vo_call0 Try.func36 rfl rfl rfl rfl (eqIntSS_sat hBaBases hLaBases hBaBases hLaBases) ?_
      rintro _ _ ⟨rfl, rfl⟩
      refine ⟨rfl, rfl, .inr rfl, ?_⟩
      refine vo_not rfl rfl ?_
      refine vo_nil ?_
      refine hK14 _ ?_
      refine vc_cond rfl (fun hc3 => ?_) (fun hc3 => ?_)
      · try simp only [decide_eq_true_eq, decide_eq_false_iff_not, beq_iff_eq, bne_iff_ne, beq_eq_false_iff_ne, bne_eq_false_iff_eq, Bool.not_eq_true, Bool.not_eq_false, Bool.not_eq_eq_eq_not, Bool.not_true, Bool.not_false, List.length_map, Int.not_lt, Int.not_le, ne_eq, Decidable.not_not] at hc3
        refine vc_seq fun K15 hK15 => ?_
        refine vc_region ?_
        refine vo_assign_pv rfl rfl ?_
        refine vo_nil ?_
        refine hK15 _ ?_
        refine vc_ret ?_
        change retPv _ _ _ _ _
        refine retPv_mk rfl rfl rfl ⟨?_, rfl⟩
        first | rfl | exact absurd trivial (by assumption) | exact absurd rfl (by assumption) | contradiction | omega
      · try simp only [decide_eq_true_eq, decide_eq_false_iff_not, beq_iff_eq, bne_iff_ne, beq_eq_false_iff_ne, bne_eq_false_iff_eq, Bool.not_eq_true, Bool.not_eq_false, Bool.not_eq_eq_eq_not, Bool.not_true, Bool.not_false, List.length_map, Int.not_lt, Int.not_le, ne_eq, Decidable.not_not] at hc3
        refine vc_skip ?_
        refine hK13 _ ?_
        refine vc_seq fun K16 hK16 => ?_
        refine vc_region ?_
        refine vo_assign_pv rfl rfl ?_
        refine vo_nil ?_
        refine hK16 _ ?_
        refine vc_seq fun K17 hK17 => ?_
        refine vc_region ?_
        refine vo_move_ref rfl rfl ?_
        refine vo_move_pv rfl rfl ?_
        refine vo_call [2] Try.func37 rfl rfl rfl rfl rfl rfl rfl (markIntSS_sat (L := aBases) (by omega) hMaBases (by omega)) ?_
        rintro _ _ ⟨w0, LL0, ⟨hw0, hx0⟩, rfl, rfl⟩
        refine ⟨Nat.le_of_ble_eq_true rfl, ⟨rfl, rfl, rfl⟩, .inl rfl, ?_⟩
        refine vo_stN ?_
        refine vo_assign_pv rfl rfl ?_
        refine vo_nil ?_
        refine hK17 _ ?_
        refine vc_seq fun K18 hK18 => ?_
        refine vc_seq fun K19 hK19 => ?_
        refine vc_region ?_
        refine vo_move_pv rfl rfl ?_
        refine vo_binI rfl rfl rfl rfl trivial ?_
        refine vo_move_pv rfl rfl ?_
        refine vo_split 41 rfl (fun hg4 => ?_) (fun hg4 => ?_)
        · try simp only [decide_eq_true_eq, decide_eq_false_iff_not, beq_iff_eq, bne_iff_ne, beq_eq_false_iff_ne, bne_eq_false_iff_eq, Bool.not_eq_true, Bool.not_eq_false, Bool.not_eq_eq_eq_not, Bool.not_true, Bool.not_false, List.length_map, Int.not_lt, Int.not_le, ne_eq, Decidable.not_not] at hg4
          refine vo_guard_off rfl rfl rfl rfl rfl ?_
          refine vo_guard_off rfl rfl rfl rfl rfl ?_
          refine vo_guard_off rfl rfl rfl rfl rfl ?_
          refine vo_guard_off rfl rfl rfl rfl rfl ?_
          refine vo_pick_t rfl rfl ?_
          refine vo_nil ?_
          refine hK19 _ ?_
          refine vc_cond_t rfl ?_
          refine vc_seq fun K20 hK20 => ?_
          refine vc_region ?_
          refine vo_assign_pv rfl rfl ?_
          refine vo_nil ?_
          refine hK20 _ ?_
          refine vc_ret ?_
          change retPv _ _ _ _ _
          refine retPv_mk rfl rfl rfl ⟨?_, rfl⟩
          first | rfl | exact absurd trivial (by assumption) | exact absurd rfl (by assumption) | contradiction | omega
        · try simp only [decide_eq_true_eq, decide_eq_false_iff_not, beq_iff_eq, bne_iff_ne, beq_eq_false_iff_ne, bne_eq_false_iff_eq, Bool.not_eq_true, Bool.not_eq_false, Bool.not_eq_eq_eq_not, Bool.not_true, Bool.not_false, List.length_map, Int.not_lt, Int.not_le, ne_eq, Decidable.not_not] at hg4
          refine vo_guard_on rfl rfl rfl ?_
          refine vo_move_ref rfl rfl ?_
          refine vo_guard_on rfl rfl rfl ?_
          refine vo_move_ref rfl rfl ?_
          refine vo_guard_on rfl rfl rfl ?_
          refine vo_call0 Try.func35 rfl rfl rfl rfl (eqIntS_sat (a := lmR aBases aC) (b := lmR aBases aC) hX hX) ?_
          rintro _ _ ⟨rfl, rfl⟩
          refine ⟨rfl, rfl, .inr rfl, ?_⟩
          refine vo_guard_on rfl rfl rfl ?_
          refine vo_not rfl rfl ?_
          refine vo_pick_f rfl rfl ?_
          refine vo_nil ?_
          refine hK19 _ ?_
          refine vc_cond rfl (fun hc5 => ?_) (fun hc5 => ?_)
          · try simp only [decide_eq_true_eq, decide_eq_false_iff_not, beq_iff_eq, bne_iff_ne, beq_eq_false_iff_ne, bne_eq_false_iff_eq, Bool.not_eq_true, Bool.not_eq_false, Bool.not_eq_eq_eq_not, Bool.not_true, Bool.not_false, List.length_map, Int.not_lt, Int.not_le, ne_eq, Decidable.not_not] at hc5
            refine vc_seq fun K21 hK21 => ?_
            refine vc_region ?_
            refine vo_assign_pv rfl rfl ?_
            refine vo_nil ?_
            refine hK21 _ ?_
            refine vc_ret ?_
            change retPv _ _ _ _ _
            refine retPv_mk rfl rfl rfl ⟨?_, rfl⟩
            first | rfl | exact absurd trivial (by assumption) | exact absurd rfl (by assumption) | contradiction | omega
          · try simp only [decide_eq_true_eq, decide_eq_false_iff_not, beq_iff_eq, bne_iff_ne, beq_eq_false_iff_ne, bne_eq_false_iff_eq, Bool.not_eq_true, Bool.not_eq_false, Bool.not_eq_eq_eq_not, Bool.not_true, Bool.not_false, List.length_map, Int.not_lt, Int.not_le, ne_eq, Decidable.not_not] at hc5
            refine vc_skip ?_
            refine hK18 _ ?_
            refine vc_seq fun K22 hK22 => ?_
            refine vc_region ?_
            refine vo_assign_pv rfl rfl ?_
            refine vo_nil ?_
            refine hK22 _ ?_
            refine vc_seq fun K23 hK23 => ?_
            refine vc_region ?_
            refine vo_move_ref rfl rfl ?_
            refine vo_move_pv rfl rfl ?_
            refine vo_call [3] Try.func38 rfl rfl rfl rfl rfl rfl rfl (markIntS_sat (a := lmR aBases aC) hX (by omega)) ?_
            rintro _ _ ⟨_, rfl, -, -, rfl, rfl⟩
            refine ⟨Nat.le_of_ble_eq_true rfl, ⟨rfl, rfl, rfl⟩, .inl rfl, ?_⟩
            refine vo_stN ?_
            refine vo_assign_pv rfl rfl ?_
            refine vo_nil ?_
            refine hK23 _ ?_
            refine vc_seq fun K24 hK24 => ?_
            refine vc_region ?_
            refine vo_assign_pv rfl rfl ?_
            refine vo_nil ?_
            refine hK24 _ ?_
            refine vc_seq fun K25 hK25 => ?_
            refine vc_region ?_
            refine vo_move_ref rfl rfl ?_
            refine vo_move_pv rfl rfl ?_
            refine vo_call0 Try.func39 rfl rfl rfl rfl (heldIntS_sat (k := 1) (n := (lmR aBases aC).length) hX (by omega)) ?_
            rintro _ _ ⟨rfl, rfl⟩
            refine ⟨rfl, rfl, .inr rfl, ?_⟩
            refine vo_assign_pv rfl rfl ?_
            refine vo_nil ?_
            refine hK25 _ ?_
            refine vc_seq fun K26 hK26 => ?_
            refine vc_seq fun K27 hK27 => ?_
            refine vc_region ?_
            refine vo_move_pv rfl rfl ?_
            refine vo_binI rfl rfl rfl rfl trivial ?_
            refine vo_nil ?_
            refine hK27 _ ?_
            refine vc_cond rfl (fun hc6 => ?_) (fun hc6 => ?_)
            · try simp only [decide_eq_true_eq, decide_eq_false_iff_not, beq_iff_eq, bne_iff_ne, beq_eq_false_iff_ne, bne_eq_false_iff_eq, Bool.not_eq_true, Bool.not_eq_false, Bool.not_eq_eq_eq_not, Bool.not_true, Bool.not_false, List.length_map, Int.not_lt, Int.not_le, ne_eq, Decidable.not_not] at hc6
              refine vc_seq fun K28 hK28 => ?_
              refine vc_region ?_
              refine vo_assign_pv rfl rfl ?_
              refine vo_nil ?_
              refine hK28 _ ?_
              refine vc_ret ?_
              change retPv _ _ _ _ _
              refine retPv_mk rfl rfl rfl ⟨?_, rfl⟩
              first | rfl | exact absurd trivial (by assumption) | exact absurd rfl (by assumption) | contradiction | omega
            · try simp only [decide_eq_true_eq, decide_eq_false_iff_not, beq_iff_eq, bne_iff_ne, beq_eq_false_iff_ne, bne_eq_false_iff_eq, Bool.not_eq_true, Bool.not_eq_false, Bool.not_eq_eq_eq_not, Bool.not_true, Bool.not_false, List.length_map, Int.not_lt, Int.not_le, ne_eq, Decidable.not_not] at hc6
              refine vc_skip ?_
              refine hK26 _ ?_
              refine vc_seq fun K29 hK29 => ?_
              refine vc_seq fun K30 hK30 => ?_
              refine vc_region ?_
              refine vo_move_pv rfl rfl ?_
              refine vo_move_pv rfl rfl ?_
              refine vo_binI rfl rfl rfl rfl trivial ?_
              refine vo_nil ?_
              refine hK30 _ ?_
              refine vc_cond rfl (fun hc7 => ?_) (fun hc7 => ?_)
              · try simp only [decide_eq_true_eq, decide_eq_false_iff_not, beq_iff_eq, bne_iff_ne, beq_eq_false_iff_ne, bne_eq_false_iff_eq, Bool.not_eq_true, Bool.not_eq_false, Bool.not_eq_eq_eq_not, Bool.not_true, Bool.not_false, List.length_map, Int.not_lt, Int.not_le, ne_eq, Decidable.not_not] at hc7
                refine vc_seq fun K31 hK31 => ?_
                refine vc_region ?_
                refine vo_assign_pv rfl rfl ?_
                refine vo_nil ?_
                refine hK31 _ ?_
                refine vc_ret ?_
                change retPv _ _ _ _ _
                refine retPv_mk rfl rfl rfl ⟨?_, rfl⟩
                first | rfl | exact absurd trivial (by assumption) | exact absurd rfl (by assumption) | contradiction | omega
              · try simp only [decide_eq_true_eq, decide_eq_false_iff_not, beq_iff_eq, bne_iff_ne, beq_eq_false_iff_ne, bne_eq_false_iff_eq, Bool.not_eq_true, Bool.not_eq_false, Bool.not_eq_eq_eq_not, Bool.not_true, Bool.not_false, List.length_map, Int.not_lt, Int.not_le, ne_eq, Decidable.not_not] at hc7
                refine vc_skip ?_
                refine hK29 _ ?_
                refine vc_seq fun K32 hK32 => ?_
                refine vc_region ?_
                refine vo_move_pv rfl rfl ?_
                refine vo_call [] Try.func34 rfl rfl rfl rfl rfl rfl rfl (toIntSST_sat hBaBases hLaBases) ?_
                rintro _ _ ⟨rfl, rfl⟩
                refine ⟨Nat.le_of_ble_eq_true rfl, ⟨rfl, rfl, rfl⟩, .inl rfl, ?_⟩
                refine vo_stN ?_
                refine vo_move_pv rfl rfl ?_
                refine vo_call [] Try.func29 rfl rfl rfl rfl rfl rfl rfl (implLastMet_sat (c := aC) hBaBases hLaBases) ?_
                rintro _ _ ⟨nl911, rfl, rfl⟩
                refine ⟨Nat.le_of_ble_eq_true rfl, ⟨rfl, rfl, rfl⟩, .inr ⟨rfl, rfl⟩, ?_⟩
                refine vo_stN ?_
                refine vo_assign_ref rfl rfl ?_
                refine vo_nil ?_
                refine hK32 _ ?_
                refine vc_seq fun K33 hK33 => ?_
                refine vc_seq fun K34 hK34 => ?_
                refine vc_region ?_
                refine vo_move_ref rfl rfl ?_
                refine vo_move_ref rfl rfl ?_
                refine vo_call0 Try.func35 rfl rfl rfl rfl (eqIntS_sat (a := lmR aBases aC) (b := lmR aBases aC) hX hX) ?_
                rintro _ _ ⟨rfl, rfl⟩
                refine ⟨rfl, rfl, .inr rfl, ?_⟩
                refine vo_not rfl rfl ?_
                refine vo_nil ?_
                refine hK34 _ ?_
                refine vc_cond rfl (fun hc8 => ?_) (fun hc8 => ?_)
                · try simp only [decide_eq_true_eq, decide_eq_false_iff_not, beq_iff_eq, bne_iff_ne, beq_eq_false_iff_ne, bne_eq_false_iff_eq, Bool.not_eq_true, Bool.not_eq_false, Bool.not_eq_eq_eq_not, Bool.not_true, Bool.not_false, List.length_map, Int.not_lt, Int.not_le, ne_eq, Decidable.not_not] at hc8
                  refine vc_seq fun K35 hK35 => ?_
                  refine vc_region ?_
                  refine vo_assign_pv rfl rfl ?_
                  refine vo_nil ?_
                  refine hK35 _ ?_
                  refine vc_ret ?_
                  change retPv _ _ _ _ _
                  refine retPv_mk rfl rfl rfl ⟨?_, rfl⟩
                  first | rfl | exact absurd trivial (by assumption) | exact absurd rfl (by assumption) | contradiction | omega
                · try simp only [decide_eq_true_eq, decide_eq_false_iff_not, beq_iff_eq, bne_iff_ne, beq_eq_false_iff_ne, bne_eq_false_iff_eq, Bool.not_eq_true, Bool.not_eq_false, Bool.not_eq_eq_eq_not, Bool.not_true, Bool.not_false, List.length_map, Int.not_lt, Int.not_le, ne_eq, Decidable.not_not] at hc8
                  refine vc_skip ?_
                  refine hK33 _ ?_
                  refine vc_seq fun K36 hK36 => ?_
                  refine vc_region ?_
                  refine vo_assign_pv rfl rfl ?_
                  refine vo_nil ?_
                  refine hK36 _ ?_
                  refine vc_seq fun K37 hK37 => ?_
                  refine vc_region ?_
                  refine vo_move_ref rfl rfl ?_
                  refine vo_move_pv rfl rfl ?_
                  refine vo_call0 Try.func39 rfl rfl rfl rfl (heldIntS_sat (k := 1) (n := (lmR aBases aC).length) hX (by omega)) ?_
                  rintro _ _ ⟨rfl, rfl⟩
                  refine ⟨rfl, rfl, .inr rfl, ?_⟩
                  refine vo_assign_pv rfl rfl ?_
                  refine vo_nil ?_
                  refine hK37 _ ?_
                  refine vc_seq fun K38 hK38 => ?_
                  refine vc_seq fun K39 hK39 => ?_
                  refine vc_region ?_
                  refine vo_move_pv rfl rfl ?_
                  refine vo_binI rfl rfl rfl rfl trivial ?_
                  refine vo_nil ?_
                  refine hK39 _ ?_
                  refine vc_cond rfl (fun hc9 => ?_) (fun hc9 => ?_)
                  · try simp only [decide_eq_true_eq, decide_eq_false_iff_not, beq_iff_eq, bne_iff_ne, beq_eq_false_iff_ne, bne_eq_false_iff_eq, Bool.not_eq_true, Bool.not_eq_false, Bool.not_eq_eq_eq_not, Bool.not_true, Bool.not_false, List.length_map, Int.not_lt, Int.not_le, ne_eq, Decidable.not_not] at hc9
                    refine vc_seq fun K40 hK40 => ?_
                    refine vc_region ?_
                    refine vo_assign_pv rfl rfl ?_
                    refine vo_nil ?_
                    refine hK40 _ ?_
                    refine vc_ret ?_
                    change retPv _ _ _ _ _
                    refine retPv_mk rfl rfl rfl ⟨?_, rfl⟩
                    first | rfl | exact absurd trivial (by assumption) | exact absurd rfl (by assumption) | contradiction | omega
                  · try simp only [decide_eq_true_eq, decide_eq_false_iff_not, beq_iff_eq, bne_iff_ne, beq_eq_false_iff_ne, bne_eq_false_iff_eq, Bool.not_eq_true, Bool.not_eq_false, Bool.not_eq_eq_eq_not, Bool.not_true, Bool.not_false, List.length_map, Int.not_lt, Int.not_le, ne_eq, Decidable.not_not] at hc9
                    refine vc_skip ?_
                    refine hK38 _ ?_
                    refine vc_seq fun K41 hK41 => ?_
                    refine vc_seq fun K42 hK42 => ?_
                    refine vc_region ?_
                    refine vo_move_pv rfl rfl ?_
                    refine vo_move_pv rfl rfl ?_
                    refine vo_binI rfl rfl rfl rfl trivial ?_
                    refine vo_nil ?_
                    refine hK42 _ ?_
                    refine vc_cond rfl (fun hc10 => ?_) (fun hc10 => ?_)
                    · try simp only [decide_eq_true_eq, decide_eq_false_iff_not, beq_iff_eq, bne_iff_ne, beq_eq_false_iff_ne, bne_eq_false_iff_eq, Bool.not_eq_true, Bool.not_eq_false, Bool.not_eq_eq_eq_not, Bool.not_true, Bool.not_false, List.length_map, Int.not_lt, Int.not_le, ne_eq, Decidable.not_not] at hc10
                      refine vc_seq fun K43 hK43 => ?_
                      refine vc_region ?_
                      refine vo_assign_pv rfl rfl ?_
                      refine vo_nil ?_
                      refine hK43 _ ?_
                      refine vc_ret ?_
                      change retPv _ _ _ _ _
                      refine retPv_mk rfl rfl rfl ⟨?_, rfl⟩
                      first | rfl | exact absurd trivial (by assumption) | exact absurd rfl (by assumption) | contradiction | omega
                    · try simp only [decide_eq_true_eq, decide_eq_false_iff_not, beq_iff_eq, bne_iff_ne, beq_eq_false_iff_ne, bne_eq_false_iff_eq, Bool.not_eq_true, Bool.not_eq_false, Bool.not_eq_eq_eq_not, Bool.not_true, Bool.not_false, List.length_map, Int.not_lt, Int.not_le, ne_eq, Decidable.not_not] at hc10
                      refine vc_skip ?_
                      refine hK41 _ ?_
                      refine vc_seq fun K44 hK44 => ?_
                      refine vc_region ?_
                      refine vo_assign_pv rfl rfl ?_
                      refine vo_nil ?_
                      refine hK44 _ ?_
                      refine vc_ret ?_
                      change retPv _ _ _ _ _
                      refine retPv_mk rfl rfl rfl ⟨?_, rfl⟩
                      first | rfl | exact absurd trivial (by assumption) | exact absurd rfl (by assumption) | contradiction | omega

end Go.Vl

namespace Go.Vl
set_option linter.unusedVariables false
set_option linter.unusedSimpArgs false
open Go.Proofs

/-- A reader that has given p numbers. -/
abbrev rdr (nl : Option Bool) (c : List (Fin 256)) (p : Nat) : Row := .var 68 [.pv false (.sl nl 1 (c.map byteP)), i64 p]
/-- Bases as the readers make them. -/
def SB (B : List (List Int)) : Prop := 1 ≤ B.length ∧ B.getD 0 [] = [] ∧ ∀ i, i < B.length → 0 < i → B.getD i [] ≠ [] ∧ (B.getD i []).length ≤ 3 ∧ (B.getD i []).Nodup ∧ ∀ x ∈ B.getD i [], 0 ≤ x ∧ x < i
theorem getD_app {α : Type} {l l' : List α} {i : Nat} (h : i < l.length) (d : α) : (l ++ l').getD i d = l.getD i d := by simp [List.getD, List.getElem?_append_left h]
theorem getD_end {α : Type} {l : List α} {x : α} (d : α) : (l ++ [x]).getD l.length d = x := by simp [List.getD]
theorem nodup_snoc {l : List Int} {x : Int} (h : l.Nodup) (hx : x ∉ l) : (l ++ [x]).Nodup := by
  rw [List.nodup_append]; exact ⟨h, by simp, fun a ha b hb e => hx (by rw [List.mem_singleton.1 hb] at e; exact e ▸ ha)⟩
theorem SB.snoc {B : List (List Int)} {l : List Int} (h : SB B) (h1 : l ≠ []) (h2 : l.length ≤ 3) (h3 : l.Nodup) (h4 : ∀ x ∈ l, 0 ≤ x ∧ x < B.length) : SB (B ++ [l]) := by
  obtain ⟨a1, a2, a3⟩ := h
  refine ⟨by simp, by rw [getD_app (by omega)]; exact a2, fun i hi h0 => ?_⟩
  rcases Nat.lt_or_ge i B.length with hb | hb
  · rw [getD_app hb]; exact a3 i hb h0
  · have : i = B.length := by simp at hi; omega
    subst this
    rw [getD_end]
    exact ⟨h1, h2, h3, h4⟩
theorem SB.lens {B : List (List Int)} (h : SB B) : ∀ l ∈ B, l.length ≤ 3 := by
  intro l hl
  obtain ⟨i, hi, rfl⟩ := List.getElem_of_mem hl
  have e : B[i] = B.getD i [] := by simp [List.getD, List.getElem?_eq_getElem hi]
  rw [e]
  rcases Nat.eq_zero_or_pos i with rfl | h0
  · rw [h.2.1]; simp
  · exact (h.2.2 i hi h0).2.1

theorem newReader_sat {nl : Option Bool} {c : List (Fin 256)} (hl : c.length < 1000000000) : SatAt Try.prog 57 [.pv false (.sl nl 1 (c.map byteP))] [] (fun res rows => ∃ nl2 c2, c2.length ≤ 2000 ∧ res = [.ptr 0 0 0 0] ∧ rows = [rdr nl2 c2 0]) := by
  refine sat_entry_g (ts := [2]) Try.func57 rfl rfl (by decide) (Nat.le_of_ble_eq_true rfl) fun C hC => ?_
  rw [Try.ntmps57]
  replace hC : C.nb = 0 := hC
  refine vc_seq fun K1 hK1 => ?_
  refine vc_region ?_
  refine vo_assign rfl ?_
  refine vo_nil ?_
  refine hK1 _ ?_
  refine vc_seq fun K2 hK2 => ?_
  refine vc_seq fun K3 hK3 => ?_
  refine vc_region ?_
  refine vo_move_pv rfl rfl ?_
  refine vo_len_pv rfl rfl Try.underlying22 ?_
  refine vo_binI rfl rfl rfl rfl trivial ?_
  refine vo_nil ?_
  refine hK3 _ ?_
  refine vc_cond rfl (fun hc1 => ?_) (fun hc1 => ?_)
  · try simp only [decide_eq_true_eq, decide_eq_false_iff_not, beq_iff_eq, bne_iff_ne, beq_eq_false_iff_ne, bne_eq_false_iff_eq, Bool.not_eq_true, Bool.not_eq_false, Bool.not_eq_eq_eq_not, Bool.not_true, Bool.not_false, List.length_map, Int.not_lt, Int.not_le, ne_eq, Decidable.not_not] at hc1
    refine vc_region ?_
    refine vo_move_pv rfl rfl ?_
    refine vo_slice_pv rfl rfl rfl rfl E22.und inf5 sz5 sd sd sd ?_
    simp only [Int.toNat_natCast, Int.toNat_zero, List.drop_zero, Nat.sub_zero, ← List.map_drop, ← List.map_take]
    refine vo_assign_pv rfl rfl ?_
    refine vo_nil ?_
    refine hK2 _ ?_
    refine vc_seq fun K4 hK4 => ?_
    refine vc_region ?_
    refine vo_move_pv rfl rfl ?_
    refine vo_build S68 rfl rfl rfl ?_
    refine vo_box rfl rfl ?_
    refine vo_assign_ptr rfl rfl ?_
    refine vo_nil ?_
    refine hK4 _ ?_
    refine vc_ret ?_
    change retG _ _ _ _ _
    refine retG_one 0 hC rfl rfl rfl rfl rfl ?_
    refine ⟨_, _, ?_, rfl, rfl⟩
    first | omega | (simp; omega)
  · try simp only [decide_eq_true_eq, decide_eq_false_iff_not, beq_iff_eq, bne_iff_ne, beq_eq_false_iff_ne, bne_eq_false_iff_eq, Bool.not_eq_true, Bool.not_eq_false, Bool.not_eq_eq_eq_not, Bool.not_true, Bool.not_false, List.length_map, Int.not_lt, Int.not_le, ne_eq, Decidable.not_not] at hc1
    refine vc_skip ?_
    refine hK2 _ ?_
    refine vc_seq fun K5 hK5 => ?_
    refine vc_region ?_
    refine vo_move_pv rfl rfl ?_
    refine vo_build S68 rfl rfl rfl ?_
    refine vo_box rfl rfl ?_
    refine vo_assign_ptr rfl rfl ?_
    refine vo_nil ?_
    refine hK5 _ ?_
    refine vc_ret ?_
    change retG _ _ _ _ _
    refine retG_one 0 hC rfl rfl rfl rfl rfl ?_
    refine ⟨_, _, ?_, rfl, rfl⟩
    first | omega | (simp; omega)


theorem pick_sat {nl : Option Bool} {c : List (Fin 256)} {p : Nat} {n : Int} (hc : c.length ≤ 2000) (hp : p < 1000000) : SatAt Try.prog 58 [.ptr 0 0 0 0, i64 n] [rdr nl c p] (fun res rows => ∃ x, (0 ≤ x ∧ (1 ≤ n → x < n)) ∧ res = [i64 x] ∧ rows = [rdr nl c (p + 1)]) := by
  have hL : ((c.map byteP).length : Int) = c.length := by simp
  refine sat_entry_g (ts := [4]) Try.func58 rfl rfl (by decide) (Nat.le_of_ble_eq_true rfl) fun C hC => ?_
  rw [Try.ntmps58]
  replace hC : C.nb = 1 := hC
  refine vc_seq fun K1 hK1 => ?_
  refine vc_region ?_
  refine vo_assign_pv rfl rfl ?_
  refine vo_nil ?_
  refine hK1 _ ?_
  refine vc_seq fun K2 hK2 => ?_
  refine vc_region ?_
  refine vo_move_ptr rfl rfl ?_
  refine vo_move_ptr rfl rfl ?_
  refine vo_nilCheck_ptr rfl rfl ?_
  refine vo_fieldAddr_ptr rfl rfl Try.underlying68 rfl inf3 (by rw [sz3]; decide) ?_
  refine vo_load_var rfl rfl rfl Try.underlying3 rfl rfl ?_
  refine vo_binI rfl rfl rfl rfl sd ?_
  refine vo_nilCheck_ptr rfl rfl ?_
  refine vo_fieldAddr_ptr rfl rfl Try.underlying68 rfl inf3 (by rw [sz3]; decide) ?_
  refine vo_store_var rfl rfl rfl rfl inf3 sz3 rfl ?_
  refine vo_nil ?_
  refine hK2 _ ?_
  refine vc_seq fun K3 hK3 => ?_
  refine vc_seq fun K4 hK4 => ?_
  refine vc_region ?_
  refine vo_move_pv rfl rfl ?_
  refine vo_binI rfl rfl rfl rfl trivial ?_
  refine vo_move_pv rfl rfl ?_
  refine vo_split 17 rfl (fun hg1 => ?_) (fun hg1 => ?_)
  · try simp only [decide_eq_true_eq, decide_eq_false_iff_not, beq_iff_eq, bne_iff_ne, beq_eq_false_iff_ne, bne_eq_false_iff_eq, Bool.not_eq_true, Bool.not_eq_false, Bool.not_eq_eq_eq_not, Bool.not_true, Bool.not_false, List.length_map, Int.not_lt, Int.not_le, ne_eq, Decidable.not_not] at hg1
    refine vo_guard_off rfl rfl rfl rfl rfl ?_
    refine vo_guard_off rfl rfl rfl rfl rfl ?_
    refine vo_guard_off rfl rfl rfl rfl rfl ?_
    refine vo_guard_off rfl rfl rfl rfl rfl ?_
    refine vo_guard_off rfl rfl rfl rfl rfl ?_
    refine vo_guard_off rfl rfl rfl rfl rfl ?_
    refine vo_pick_t rfl rfl ?_
    refine vo_nil ?_
    refine hK4 _ ?_
    refine vc_cond_t rfl ?_
    refine vc_seq fun K5 hK5 => ?_
    refine vc_region ?_
    refine vo_assign_pv rfl rfl ?_
    refine vo_nil ?_
    refine hK5 _ ?_
    refine vc_ret ?_
    change retG _ _ _ _ _
    refine retG_sel [] [] hC rfl rfl rfl rfl rfl rfl ?_
    exact ⟨_, ⟨by omega, by omega⟩, rfl, rfl⟩
  · try simp only [decide_eq_true_eq, decide_eq_false_iff_not, beq_iff_eq, bne_iff_ne, beq_eq_false_iff_ne, bne_eq_false_iff_eq, Bool.not_eq_true, Bool.not_eq_false, Bool.not_eq_eq_eq_not, Bool.not_true, Bool.not_false, List.length_map, Int.not_lt, Int.not_le, ne_eq, Decidable.not_not] at hg1
    refine vo_guard_on rfl rfl rfl ?_
    refine vo_move_ptr rfl rfl ?_
    refine vo_guard_on rfl rfl rfl ?_
    refine vo_nilCheck_ptr rfl rfl ?_
    refine vo_guard_on rfl rfl rfl ?_
    refine vo_fieldAddr_ptr rfl rfl Try.underlying68 rfl inf22 (by rw [sz22]; decide) ?_
    refine vo_guard_on rfl rfl rfl ?_
    refine vo_load_var rfl rfl rfl Try.underlying22 rfl rfl ?_
    refine vo_guard_on rfl rfl rfl ?_
    refine vo_len_pv rfl rfl Try.underlying22 ?_
    refine vo_guard_on rfl rfl rfl ?_
    refine vo_binI rfl rfl rfl rfl trivial ?_
    refine vo_pick_f rfl rfl ?_
    refine vo_nil ?_
    refine hK4 _ ?_
    refine vc_cond rfl (fun hc2 => ?_) (fun hc2 => ?_)
    · try simp only [decide_eq_true_eq, decide_eq_false_iff_not, beq_iff_eq, bne_iff_ne, beq_eq_false_iff_ne, bne_eq_false_iff_eq, Bool.not_eq_true, Bool.not_eq_false, Bool.not_eq_eq_eq_not, Bool.not_true, Bool.not_false, List.length_map, Int.not_lt, Int.not_le, ne_eq, Decidable.not_not] at hc2
      refine vc_seq fun K6 hK6 => ?_
      refine vc_region ?_
      refine vo_assign_pv rfl rfl ?_
      refine vo_nil ?_
      refine hK6 _ ?_
      refine vc_ret ?_
      change retG _ _ _ _ _
      refine retG_sel [] [] hC rfl rfl rfl rfl rfl rfl ?_
      exact ⟨_, ⟨by omega, by omega⟩, rfl, rfl⟩
    · try simp only [decide_eq_true_eq, decide_eq_false_iff_not, beq_iff_eq, bne_iff_ne, beq_eq_false_iff_ne, bne_eq_false_iff_eq, Bool.not_eq_true, Bool.not_eq_false, Bool.not_eq_eq_eq_not, Bool.not_true, Bool.not_false, List.length_map, Int.not_lt, Int.not_le, ne_eq, Decidable.not_not] at hc2
      refine vc_skip ?_
      refine hK3 _ ?_
      refine vc_seq fun K7 hK7 => ?_
      refine vc_region ?_
      refine vo_move_ptr rfl rfl ?_
      refine vo_nilCheck_ptr rfl rfl ?_
      refine vo_fieldAddr_ptr rfl rfl Try.underlying68 rfl inf3 (by rw [sz3]; decide) ?_
      refine vo_load_var rfl rfl rfl Try.underlying3 rfl rfl ?_
      refine vo_binI rfl rfl rfl rfl sd ?_
      refine vo_assign_pv rfl rfl ?_
      refine vo_nil ?_
      refine hK7 _ ?_
      refine vc_seq fun K8 hK8 => ?_
      refine vc_seq fun K9 hK9 => ?_
      refine vc_region ?_
      refine vo_move_pv rfl rfl ?_
      refine vo_move_ptr rfl rfl ?_
      refine vo_nilCheck_ptr rfl rfl ?_
      refine vo_fieldAddr_ptr rfl rfl Try.underlying68 rfl inf22 (by rw [sz22]; decide) ?_
      refine vo_load_var rfl rfl rfl Try.underlying22 rfl rfl ?_
      refine vo_len_pv rfl rfl Try.underlying22 ?_
      refine vo_binI rfl rfl rfl rfl trivial ?_
      refine vo_nil ?_
      refine hK9 _ ?_
      refine vc_cond rfl (fun hc3 => ?_) (fun hc3 => ?_)
      · try simp only [decide_eq_true_eq, decide_eq_false_iff_not, beq_iff_eq, bne_iff_ne, beq_eq_false_iff_ne, bne_eq_false_iff_eq, Bool.not_eq_true, Bool.not_eq_false, Bool.not_eq_eq_eq_not, Bool.not_true, Bool.not_false, List.length_map, Int.not_lt, Int.not_le, ne_eq, Decidable.not_not] at hc3
        refine vc_seq fun K10 hK10 => ?_
        refine vc_region ?_
        refine vo_move_ptr rfl rfl ?_
        refine vo_nilCheck_ptr rfl rfl ?_
        refine vo_fieldAddr_ptr rfl rfl Try.underlying68 rfl inf22 (by rw [sz22]; decide) ?_
        refine vo_load_var rfl rfl rfl Try.underlying22 rfl rfl ?_
        refine vo_move_pv rfl rfl ?_
        refine vo_index_pv (.int .u8 0) rfl rfl rfl E22.und inf5 sz5 sd sd ?_
        simp only [Int.toNat_natCast, Int.toNat_zero, getD_ints, getD_intss, getD_bools, getD_bytes, PV.cells]
        refine vo_load_adr rfl rfl Try.underlying5 rfl ?_
        refine vo_convI rfl rfl Try.underlying5 Try.underlying3 sd ?_
        refine vo_move_pv rfl rfl ?_
        refine vo_binI rfl rfl rfl rfl sd ?_
        refine vo_assign_pv rfl rfl ?_
        refine vo_nil ?_
        refine hK10 _ ?_
        refine vc_ret ?_
        change retG _ _ _ _ _
        refine retG_sel [] [] hC rfl rfl rfl rfl rfl rfl ?_
        exact ⟨_, ⟨Int.emod_nonneg _ (by omega), fun h => Int.emod_lt_of_pos _ (by omega)⟩, rfl, rfl⟩
      · try simp only [decide_eq_true_eq, decide_eq_false_iff_not, beq_iff_eq, bne_iff_ne, beq_eq_false_iff_ne, bne_eq_false_iff_eq, Bool.not_eq_true, Bool.not_eq_false, Bool.not_eq_eq_eq_not, Bool.not_true, Bool.not_false, List.length_map, Int.not_lt, Int.not_le, ne_eq, Decidable.not_not] at hc3
        have e1 : 0 ≤ ((p : Int) + 1 - 1) % ((c.map byteP).length : Int) := Int.emod_nonneg _ (by omega)
        have e2 : ((p : Int) + 1 - 1) % ((c.map byteP).length : Int) < ((c.map byteP).length : Int) := Int.emod_lt_of_pos _ (by omega)
        have e3 : 0 ≤ (((p : Int) + 1 - 1) * 7 + 3) % ((c.map byteP).length : Int) := Int.emod_nonneg _ (by omega)
        have e4 : (((p : Int) + 1 - 1) * 7 + 3) % ((c.map byteP).length : Int) < ((c.map byteP).length : Int) := Int.emod_lt_of_pos _ (by omega)
        have e5 : 0 ≤ ((p : Int) + 1 - 1) / ((c.map byteP).length : Int) := Int.ediv_nonneg (by omega) (by omega)
        have e6 : ((p : Int) + 1 - 1) / ((c.map byteP).length : Int) ≤ (p : Int) + 1 - 1 := Int.ediv_le_self _ (by omega)
        refine vc_skip ?_
        refine hK8 _ ?_
        refine vc_seq fun K11 hK11 => ?_
        refine vc_draw (by kernel_rfl) ?_
        change VD _ _ _ 46 _ _ _
        refine vd_light 0 rfl rfl rfl (by kernel_rfl) (by kernel_rfl) (by kernel_rfl) (wnt_none rfl) (lt_move_ptr rfl) ?_
        refine vd_light 1 rfl rfl rfl (by kernel_rfl) (by kernel_rfl) (by kernel_rfl) (wnt_none rfl) (lt_nilCheck_ptr rfl) ?_
        refine vd_light 2 rfl rfl rfl (by kernel_rfl) (by kernel_rfl) (by kernel_rfl) (wnt_none rfl) (lt_fieldAddr_ptr rfl Try.underlying68 rfl inf22 (by rw [sz22]; decide)) ?_
        refine vd_light 3 rfl rfl rfl (by kernel_rfl) (by kernel_rfl) (by kernel_rfl) (wnt_none rfl) (lt_load_var rfl rfl Try.underlying22 rfl rfl) ?_
        refine vd_light 4 rfl rfl rfl (by kernel_rfl) (by kernel_rfl) (by kernel_rfl) (wnt_none rfl) (lt_move_pv rfl) ?_
        refine vd_light 5 rfl rfl rfl (by kernel_rfl) (by kernel_rfl) (by kernel_rfl) (wnt_none rfl) (lt_move_ptr rfl) ?_
        refine vd_light 6 rfl rfl rfl (by kernel_rfl) (by kernel_rfl) (by kernel_rfl) (wnt_none rfl) (lt_nilCheck_ptr rfl) ?_
        refine vd_light 7 rfl rfl rfl (by kernel_rfl) (by kernel_rfl) (by kernel_rfl) (wnt_none rfl) (lt_fieldAddr_ptr rfl Try.underlying68 rfl inf22 (by rw [sz22]; decide)) ?_
        refine vd_light 8 rfl rfl rfl (by kernel_rfl) (by kernel_rfl) (by kernel_rfl) (wnt_none rfl) (lt_load_var rfl rfl Try.underlying22 rfl rfl) ?_
        refine vd_light 9 rfl rfl rfl (by kernel_rfl) (by kernel_rfl) (by kernel_rfl) (wnt_none rfl) (lt_len_pv rfl Try.underlying22) ?_
        refine vd_light 10 rfl rfl rfl (by kernel_rfl) (by kernel_rfl) (by kernel_rfl) (wnt_none rfl) (lt_binI rfl rfl rfl sd) ?_
        refine vd_light 11 rfl rfl rfl (by kernel_rfl) (by kernel_rfl) (by kernel_rfl) (wnt_none rfl) (lt_index_pv (.int .u8 0) rfl rfl E22.und inf5 sz5 sd sd) ?_
        simp only [Int.toNat_natCast, Int.toNat_zero, getD_ints, getD_intss, getD_bools, getD_bytes, PV.cells]
        refine vd_light 12 rfl rfl rfl (by kernel_rfl) (by kernel_rfl) (by kernel_rfl) (wnt_none rfl) (lt_load_adr rfl Try.underlying5 rfl) ?_
        refine vd_light 13 rfl rfl rfl (by kernel_rfl) (by kernel_rfl) (by kernel_rfl) (wnt_none rfl) (lt_convI rfl Try.underlying5 Try.underlying3 sd) ?_
        refine vd_light 14 rfl rfl rfl (by kernel_rfl) (by kernel_rfl) (by kernel_rfl) (wnt_none rfl) (lt_binI rfl rfl rfl sd) ?_
        refine vd_light 15 rfl rfl rfl (by kernel_rfl) (by kernel_rfl) (by kernel_rfl) (wnt_none rfl) (lt_move_ptr rfl) ?_
        refine vd_light 16 rfl rfl rfl (by kernel_rfl) (by kernel_rfl) (by kernel_rfl) (wnt_none rfl) (lt_nilCheck_ptr rfl) ?_
        refine vd_light 17 rfl rfl rfl (by kernel_rfl) (by kernel_rfl) (by kernel_rfl) (wnt_none rfl) (lt_fieldAddr_ptr rfl Try.underlying68 rfl inf22 (by rw [sz22]; decide)) ?_
        refine vd_light 18 rfl rfl rfl (by kernel_rfl) (by kernel_rfl) (by kernel_rfl) (wnt_none rfl) (lt_load_var rfl rfl Try.underlying22 rfl rfl) ?_
        refine vd_light 19 rfl rfl rfl (by kernel_rfl) (by kernel_rfl) (by kernel_rfl) (wnt_none rfl) (lt_move_pv rfl) ?_
        refine vd_light 20 rfl rfl rfl (by kernel_rfl) (by kernel_rfl) (by kernel_rfl) (wnt_none rfl) (lt_binI rfl rfl rfl sd) ?_
        refine vd_light 21 rfl rfl rfl (by kernel_rfl) (by kernel_rfl) (by kernel_rfl) (wnt_none rfl) (lt_binI rfl rfl rfl sd) ?_
        refine vd_light 22 rfl rfl rfl (by kernel_rfl) (by kernel_rfl) (by kernel_rfl) (wnt_none rfl) (lt_move_ptr rfl) ?_
        refine vd_light 23 rfl rfl rfl (by kernel_rfl) (by kernel_rfl) (by kernel_rfl) (wnt_none rfl) (lt_nilCheck_ptr rfl) ?_
        refine vd_light 24 rfl rfl rfl (by kernel_rfl) (by kernel_rfl) (by kernel_rfl) (wnt_none rfl) (lt_fieldAddr_ptr rfl Try.underlying68 rfl inf22 (by rw [sz22]; decide)) ?_
        refine vd_light 25 rfl rfl rfl (by kernel_rfl) (by kernel_rfl) (by kernel_rfl) (wnt_none rfl) (lt_load_var rfl rfl Try.underlying22 rfl rfl) ?_
        refine vd_light 26 rfl rfl rfl (by kernel_rfl) (by kernel_rfl) (by kernel_rfl) (wnt_none rfl) (lt_len_pv rfl Try.underlying22) ?_
        refine vd_light 27 rfl rfl rfl (by kernel_rfl) (by kernel_rfl) (by kernel_rfl) (wnt_none rfl) (lt_binI rfl rfl rfl sd) ?_
        refine vd_light 28 rfl rfl rfl (by kernel_rfl) (by kernel_rfl) (by kernel_rfl) (wnt_none rfl) (lt_index_pv (.int .u8 0) rfl rfl E22.und inf5 sz5 sd sd) ?_
        simp only [Int.toNat_natCast, Int.toNat_zero, getD_ints, getD_intss, getD_bools, getD_bytes, PV.cells]
        refine vd_light 29 rfl rfl rfl (by kernel_rfl) (by kernel_rfl) (by kernel_rfl) (wnt_none rfl) (lt_load_adr rfl Try.underlying5 rfl) ?_
        refine vd_light 30 rfl rfl rfl (by kernel_rfl) (by kernel_rfl) (by kernel_rfl) (wnt_none rfl) (lt_convI rfl Try.underlying5 Try.underlying3 sd) ?_
        refine vd_light 31 rfl rfl rfl (by kernel_rfl) (by kernel_rfl) (by kernel_rfl) (wnt_none rfl) (lt_binI rfl rfl rfl sd) ?_
        refine vd_light 32 rfl rfl rfl (by kernel_rfl) (by kernel_rfl) (by kernel_rfl) (wnt_none rfl) (lt_binI rfl rfl rfl sd) ?_
        refine vd_light 33 rfl rfl rfl (by kernel_rfl) (by kernel_rfl) (by kernel_rfl) (wnt_none rfl) (lt_move_pv rfl) ?_
        refine vd_light 34 rfl rfl rfl (by kernel_rfl) (by kernel_rfl) (by kernel_rfl) (wnt_none rfl) (lt_binI rfl rfl rfl sd) ?_
        refine vd_light 35 rfl rfl rfl (by kernel_rfl) (by kernel_rfl) (by kernel_rfl) (wnt_none rfl) (lt_binI rfl rfl rfl sd) ?_
        refine vd_light 36 rfl rfl rfl (by kernel_rfl) (by kernel_rfl) (by kernel_rfl) (wnt_none rfl) (lt_move_pv rfl) ?_
        refine vd_light 37 rfl rfl rfl (by kernel_rfl) (by kernel_rfl) (by kernel_rfl) (wnt_none rfl) (lt_move_ptr rfl) ?_
        refine vd_light 38 rfl rfl rfl (by kernel_rfl) (by kernel_rfl) (by kernel_rfl) (wnt_none rfl) (lt_nilCheck_ptr rfl) ?_
        refine vd_light 39 rfl rfl rfl (by kernel_rfl) (by kernel_rfl) (by kernel_rfl) (wnt_none rfl) (lt_fieldAddr_ptr rfl Try.underlying68 rfl inf22 (by rw [sz22]; decide)) ?_
        refine vd_light 40 rfl rfl rfl (by kernel_rfl) (by kernel_rfl) (by kernel_rfl) (wnt_none rfl) (lt_load_var rfl rfl Try.underlying22 rfl rfl) ?_
        refine vd_light 41 rfl rfl rfl (by kernel_rfl) (by kernel_rfl) (by kernel_rfl) (wnt_none rfl) (lt_len_pv rfl Try.underlying22) ?_
        refine vd_light 42 rfl rfl rfl (by kernel_rfl) (by kernel_rfl) (by kernel_rfl) (wnt_none rfl) (lt_binI rfl rfl rfl sd) ?_
        refine vd_light 43 rfl rfl rfl (by kernel_rfl) (by kernel_rfl) (by kernel_rfl) (wnt_none rfl) (lt_binI rfl rfl rfl sd) ?_
        refine vd_light 44 rfl rfl rfl (by kernel_rfl) (by kernel_rfl) (by kernel_rfl) (wnt_none rfl) (lt_binI rfl rfl rfl sd) ?_
        refine vd_light 45 rfl rfl rfl (by kernel_rfl) (by kernel_rfl) (by kernel_rfl) (wnt_none rfl) (lt_assign_pv rfl) ?_
        refine vd_nil (by kernel_rfl) ?_
        refine hK11 _ ?_
        refine vc_seq fun K12 hK12 => ?_
        refine vc_region ?_
        refine vo_move_pv rfl rfl ?_
        refine vo_move_pv rfl rfl ?_
        refine vo_binI rfl rfl rfl rfl sd ?_
        refine vo_xor rfl rfl rfl sd sd sd sd ?_
        refine vo_assign_pv rfl rfl ?_
        refine vo_nil ?_
        refine hK12 _ ?_
        refine vc_seq fun K13 hK13 => ?_
        refine vc_region ?_
        refine vo_move_pv rfl rfl ?_
        refine vo_move_pv rfl rfl ?_
        refine vo_binI rfl rfl rfl rfl sd ?_
        refine vo_assign_pv rfl rfl ?_
        refine vo_nil ?_
        refine hK13 _ ?_
        refine vc_ret ?_
        change retG _ _ _ _ _
        refine retG_sel [] [] hC rfl rfl rfl rfl rfl rfl ?_
        exact ⟨_, ⟨Int.emod_nonneg _ (by omega), fun h => Int.emod_lt_of_pos _ (by omega)⟩, rfl, rfl⟩


theorem one_sat {nl : Option Bool} {c : List (Fin 256)} {p : Nat} {nl2 : Option Bool} {list : List Int} (hc : c.length ≤ 2000) (hp : p < 1000000) (hn : list ≠ []) (hl : list.length < 1000000000) : SatAt Try.prog 90 [.ptr 0 0 0 0, .pv false (.sl nl2 1 (list.map intP))] [rdr nl c p] (fun res rows => ∃ x, x ∈ list ∧ res = [i64 x] ∧ rows = [rdr nl c (p + 1)]) := by
  have hL : ((list.map intP).length : Int) = list.length := by simp
  have hN := List.length_pos_iff.2 hn
  refine sat_entry_g (ts := [4]) Try.func90 rfl rfl (by decide) (Nat.le_of_ble_eq_true rfl) fun C hC => ?_
  rw [Try.ntmps90]
  replace hC : C.nb = 1 := hC
  refine vc_seq fun K1 hK1 => ?_
  refine vc_region ?_
  refine vo_assign_pv rfl rfl ?_
  refine vo_nil ?_
  refine hK1 _ ?_
  refine vc_seq fun K2 hK2 => ?_
  refine vc_region ?_
  refine vo_move_pv rfl rfl ?_
  refine vo_move_ptr rfl rfl ?_
  refine vo_move_pv rfl rfl ?_
  refine vo_len_pv rfl rfl Try.underlying25 ?_
  refine vo_call [0] Try.func58 rfl rfl rfl rfl rfl rfl rfl (pick_sat hc (by omega)) ?_
  rintro _ _ ⟨x, ⟨hx0, hx1⟩, rfl, rfl⟩
  refine ⟨Nat.le_of_ble_eq_true rfl, ⟨rfl, rfl, rfl⟩, .inl rfl, ?_⟩
  refine vo_stN ?_
  refine vo_index_pv (.int .i64 0) rfl rfl rfl E25.und inf3 sz3 sd sd ?_
  simp only [Int.toNat_natCast, Int.toNat_zero, getD_ints, getD_intss, getD_bools, getD_bytes, PV.cells]
  refine vo_load_adr rfl rfl Try.underlying3 rfl ?_
  refine vo_assign_pv rfl rfl ?_
  refine vo_nil ?_
  refine hK2 _ ?_
  refine vc_ret ?_
  change retG _ _ _ _ _
  refine retG_sel [] [] hC rfl rfl rfl rfl rfl rfl ?_
  exact ⟨_, getD_mem (by omega) 0, rfl, rfl⟩


theorem one2_sat {nl : Option Bool} {c : List (Fin 256)} {p : Nat} {nl2 : Option Bool} {list : List (List Int)} (hc : c.length ≤ 2000) (hp : p < 1000000) (hn : list ≠ []) (hl : list.length < 1000000000) : SatAt Try.prog 97 [.ptr 0 0 0 0, .pv false (.sl nl2 1 (list.map ints))] [rdr nl c p] (fun res rows => ∃ x, x ∈ list ∧ res = [.pv false (ints x)] ∧ rows = [rdr nl c (p + 1)]) := by
  have hL : ((list.map ints).length : Int) = list.length := by simp
  have hN := List.length_pos_iff.2 hn
  refine sat_entry_g (ts := [4]) Try.func97 rfl rfl (by decide) (Nat.le_of_ble_eq_true rfl) fun C hC => ?_
  rw [Try.ntmps97]
  replace hC : C.nb = 1 := hC
  refine vc_seq fun K1 hK1 => ?_
  refine vc_region ?_
  refine vo_assign_pv rfl rfl ?_
  refine vo_nil ?_
  refine hK1 _ ?_
  refine vc_seq fun K2 hK2 => ?_
  refine vc_region ?_
  refine vo_move_pv rfl rfl ?_
  refine vo_move_ptr rfl rfl ?_
  refine vo_move_pv rfl rfl ?_
  refine vo_len_pv rfl rfl Try.underlying23 ?_
  refine vo_call [0] Try.func58 rfl rfl rfl rfl rfl rfl rfl (pick_sat hc (by omega)) ?_
  rintro _ _ ⟨x, ⟨hx0, hx1⟩, rfl, rfl⟩
  refine ⟨Nat.le_of_ble_eq_true rfl, ⟨rfl, rfl, rfl⟩, .inl rfl, ?_⟩
  refine vo_stN ?_
  refine vo_index_pv (.sl none 1 []) rfl rfl rfl E23.und inf25 sz25 sd sd ?_
  simp only [Int.toNat_natCast, Int.toNat_zero, getD_ints, getD_intss, getD_bools, getD_bytes, PV.cells]
  refine vo_load_adr rfl rfl Try.underlying25 rfl ?_
  refine vo_assign_pv rfl rfl ?_
  refine vo_nil ?_
  refine hK2 _ ?_
  refine vc_ret ?_
  change retG _ _ _ _ _
  refine retG_sel [] [] hC rfl rfl rfl rfl rfl rfl ?_
  exact ⟨_, getD_mem (by omega) [], rfl, rfl⟩


theorem someBases_sat {nl : Option Bool} {c : List (Fin 256)} {p : Nat} {most : Int} (hc : c.length ≤ 2000) (hp : p < 999900) : SatAt Try.prog 59 [.ptr 0 0 0 0, i64 most] [rdr nl c p] (fun res rows => ∃ B q, (SB B ∧ B.length ≤ 9 ∧ ((B.length : Int) ≤ most ∨ B.length = 1) ∧ q ≤ p + 90) ∧ res = [.ref 1] ∧ rows = [rdr nl c q, Row.own 25 1 (some false) true (B.map ints)]) := by
  refine sat_entry_g (ts := [4]) Try.func59 rfl rfl (by decide) (Nat.le_of_ble_eq_true rfl) fun C hC => ?_
  rw [Try.ntmps59]
  replace hC : C.nb = 1 := hC
  refine vc_seq fun K1 hK1 => ?_
  refine vc_region ?_
  refine vo_assign_pv rfl rfl ?_
  refine vo_nil ?_
  refine hK1 _ ?_
  refine vc_seq fun K2 hK2 => ?_
  refine vc_region ?_
  refine vo_buildSlice E25 rfl rfl rfl rfl rfl ?_
  refine vo_expose 1 (by omega) rfl ?_
  refine vo_weaken 10 rfl ?_
  refine vo_stN ?_
  refine vo_buildSlice E23 rfl rfl rfl rfl rfl ?_
  refine vo_assign_ref rfl rfl ?_
  refine vo_nil ?_
  refine hK2 _ ?_
  refine vc_seq fun K3 hK3 => ?_
  refine vc_seq fun K4 hK4 => ?_
  refine vc_region ?_
  refine vo_move_ptr rfl rfl ?_
  refine vo_buildSlice E25 rfl rfl rfl rfl rfl ?_
  refine vo_expose 3 (by omega) rfl ?_
  refine vo_weaken 13 rfl ?_
  refine vo_stN ?_
  refine vo_call [0] Try.func90 rfl rfl rfl rfl rfl rfl rfl (one_sat (list := [4,5,3,6,7,2,0,8]) hc (by omega) (by simp) (by simp)) ?_
  rintro _ _ ⟨x, hx, rfl, rfl⟩
  refine ⟨Nat.le_of_ble_eq_true rfl, ⟨rfl, rfl, rfl⟩, .inl rfl, ?_⟩
  refine vo_stN ?_
  refine vo_assign_pv rfl rfl ?_
  refine vo_nil ?_
  refine hK4 _ ?_
  refine vc_block ?_
  refine vc_stN ?_
  refine vc_loop [0, 1, 5, 6] (fun mz vs rows => ∃ (B : List (List Int)) (q : Nat) (n : Int), mz = n.toNat ∧ ((0 ≤ n ∧ B.length + n ≤ 9)) ∧ ((q + 10 * n ≤ p + 90)) ∧ (SB B) ∧ (((B.length : Int) ≤ most ∨ B.length = 1)) ∧ vs = [.ptr 0 0 0 0, i64 most, .ref 2, i64 n] ∧ rows = [rdr nl c q, .dead, Row.own 25 1 (some false) true (B.map ints), .dead]) (x.toNat) (le_len hC rfl) ⟨rfl, rfl⟩ ⟨[[]], p+1, x, rfl, (by simp at hx; simp; omega), (by simp at hx; omega), ⟨by simp, rfl, fun i h1 h2 => by simp at h1; omega⟩, .inr rfl, rfl, rfl⟩ ?_
  rintro mz vs rows - - ⟨B, q, n, rfl, hn, hq, hB, hm, rfl, rfl⟩
  have hBl : ((B.map ints).length : Int) = B.length := by simp
  have hB1 := hB.1
  refine vc_seq fun K5 hK5 => ?_
  refine vc_seq fun K6 hK6 => ?_
  refine vc_region ?_
  refine vo_move_pv rfl rfl ?_
  refine vo_binI rfl rfl rfl rfl trivial ?_
  refine vo_move_pv rfl rfl ?_
  refine vo_split 17 rfl (fun hg1 => ?_) (fun hg1 => ?_)
  · try simp only [decide_eq_true_eq, decide_eq_false_iff_not, beq_iff_eq, bne_iff_ne, beq_eq_false_iff_ne, bne_eq_false_iff_eq, Bool.not_eq_true, Bool.not_eq_false, Bool.not_eq_eq_eq_not, Bool.not_true, Bool.not_false, List.length_map, Int.not_lt, Int.not_le, ne_eq, Decidable.not_not] at hg1
    refine vo_guard_on rfl rfl rfl ?_
    refine vo_move_ref rfl rfl ?_
    refine vo_guard_on rfl rfl rfl ?_
    refine vo_len_ref rfl rfl rfl Try.underlying23 ?_
    refine vo_guard_on rfl rfl rfl ?_
    refine vo_move_pv rfl rfl ?_
    refine vo_guard_on rfl rfl rfl ?_
    refine vo_binI rfl rfl rfl rfl trivial ?_
    refine vo_pick_t rfl rfl ?_
    refine vo_nil ?_
    refine hK6 _ ?_
    refine vc_cond rfl (fun hc2 => ?_) (fun hc2 => ?_)
    · try simp only [decide_eq_true_eq, decide_eq_false_iff_not, beq_iff_eq, bne_iff_ne, beq_eq_false_iff_ne, bne_eq_false_iff_eq, Bool.not_eq_true, Bool.not_eq_false, Bool.not_eq_eq_eq_not, Bool.not_true, Bool.not_false, List.length_map, Int.not_lt, Int.not_le, ne_eq, Decidable.not_not] at hc2
      refine vc_skip ?_
      refine hK5 _ ?_
      refine vc_seq fun K7 hK7 => ?_
      refine vc_block ?_
      refine vc_seq fun K8 hK8 => ?_
      refine vc_region ?_
      refine vo_buildSlice E25 rfl rfl rfl rfl rfl ?_
      refine vo_assign_ref rfl rfl ?_
      refine vo_nil ?_
      refine hK8 _ ?_
      refine vc_seq fun K9 hK9 => ?_
      refine vc_seq fun K10 hK10 => ?_
      refine vc_region ?_
      refine vo_move_ptr rfl rfl ?_
      refine vo_buildSlice E25 rfl rfl rfl rfl rfl ?_
      refine vo_expose 5 (by omega) rfl ?_
      refine vo_weaken 27 rfl ?_
      refine vo_stN ?_
      refine vo_call [0] Try.func90 rfl rfl rfl rfl rfl rfl rfl (one_sat (list := [1,2,2,3]) hc (by omega) (by simp) (by simp)) ?_
      rintro _ _ ⟨y, hy, rfl, rfl⟩
      refine ⟨Nat.le_of_ble_eq_true rfl, ⟨rfl, rfl, rfl⟩, .inl rfl, ?_⟩
      refine vo_stN ?_
      refine vo_assign_pv rfl rfl ?_
      refine vo_nil ?_
      refine hK10 _ ?_
      refine vc_block ?_
      refine vc_stN ?_
      refine vc_loop [0, 1, 5, 6, 7, 8] (fun mz vs rows => ∃ (q : Nat) (k : Int) (l : List Int), mz = k.toNat ∧ ((0 ≤ k ∧ l.length + k ≤ 3)) ∧ ((q + 3 * k + 10 * (n-1) ≤ p + 90)) ∧ (l.Nodup) ∧ ((∀ x ∈ l, 0 ≤ x ∧ x < B.length)) ∧ ((l ≠ [] ∨ 1 ≤ k)) ∧ vs = [.ptr 0 0 0 0, i64 most, .ref 2, i64 n, .ref 4, i64 k] ∧ rows = [rdr nl c q, .dead, Row.own 25 1 (some false) true (B.map ints), .dead, Row.own 3 1 (some false) true (l.map intP), .dead]) (y.toNat) (le_len hC rfl) ⟨rfl, rfl⟩ ⟨q+1, y, [], rfl, (by simp at hy; simp; omega), (by simp at hy; omega), List.nodup_nil, (by simp), (.inr (by simp at hy; omega)), rfl, rfl⟩ ?_
      rintro mz vs rows - - ⟨q, k, l, rfl, hk, hq2, hl, hl2, hl3, rfl, rfl⟩
      refine vc_seq fun K11 hK11 => ?_
      refine vc_seq fun K12 hK12 => ?_
      refine vc_region ?_
      refine vo_move_pv rfl rfl ?_
      refine vo_binI rfl rfl rfl rfl trivial ?_
      refine vo_nil ?_
      refine hK12 _ ?_
      refine vc_cond rfl (fun hc3 => ?_) (fun hc3 => ?_)
      · try simp only [decide_eq_true_eq, decide_eq_false_iff_not, beq_iff_eq, bne_iff_ne, beq_eq_false_iff_ne, bne_eq_false_iff_eq, Bool.not_eq_true, Bool.not_eq_false, Bool.not_eq_eq_eq_not, Bool.not_true, Bool.not_false, List.length_map, Int.not_lt, Int.not_le, ne_eq, Decidable.not_not] at hc3
        refine vc_skip ?_
        refine hK11 _ ?_
        refine vc_seq fun K13 hK13 => ?_
        refine vc_block ?_
        refine vc_seq fun K14 hK14 => ?_
        refine vc_region ?_
        refine vo_move_ptr rfl rfl ?_
        refine vo_move_ref rfl rfl ?_
        refine vo_len_ref rfl rfl rfl Try.underlying23 ?_
        refine vo_binI rfl rfl rfl rfl sd ?_
        refine vo_move_ptr rfl rfl ?_
        refine vo_move_ref rfl rfl ?_
        refine vo_len_ref rfl rfl rfl Try.underlying23 ?_
        refine vo_call [0] Try.func58 rfl rfl rfl rfl rfl rfl rfl (pick_sat hc (by omega)) ?_
        rintro _ _ ⟨x1, ⟨hx1, hx2⟩, rfl, rfl⟩
        refine ⟨Nat.le_of_ble_eq_true rfl, ⟨rfl, rfl, rfl⟩, .inl rfl, ?_⟩
        refine vo_stN ?_
        refine vo_move_ptr rfl rfl ?_
        refine vo_move_ref rfl rfl ?_
        refine vo_len_ref rfl rfl rfl Try.underlying23 ?_
        refine vo_call [0] Try.func58 rfl rfl rfl rfl rfl rfl rfl (pick_sat hc (by omega)) ?_
        rintro _ _ ⟨x2, ⟨hx3, hx4⟩, rfl, rfl⟩
        refine ⟨Nat.le_of_ble_eq_true rfl, ⟨rfl, rfl, rfl⟩, .inl rfl, ?_⟩
        refine vo_stN ?_
        refine vo_buildSlice E25 rfl rfl rfl rfl rfl ?_
        refine vo_expose 6 (by omega) rfl ?_
        refine vo_weaken 45 rfl ?_
        refine vo_stN ?_
        refine vo_call [0] Try.func90 rfl rfl rfl rfl rfl rfl rfl (one_sat (list := [_,_,_]) hc (by omega) (by simp) (by simp)) ?_
        rintro _ _ ⟨x, hx, rfl, rfl⟩
        refine ⟨Nat.le_of_ble_eq_true rfl, ⟨rfl, rfl, rfl⟩, .inl rfl, ?_⟩
        refine vo_stN ?_
        refine vo_assign_pv rfl rfl ?_
        refine vo_nil ?_
        refine hK14 _ ?_
        refine vc_seq fun K15 hK15 => ?_
        refine vc_region ?_
        refine vo_move_ref rfl rfl ?_
        refine vo_move_pv rfl rfl ?_
        refine vo_call0 Try.func69 rfl rfl rfl rfl (placeIn_sat (by omega)) ?_
        rintro _ _ ⟨rfl, rfl⟩
        refine ⟨rfl, rfl, .inr rfl, ?_⟩
        refine vo_binI rfl rfl rfl rfl trivial ?_
        refine vo_nil ?_
        refine hK15 _ ?_
        refine vc_cond rfl (fun hc4 => ?_) (fun hc4 => ?_)
        · try simp only [decide_eq_true_eq, decide_eq_false_iff_not, beq_iff_eq, bne_iff_ne, beq_eq_false_iff_ne, bne_eq_false_iff_eq, Bool.not_eq_true, Bool.not_eq_false, Bool.not_eq_eq_eq_not, Bool.not_true, Bool.not_false, List.length_map, Int.not_lt, Int.not_le, ne_eq, Decidable.not_not] at hc4
          refine vc_region ?_
          refine vo_move_ref rfl rfl ?_
          refine vo_move_pv rfl rfl ?_
          refine vo_buildSlice E25 rfl rfl rfl rfl rfl ?_
          refine vo_append E25 rfl (by omega) rfl rfl rfl sd sd ?_
          refine vo_stN ?_
          try simp only [app_ints, app_intss, app_bools]
          refine vo_assign_ref rfl rfl ?_
          refine vo_nil ?_
          refine hK13 _ ?_
          refine vc_region ?_
          refine vo_move_pv rfl rfl ?_
          refine vo_binI rfl rfl rfl rfl sd ?_
          refine vo_assign_pv rfl rfl ?_
          refine vo_nil ?_
          change again _ _ _ _ _ _
          refine again_mk rfl rfl rfl rfl ⟨_, ?_, q + 1 + 1 + 1, k - 1, l ++ [x], rfl, ?_, ?_, ?_, ?_, ?_, rfl, rfl⟩
          · omega
          · refine ⟨by omega, ?_⟩; rw [List.length_append, List.length_singleton]; omega
          · omega
          · exact nodup_snoc hl ((findM_not _ _ 0 (by omega)).1 (by assumption))
          · intro z hz; rcases List.mem_append.1 hz with hz | hz
            · exact hl2 z hz
            · rw [List.mem_singleton.1 hz]; simp only [List.mem_cons, List.not_mem_nil, or_false] at hx; rcases hx with rfl | rfl | rfl <;> omega
          · exact .inl (by simp)
        · try simp only [decide_eq_true_eq, decide_eq_false_iff_not, beq_iff_eq, bne_iff_ne, beq_eq_false_iff_ne, bne_eq_false_iff_eq, Bool.not_eq_true, Bool.not_eq_false, Bool.not_eq_eq_eq_not, Bool.not_true, Bool.not_false, List.length_map, Int.not_lt, Int.not_le, ne_eq, Decidable.not_not] at hc4
          refine vc_skip ?_
          refine hK13 _ ?_
          refine vc_region ?_
          refine vo_move_pv rfl rfl ?_
          refine vo_binI rfl rfl rfl rfl sd ?_
          refine vo_assign_pv rfl rfl ?_
          refine vo_nil ?_
          change again _ _ _ _ _ _
          refine again_mk rfl rfl rfl rfl ⟨_, ?_, q + 1 + 1 + 1, k - 1, l, rfl, ?_, ?_, ?_, ?_, ?_, rfl, rfl⟩
          · omega
          · omega
          · omega
          · exact hl
          · exact hl2
          · exact .inl (fun e => by subst e; simp [findM] at *)
      · try simp only [decide_eq_true_eq, decide_eq_false_iff_not, beq_iff_eq, bne_iff_ne, beq_eq_false_iff_ne, bne_eq_false_iff_eq, Bool.not_eq_true, Bool.not_eq_false, Bool.not_eq_eq_eq_not, Bool.not_true, Bool.not_false, List.length_map, Int.not_lt, Int.not_le, ne_eq, Decidable.not_not] at hc3
        refine vc_exit ?_
        refine hK9 _ ?_
        refine vc_region ?_
        refine vo_move_ref rfl rfl ?_
        refine vo_move_ref rfl rfl ?_
        refine vo_expose 4 (by omega) rfl ?_
        refine vo_weaken 56 rfl ?_
        refine vo_stN ?_
        refine vo_buildSlice E23 rfl rfl rfl rfl rfl ?_
        refine vo_append E23 rfl (by omega) rfl rfl rfl sd sd ?_
        refine vo_stN ?_
        try simp only [app_ints, app_intss, app_bools]
        refine vo_assign_ref rfl rfl ?_
        refine vo_nil ?_
        refine hK7 _ ?_
        refine vc_region ?_
        refine vo_move_pv rfl rfl ?_
        refine vo_binI rfl rfl rfl rfl sd ?_
        refine vo_assign_pv rfl rfl ?_
        refine vo_nil ?_
        change again _ _ _ _ _ _
        refine again_mk rfl rfl rfl rfl ⟨_, ?_, B ++ [l], q, n - 1, rfl, ?_, ?_, ?_, ?_, rfl, rfl⟩
        · omega
        · refine ⟨by omega, ?_⟩; rw [List.length_append, List.length_singleton]; omega
        · omega
        · exact hB.snoc (by rcases hl3 with h | h; exact h; omega) (by omega) hl hl2
        · left; rw [List.length_append, List.length_singleton]; omega
    · try simp only [decide_eq_true_eq, decide_eq_false_iff_not, beq_iff_eq, bne_iff_ne, beq_eq_false_iff_ne, bne_eq_false_iff_eq, Bool.not_eq_true, Bool.not_eq_false, Bool.not_eq_eq_eq_not, Bool.not_true, Bool.not_false, List.length_map, Int.not_lt, Int.not_le, ne_eq, Decidable.not_not] at hc2
      refine vc_exit ?_
      refine hK3 _ ?_
      refine vc_seq fun K16 hK16 => ?_
      refine vc_region ?_
      refine vo_move_ref rfl rfl ?_
      refine vo_assign_ref rfl rfl ?_
      refine vo_nil ?_
      refine hK16 _ ?_
      refine vc_ret ?_
      change retG _ _ _ _ _
      refine retG_one 2 hC rfl rfl rfl rfl rfl ?_
      exact ⟨_, _, ⟨hB, by omega, hm, by omega⟩, rfl, rfl⟩
  · try simp only [decide_eq_true_eq, decide_eq_false_iff_not, beq_iff_eq, bne_iff_ne, beq_eq_false_iff_ne, bne_eq_false_iff_eq, Bool.not_eq_true, Bool.not_eq_false, Bool.not_eq_eq_eq_not, Bool.not_true, Bool.not_false, List.length_map, Int.not_lt, Int.not_le, ne_eq, Decidable.not_not] at hg1
    refine vo_guard_off rfl rfl rfl rfl rfl ?_
    refine vo_guard_off rfl rfl rfl rfl rfl ?_
    refine vo_guard_off rfl rfl rfl rfl rfl ?_
    refine vo_guard_off rfl rfl rfl rfl rfl ?_
    refine vo_pick_f rfl rfl ?_
    refine vo_nil ?_
    refine hK6 _ ?_
    refine vc_cond_f rfl ?_
    refine vc_exit ?_
    refine hK3 _ ?_
    refine vc_seq fun K17 hK17 => ?_
    refine vc_region ?_
    refine vo_move_ref rfl rfl ?_
    refine vo_assign_ref rfl rfl ?_
    refine vo_nil ?_
    refine hK17 _ ?_
    refine vc_ret ?_
    change retG _ _ _ _ _
    refine retG_one 2 hC rfl rfl rfl rfl rfl ?_
    exact ⟨_, _, ⟨hB, by omega, hm, by omega⟩, rfl, rfl⟩

end Go.Vl

namespace Go.Vl
set_option linter.unusedVariables false
set_option linter.unusedSimpArgs false
open Go.Proofs

theorem rows2_eq {r : Row} {el : TypeId} {e : Nat} {nl : Option Bool} {f : Bool} {xs ys : List PV} (h : xs = ys) : [r, Row.own el e nl f xs] = [r, Row.own el e nl f ys] := by rw [h]
theorem map_snoc_nil (S : List (List Int)) : S.map ints ++ [.sl none 1 []] = (S ++ [[]]).map ints := by simp

theorem anyBases_sat {nl : Option Bool} {c : List (Fin 256)} {p : Nat} {most : Int} (hc : c.length ≤ 2000) (hp : p < 999800) : SatAt Try.prog 89 [.ptr 0 0 0 0, i64 most] [rdr nl c p] (fun res rows => ∃ (B : List (List Int)) (q : Nat) (f : Bool), (1 ≤ B.length ∧ B.length ≤ 10 ∧ (∀ l ∈ B, l.length ≤ 3) ∧ q ≤ p + 100) ∧ res = [.ref 1] ∧ rows = [rdr nl c q, Row.own 25 1 (some false) f (B.map ints)]) := by
  refine sat_entry_g (ts := [4]) Try.func89 rfl rfl (by decide) (Nat.le_of_ble_eq_true rfl) fun C hC => ?_
  rw [Try.ntmps89]
  replace hC : C.nb = 1 := hC
  refine vc_seq fun K1 hK1 => ?_
  refine vc_region ?_
  refine vo_assign_pv rfl rfl ?_
  refine vo_nil ?_
  refine hK1 _ ?_
  refine vc_seq fun K2 hK2 => ?_
  refine vc_region ?_
  refine vo_move_ptr rfl rfl ?_
  refine vo_move_pv rfl rfl ?_
  refine vo_call [0] Try.func59 rfl rfl rfl rfl rfl rfl rfl (someBases_sat hc (by omega)) ?_
  rintro _ _ ⟨B, q, ⟨hB, hB2, hB3, hB4⟩, rfl, rfl⟩
  refine ⟨Nat.le_of_ble_eq_true rfl, ⟨rfl, rfl, rfl⟩, .inl rfl, ?_⟩
  refine vo_stN ?_
  refine vo_assign_ref rfl rfl ?_
  refine vo_nil ?_
  refine hK2 _ ?_
  refine vc_seq fun K3 hK3 => ?_
  refine vc_seq fun K4 hK4 => ?_
  refine vc_region ?_
  refine vo_move_ptr rfl rfl ?_
  refine vo_call [0] Try.func58 rfl rfl rfl rfl rfl rfl rfl (pick_sat hc (by omega)) ?_
  rintro _ _ ⟨x, ⟨hx0, hx1⟩, rfl, rfl⟩
  refine ⟨Nat.le_of_ble_eq_true rfl, ⟨rfl, rfl, rfl⟩, .inl rfl, ?_⟩
  refine vo_stN ?_
  refine vo_nil ?_
  refine hK4 _ ?_
  refine vc_block ?_
  refine vc_seq fun K5 hK5 => ?_
  refine vc_region ?_
  refine vo_binI rfl rfl rfl rfl trivial ?_
  refine vo_assign_pv rfl rfl ?_
  refine vo_nil ?_
  refine hK5 _ ?_
  refine vc_cond rfl (fun hc1 => ?_) (fun hc1 => ?_)
  · try simp only [decide_eq_true_eq, decide_eq_false_iff_not, beq_iff_eq, bne_iff_ne, beq_eq_false_iff_ne, bne_eq_false_iff_eq, Bool.not_eq_true, Bool.not_eq_false, Bool.not_eq_eq_eq_not, Bool.not_true, Bool.not_false, List.length_map, Int.not_lt, Int.not_le, ne_eq, Decidable.not_not] at hc1
    have hB1 := hB.1
    have hL : (B.map ints).length = B.length := by simp
    refine vc_region ?_
    refine vo_move_ref rfl rfl ?_
    refine vo_buildSlice E25 rfl rfl rfl rfl rfl ?_
    refine vo_index_ref rfl rfl rfl rfl E23.und inf25 sz25 sd sd ?_
    try simp only [Int.toNat_natCast]
    refine vo_expose 2 (by omega) rfl ?_
    refine vo_weaken 14 rfl ?_
    refine vo_stN ?_
    refine vo_store_own rfl rfl rfl inf25 sz25 (by decide) rfl sd ?_
    try simp only [set_ints, set_intss, set_bools, rep_bools, rep_ints, Int.toNat_natCast, Int.toNat_zero]
    refine vo_nil ?_
    refine hK3 _ ?_
    refine vc_seq fun K6 hK6 => ?_
    refine vc_region ?_
    refine vo_move_ref rfl rfl ?_
    refine vo_assign_ref rfl rfl ?_
    refine vo_nil ?_
    refine hK6 _ ?_
    refine vc_ret ?_
    change retG _ _ _ _ _
    refine retG_one 1 hC rfl rfl rfl rfl rfl ?_
    exact ⟨B.set 0 [0], q+1, _, ⟨by rw [List.length_set]; omega, by rw [List.length_set]; omega, set_lens hB.lens (by decide), by omega⟩, rfl, rows2_eq (set_intss B 0 [0])⟩
  · try simp only [decide_eq_true_eq, decide_eq_false_iff_not, beq_iff_eq, bne_iff_ne, beq_eq_false_iff_ne, bne_eq_false_iff_eq, Bool.not_eq_true, Bool.not_eq_false, Bool.not_eq_eq_eq_not, Bool.not_true, Bool.not_false, List.length_map, Int.not_lt, Int.not_le, ne_eq, Decidable.not_not] at hc1
    have hB1 := hB.1
    refine vc_seq fun K7 hK7 => ?_
    refine vc_region ?_
    refine vo_binI rfl rfl rfl rfl trivial ?_
    refine vo_assign_pv rfl rfl ?_
    refine vo_nil ?_
    refine hK7 _ ?_
    refine vc_cond rfl (fun hc2 => ?_) (fun hc2 => ?_)
    · try simp only [decide_eq_true_eq, decide_eq_false_iff_not, beq_iff_eq, bne_iff_ne, beq_eq_false_iff_ne, bne_eq_false_iff_eq, Bool.not_eq_true, Bool.not_eq_false, Bool.not_eq_eq_eq_not, Bool.not_true, Bool.not_false, List.length_map, Int.not_lt, Int.not_le, ne_eq, Decidable.not_not] at hc2
      refine vc_region ?_
      refine vo_move_ref rfl rfl ?_
      refine vo_move_ref rfl rfl ?_
      refine vo_len_ref rfl rfl rfl Try.underlying23 ?_
      refine vo_buildSlice E25 rfl rfl rfl rfl rfl ?_
      refine vo_expose 2 (by omega) rfl ?_
      refine vo_weaken 21 rfl ?_
      refine vo_stN ?_
      refine vo_buildSlice E23 rfl rfl rfl rfl rfl ?_
      refine vo_append E23 rfl (by omega) rfl rfl rfl sd sd ?_
      refine vo_stN ?_
      try simp only [app_ints, app_intss, app_bools]
      refine vo_assign_ref rfl rfl ?_
      refine vo_nil ?_
      refine hK3 _ ?_
      refine vc_seq fun K8 hK8 => ?_
      refine vc_region ?_
      refine vo_move_ref rfl rfl ?_
      refine vo_assign_ref rfl rfl ?_
      refine vo_nil ?_
      refine hK8 _ ?_
      refine vc_ret ?_
      change retG _ _ _ _ _
      refine retG_one 1 hC rfl rfl rfl rfl rfl ?_
      refine ⟨B ++ [[((B.map ints).length : Int)]], q+1, _, ⟨by rw [List.length_append, List.length_singleton]; omega, by rw [List.length_append, List.length_singleton]; omega, app_lens hB.lens (by simp), by omega⟩, rfl, rows2_eq (app_intss B [((B.map ints).length : Int)])⟩
    · try simp only [decide_eq_true_eq, decide_eq_false_iff_not, beq_iff_eq, bne_iff_ne, beq_eq_false_iff_ne, bne_eq_false_iff_eq, Bool.not_eq_true, Bool.not_eq_false, Bool.not_eq_eq_eq_not, Bool.not_true, Bool.not_false, List.length_map, Int.not_lt, Int.not_le, ne_eq, Decidable.not_not] at hc2
      refine vc_seq fun K9 hK9 => ?_
      refine vc_region ?_
      refine vo_binI rfl rfl rfl rfl trivial ?_
      refine vo_assign_pv rfl rfl ?_
      refine vo_nil ?_
      refine hK9 _ ?_
      refine vc_cond rfl (fun hc3 => ?_) (fun hc3 => ?_)
      · try simp only [decide_eq_true_eq, decide_eq_false_iff_not, beq_iff_eq, bne_iff_ne, beq_eq_false_iff_ne, bne_eq_false_iff_eq, Bool.not_eq_true, Bool.not_eq_false, Bool.not_eq_eq_eq_not, Bool.not_true, Bool.not_false, List.length_map, Int.not_lt, Int.not_le, ne_eq, Decidable.not_not] at hc3
        refine vc_region ?_
        refine vo_move_ref rfl rfl ?_
        refine vo_move_ptr rfl rfl ?_
        refine vo_buildSlice E25 rfl rfl rfl rfl rfl ?_
        refine vo_buildSlice E25 rfl rfl rfl rfl rfl ?_
        refine vo_buildSlice E25 rfl rfl rfl rfl rfl ?_
        refine vo_expose 2 (by omega) rfl ?_
        refine vo_weaken 28 rfl ?_
        refine vo_stN ?_
        refine vo_expose 3 (by omega) rfl ?_
        refine vo_weaken 29 rfl ?_
        refine vo_stN ?_
        refine vo_expose 4 (by omega) rfl ?_
        refine vo_weaken 30 rfl ?_
        refine vo_stN ?_
        refine vo_buildSlice E23 rfl rfl rfl rfl rfl ?_
        refine vo_expose 5 (by omega) rfl ?_
        refine vo_weaken 31 rfl ?_
        refine vo_stN ?_
        refine vo_call [0] Try.func97 rfl rfl rfl rfl rfl rfl rfl (one2_sat (list := [[],[0,0],[-1]]) hc (by omega) (by simp) (by simp)) ?_
        rintro _ _ ⟨y, hy, rfl, rfl⟩
        refine ⟨Nat.le_of_ble_eq_true rfl, ⟨rfl, rfl, rfl⟩, .inl rfl, ?_⟩
        refine vo_stN ?_
        refine vo_weaken 32 rfl ?_
        refine vo_buildSlice E23 rfl rfl rfl rfl rfl ?_
        refine vo_append E23 rfl (by omega) rfl rfl rfl sd sd ?_
        refine vo_stN ?_
        try simp only [app_ints, app_intss, app_bools]
        refine vo_assign_ref rfl rfl ?_
        refine vo_nil ?_
        refine hK3 _ ?_
        refine vc_seq fun K10 hK10 => ?_
        refine vc_region ?_
        refine vo_move_ref rfl rfl ?_
        refine vo_assign_ref rfl rfl ?_
        refine vo_nil ?_
        refine hK10 _ ?_
        refine vc_ret ?_
        change retG _ _ _ _ _
        refine retG_one 1 hC rfl rfl rfl rfl rfl ?_
        refine ⟨B ++ [y], q+1+1, _, ⟨by rw [List.length_append, List.length_singleton]; omega, by rw [List.length_append, List.length_singleton]; omega, app_lens hB.lens (by simp at hy; rcases hy with rfl | rfl | rfl <;> simp), by omega⟩, rfl, rfl⟩
      · try simp only [decide_eq_true_eq, decide_eq_false_iff_not, beq_iff_eq, bne_iff_ne, beq_eq_false_iff_ne, bne_eq_false_iff_eq, Bool.not_eq_true, Bool.not_eq_false, Bool.not_eq_eq_eq_not, Bool.not_true, Bool.not_false, List.length_map, Int.not_lt, Int.not_le, ne_eq, Decidable.not_not] at hc3
        refine vc_skip ?_
        refine hK3 _ ?_
        refine vc_seq fun K11 hK11 => ?_
        refine vc_region ?_
        refine vo_move_ref rfl rfl ?_
        refine vo_assign_ref rfl rfl ?_
        refine vo_nil ?_
        refine hK11 _ ?_
        refine vc_ret ?_
        change retG _ _ _ _ _
        refine retG_one 1 hC rfl rfl rfl rfl rfl ?_
        refine ⟨B, q+1, _, ⟨by omega, by omega, hB.lens, by omega⟩, rfl, rfl⟩


theorem classOf_sat {nl : Option Bool} {c : List (Fin 256)} {p : Nat} {most : Int} (hc : c.length ≤ 2000) (hp : p < 999700) : SatAt Try.prog 72 [.ptr 0 0 0 0, i64 most] [rdr nl c p] (fun res rows => ∃ (B : List (List Int)) (q : Nat) (z : Int) (f : Bool), ((1 ≤ B.length ∧ B.length ≤ 10 ∧ (∀ l ∈ B, l.length ≤ 3) ∧ -1 ≤ z ∧ z ≤ 12) ∧ q ≤ p + 120) ∧ res = [.ref 1, i64 z] ∧ rows = [rdr nl c q, Row.own 25 1 (some false) f (B.map ints)]) := by
  refine sat_entry_g (ts := [4, 5]) Try.func72 rfl rfl (by decide) (Nat.le_of_ble_eq_true rfl) fun C hC => ?_
  rw [Try.ntmps72]
  replace hC : C.nb = 1 := hC
  refine vc_seq fun K1 hK1 => ?_
  refine vc_region ?_
  refine vo_assign_pv rfl rfl ?_
  refine vo_assign_pv rfl rfl ?_
  refine vo_nil ?_
  refine hK1 _ ?_
  refine vc_seq fun K2 hK2 => ?_
  refine vc_region ?_
  refine vo_move_ptr rfl rfl ?_
  refine vo_move_pv rfl rfl ?_
  refine vo_call [0] Try.func89 rfl rfl rfl rfl rfl rfl rfl (anyBases_sat hc (by omega)) ?_
  rintro _ _ ⟨B, q, f, ⟨h1, h2, h3, h4⟩, rfl, rfl⟩
  refine ⟨Nat.le_of_ble_eq_true rfl, ⟨rfl, rfl, rfl⟩, .inl rfl, ?_⟩
  refine vo_stN ?_
  refine vo_assign_ref rfl rfl ?_
  refine vo_nil ?_
  refine hK2 _ ?_
  refine vc_seq fun K3 hK3 => ?_
  refine vc_seq fun K4 hK4 => ?_
  refine vc_region ?_
  refine vo_move_ptr rfl rfl ?_
  refine vo_call [0] Try.func58 rfl rfl rfl rfl rfl rfl rfl (pick_sat hc (by omega)) ?_
  rintro _ _ ⟨x, ⟨hx0, hx1⟩, rfl, rfl⟩
  refine ⟨Nat.le_of_ble_eq_true rfl, ⟨rfl, rfl, rfl⟩, .inl rfl, ?_⟩
  refine vo_stN ?_
  refine vo_binI rfl rfl rfl rfl trivial ?_
  refine vo_nil ?_
  refine hK4 _ ?_
  refine vc_cond rfl (fun hc1 => ?_) (fun hc1 => ?_)
  · try simp only [decide_eq_true_eq, decide_eq_false_iff_not, beq_iff_eq, bne_iff_ne, beq_eq_false_iff_ne, bne_eq_false_iff_eq, Bool.not_eq_true, Bool.not_eq_false, Bool.not_eq_eq_eq_not, Bool.not_true, Bool.not_false, List.length_map, Int.not_lt, Int.not_le, ne_eq, Decidable.not_not] at hc1
    refine vc_seq fun K5 hK5 => ?_
    refine vc_region ?_
    refine vo_move_ref rfl rfl ?_
    refine vo_move_ptr rfl rfl ?_
    refine vo_buildSlice E25 rfl rfl rfl rfl rfl ?_
    refine vo_expose 2 (by omega) rfl ?_
    refine vo_weaken 15 rfl ?_
    refine vo_stN ?_
    refine vo_call [0] Try.func90 rfl rfl rfl rfl rfl rfl rfl (one_sat (list := [_,_]) hc (by omega) (by simp) (by simp)) ?_
    rintro _ _ ⟨z, hz, rfl, rfl⟩
    refine ⟨Nat.le_of_ble_eq_true rfl, ⟨rfl, rfl, rfl⟩, .inl rfl, ?_⟩
    refine vo_stN ?_
    refine vo_assign_ref rfl rfl ?_
    refine vo_assign_pv rfl rfl ?_
    refine vo_nil ?_
    refine hK5 _ ?_
    refine vc_ret ?_
    change retG _ _ _ _ _
    refine retG_one 1 hC rfl rfl rfl rfl rfl ?_
    simp at hz
    exact ⟨_, _, _, _, ⟨⟨h1, h2, h3, by omega, by omega⟩, by omega⟩, rfl, rfl⟩
  · try simp only [decide_eq_true_eq, decide_eq_false_iff_not, beq_iff_eq, bne_iff_ne, beq_eq_false_iff_ne, bne_eq_false_iff_eq, Bool.not_eq_true, Bool.not_eq_false, Bool.not_eq_eq_eq_not, Bool.not_true, Bool.not_false, List.length_map, Int.not_lt, Int.not_le, ne_eq, Decidable.not_not] at hc1
    refine vc_skip ?_
    refine hK3 _ ?_
    refine vc_seq fun K6 hK6 => ?_
    refine vc_region ?_
    refine vo_move_ref rfl rfl ?_
    refine vo_move_ptr rfl rfl ?_
    refine vo_move_ref rfl rfl ?_
    refine vo_len_ref rfl rfl rfl Try.underlying23 ?_
    refine vo_binI rfl rfl rfl rfl sd ?_
    refine vo_move_ptr rfl rfl ?_
    refine vo_move_ref rfl rfl ?_
    refine vo_len_ref rfl rfl rfl Try.underlying23 ?_
    refine vo_call [0] Try.func58 rfl rfl rfl rfl rfl rfl rfl (pick_sat hc (by omega)) ?_
    rintro _ _ ⟨y, ⟨hy0, hy1⟩, rfl, rfl⟩
    refine ⟨Nat.le_of_ble_eq_true rfl, ⟨rfl, rfl, rfl⟩, .inl rfl, ?_⟩
    refine vo_stN ?_
    refine vo_buildSlice E25 rfl rfl rfl rfl rfl ?_
    refine vo_expose 2 (by omega) rfl ?_
    refine vo_weaken 26 rfl ?_
    refine vo_stN ?_
    refine vo_call [0] Try.func90 rfl rfl rfl rfl rfl rfl rfl (one_sat (list := [_,_]) hc (by omega) (by simp) (by simp)) ?_
    rintro _ _ ⟨z, hz, rfl, rfl⟩
    refine ⟨Nat.le_of_ble_eq_true rfl, ⟨rfl, rfl, rfl⟩, .inl rfl, ?_⟩
    refine vo_stN ?_
    refine vo_assign_ref rfl rfl ?_
    refine vo_assign_pv rfl rfl ?_
    refine vo_nil ?_
    refine hK6 _ ?_
    refine vc_ret ?_
    change retG _ _ _ _ _
    refine retG_one 1 hC rfl rfl rfl rfl rfl ?_
    simp at hz hy1
    exact ⟨_, _, _, _, ⟨⟨h1, h2, h3, by omega, by omega⟩, by omega⟩, rfl, rfl⟩


theorem DrawDepthFirst_sat {nl : Option Bool} {c : List (Fin 256)} (hl : c.length < 1000000000) : SatAt Try.prog 40 [.pv false (.sl nl 1 (c.map byteP))] [] (fun res rows => ∃ (B : List (List Int)) (z : Int) (f : Bool), (1 ≤ B.length ∧ B.length ≤ 10 ∧ (∀ l ∈ B, l.length ≤ 3) ∧ -1 ≤ z ∧ z ≤ 12) ∧ res = [.ref 0, i64 z] ∧ rows = [Row.own 25 1 (some false) f (B.map ints)]) := by
  refine sat_entry_g (ts := [2, 3]) Try.func40 rfl rfl (by decide) (Nat.le_of_ble_eq_true rfl) fun C hC => ?_
  rw [Try.ntmps40]
  replace hC : C.nb = 0 := hC
  refine vc_seq fun K1 hK1 => ?_
  refine vc_region ?_
  refine vo_assign_pv rfl rfl ?_
  refine vo_assign_pv rfl rfl ?_
  refine vo_nil ?_
  refine hK1 _ ?_
  refine vc_seq fun K2 hK2 => ?_
  refine vc_region ?_
  refine vo_move_pv rfl rfl ?_
  refine vo_call [] Try.func57 rfl rfl rfl rfl rfl rfl rfl (newReader_sat hl) ?_
  rintro _ _ ⟨nl2, c2, hc, rfl, rfl⟩
  refine ⟨Nat.le_of_ble_eq_true rfl, ⟨rfl, rfl, rfl⟩, .inl rfl, ?_⟩
  refine vo_stN ?_
  refine vo_call [0] Try.func72 rfl rfl rfl rfl rfl rfl rfl (classOf_sat hc (by omega)) ?_
  rintro _ _ ⟨B, q, z, f, ⟨⟨h1, h2, h3, h5, h6⟩, h4⟩, rfl, rfl⟩
  refine ⟨Nat.le_of_ble_eq_true rfl, ⟨rfl, rfl, rfl⟩, .inl rfl, ?_⟩
  refine vo_stN ?_
  refine vo_extract rfl rfl rfl ?_
  refine vo_extract rfl rfl rfl ?_
  refine vo_assign_ref rfl rfl ?_
  refine vo_assign_pv rfl rfl ?_
  refine vo_nil ?_
  refine hK2 _ ?_
  refine vc_ret ?_
  change retG _ _ _ _ _
  refine retG_one 1 hC rfl rfl rfl rfl rfl ?_
  exact ⟨_, _, _, ⟨h1, h2, h3, h5, h6⟩, rfl, rfl⟩


theorem DrawLastMet_sat {nl : Option Bool} {c : List (Fin 256)} (hl : c.length < 1000000000) : SatAt Try.prog 28 [.pv false (.sl nl 1 (c.map byteP))] [] (fun res rows => ∃ (B : List (List Int)) (z : Int) (f : Bool), (1 ≤ B.length ∧ B.length ≤ 10 ∧ (∀ l ∈ B, l.length ≤ 3) ∧ -1 ≤ z ∧ z ≤ 12) ∧ res = [.ref 0, i64 z] ∧ rows = [Row.own 25 1 (some false) f (B.map ints)]) := by
  refine sat_entry_g (ts := [2, 3]) Try.func28 rfl rfl (by decide) (Nat.le_of_ble_eq_true rfl) fun C hC => ?_
  rw [Try.ntmps28]
  replace hC : C.nb = 0 := hC
  refine vc_seq fun K1 hK1 => ?_
  refine vc_region ?_
  refine vo_assign_pv rfl rfl ?_
  refine vo_assign_pv rfl rfl ?_
  refine vo_nil ?_
  refine hK1 _ ?_
  refine vc_seq fun K2 hK2 => ?_
  refine vc_region ?_
  refine vo_move_pv rfl rfl ?_
  refine vo_call [] Try.func57 rfl rfl rfl rfl rfl rfl rfl (newReader_sat hl) ?_
  rintro _ _ ⟨nl2, c2, hc, rfl, rfl⟩
  refine ⟨Nat.le_of_ble_eq_true rfl, ⟨rfl, rfl, rfl⟩, .inl rfl, ?_⟩
  refine vo_stN ?_
  refine vo_call [0] Try.func72 rfl rfl rfl rfl rfl rfl rfl (classOf_sat hc (by omega)) ?_
  rintro _ _ ⟨B, q, z, f, ⟨⟨h1, h2, h3, h5, h6⟩, h4⟩, rfl, rfl⟩
  refine ⟨Nat.le_of_ble_eq_true rfl, ⟨rfl, rfl, rfl⟩, .inl rfl, ?_⟩
  refine vo_stN ?_
  refine vo_extract rfl rfl rfl ?_
  refine vo_extract rfl rfl rfl ?_
  refine vo_assign_ref rfl rfl ?_
  refine vo_assign_pv rfl rfl ?_
  refine vo_nil ?_
  refine hK2 _ ?_
  refine vc_ret ?_
  change retG _ _ _ _ _
  refine retG_one 1 hC rfl rfl rfl rfl rfl ?_
  exact ⟨_, _, _, ⟨h1, h2, h3, h5, h6⟩, rfl, rfl⟩

end Go.Vl

namespace Go.Vl
set_option linter.unusedVariables false
set_option linter.unusedSimpArgs false
open Go.Proofs

theorem lt3 {B : List (List Int)} (h : ∀ l ∈ B, l.length ≤ 3) : ∀ l ∈ B, l.length < 1000000000 := fun l hl => by have := h l hl; omega

theorem isIn_sat {nl0 : Option Bool} {list : List Int} {n : Int} (hlist : list.length < 1000000000)  : SatAt Try.prog 20 [.pv false (.sl nl0 1 (list.map intP)), i64 n] [] (fun res rows => res = [bo (decide (n ∈ list))] ∧ rows = []) := by
  refine sat_entry (ts := [4]) Try.func20 rfl rfl (by decide) (Nat.le_of_ble_eq_true rfl) fun C hC => ?_
  rw [Try.ntmps20]
  replace hC : C.nb = 0 := hC
  refine vc_seq fun K1 hK1 => ?_
  refine vc_region ?_
  refine vo_assign_pv rfl rfl ?_
  refine vo_nil ?_
  refine hK1 _ ?_
  refine vc_seq fun K2 hK2 => ?_
  refine vc_seq fun K3 hK3 => ?_
  refine vc_region ?_
  refine vo_assign_pv rfl rfl ?_
  refine vo_nil ?_
  refine hK3 _ ?_
  refine vc_block ?_
  refine vc_stN ?_
  refine vc_loopF [0, 1] [5] [.pv false (.sl nl0 1 (list.map intP)), i64 n] _ (fun mz vs => ∃ (k : Nat), mz = list.length - k ∧ (k ≤ list.length) ∧ (n ∉ list.take k) ∧ vs = [i64 k]) (list.length) rfl rfl (le_len hC rfl) ⟨rfl, rfl, rfl⟩ ⟨0, rfl, Nat.zero_le _, (by simp), rfl⟩ ?_
  rintro mz vs - ⟨k, rfl, hk, hf, rfl⟩
  refine vc_stN ?_
  refine vc_seq fun K4 hK4 => ?_
  refine vc_seq fun K5 hK5 => ?_
  refine vc_region ?_
  refine vo_move_pv rfl rfl ?_
  refine vo_move_pv rfl rfl ?_
  refine vo_len_pv rfl rfl Try.underlying25 ?_
  refine vo_binI rfl rfl rfl rfl trivial ?_
  refine vo_nil ?_
  refine hK5 _ ?_
  refine vc_cond rfl (fun hc1 => ?_) (fun hc1 => ?_)
  · try simp only [decide_eq_true_eq, decide_eq_false_iff_not, beq_iff_eq, bne_iff_ne, beq_eq_false_iff_ne, bne_eq_false_iff_eq, Bool.not_eq_true, Bool.not_eq_false, Bool.not_eq_eq_eq_not, Bool.not_true, Bool.not_false, List.length_map, Int.not_lt, Int.not_le, ne_eq, Decidable.not_not] at hc1
    refine vc_skip ?_
    refine hK4 _ ?_
    refine vc_seq fun K6 hK6 => ?_
    refine vc_block ?_
    refine vc_seq fun K7 hK7 => ?_
    refine vc_region ?_
    refine vo_move_pv rfl rfl ?_
    refine vo_move_pv rfl rfl ?_
    refine vo_index_pv (.int .i64 0) rfl rfl rfl E25.und inf3 sz3 sd sd ?_
    simp only [Int.toNat_natCast, Int.toNat_zero, getD_ints, getD_intss, getD_bools, getD_bytes, PV.cells]
    refine vo_load_adr rfl rfl Try.underlying3 rfl ?_
    refine vo_move_pv rfl rfl ?_
    refine vo_binI rfl rfl rfl rfl trivial ?_
    refine vo_nil ?_
    refine hK7 _ ?_
    refine vc_cond rfl (fun hc2 => ?_) (fun hc2 => ?_)
    · try simp only [decide_eq_true_eq, decide_eq_false_iff_not, beq_iff_eq, bne_iff_ne, beq_eq_false_iff_ne, bne_eq_false_iff_eq, Bool.not_eq_true, Bool.not_eq_false, Bool.not_eq_eq_eq_not, Bool.not_true, Bool.not_false, List.length_map, Int.not_lt, Int.not_le, ne_eq, Decidable.not_not] at hc2
      refine vc_seq fun K8 hK8 => ?_
      refine vc_region ?_
      refine vo_assign_pv rfl rfl ?_
      refine vo_nil ?_
      refine hK8 _ ?_
      refine vc_ret ?_
      change retPv _ _ _ _ _
      refine retPv_mk rfl rfl rfl ⟨?_, rfl⟩
      refine (congrArg (fun b => [bo b]) (?_ : _ = _) : [bo _] = [bo _])
      exact bT (by have := getD_mem (show k < list.length by omega) 0; simp_all)
    · try simp only [decide_eq_true_eq, decide_eq_false_iff_not, beq_iff_eq, bne_iff_ne, beq_eq_false_iff_ne, bne_eq_false_iff_eq, Bool.not_eq_true, Bool.not_eq_false, Bool.not_eq_eq_eq_not, Bool.not_true, Bool.not_false, List.length_map, Int.not_lt, Int.not_le, ne_eq, Decidable.not_not] at hc2
      refine vc_skip ?_
      refine hK6 _ ?_
      refine vc_region ?_
      refine vo_move_pv rfl rfl ?_
      refine vo_binI rfl rfl rfl rfl sd ?_
      refine vo_assign_pv rfl rfl ?_
      refine vo_nil ?_
      change againF _ _ _ _ _ _ _ _ _
      refine againF_mk rfl rfl rfl rfl rfl rfl ⟨_, ?_, k + 1, rfl, ?_, ?_, rfl⟩
      · omega
      · omega
      · rw [List.take_succ_eq_append_getElem (by omega), List.mem_append]; rintro (h | h)
        · exact hf h
        · rw [List.mem_singleton, ← getD_at (by omega) 0] at h; omega
  · try simp only [decide_eq_true_eq, decide_eq_false_iff_not, beq_iff_eq, bne_iff_ne, beq_eq_false_iff_ne, bne_eq_false_iff_eq, Bool.not_eq_true, Bool.not_eq_false, Bool.not_eq_eq_eq_not, Bool.not_true, Bool.not_false, List.length_map, Int.not_lt, Int.not_le, ne_eq, Decidable.not_not] at hc1
    refine vc_exit ?_
    refine hK2 _ ?_
    refine vc_seq fun K9 hK9 => ?_
    refine vc_region ?_
    refine vo_assign_pv rfl rfl ?_
    refine vo_nil ?_
    refine hK9 _ ?_
    refine vc_ret ?_
    change retPv _ _ _ _ _
    refine retPv_mk rfl rfl rfl ⟨?_, rfl⟩
    refine (congrArg (fun b => [bo b]) (?_ : _ = _) : [bo _] = [bo _])
    rw [take_all (by omega)] at hf; exact bF hf


theorem equalInts_sat {nl0 : Option Bool} {a : List Int} {nl1 : Option Bool} {b : List Int} (ha : a.length < 1000000000) (hb : b.length < 1000000000)  : SatAt Try.prog 18 [.pv false (.sl nl0 1 (a.map intP)), .pv false (.sl nl1 1 (b.map intP))] [] (fun res rows => res = [bo (decide (a = b))] ∧ rows = []) := by
  refine sat_entry (ts := [4]) Try.func18 rfl rfl (by decide) (Nat.le_of_ble_eq_true rfl) fun C hC => ?_
  rw [Try.ntmps18]
  replace hC : C.nb = 0 := hC
  refine vc_seq fun K1 hK1 => ?_
  refine vc_region ?_
  refine vo_assign_pv rfl rfl ?_
  refine vo_nil ?_
  refine hK1 _ ?_
  refine vc_seq fun K2 hK2 => ?_
  refine vc_seq fun K3 hK3 => ?_
  refine vc_region ?_
  refine vo_move_pv rfl rfl ?_
  refine vo_len_pv rfl rfl Try.underlying25 ?_
  refine vo_move_pv rfl rfl ?_
  refine vo_len_pv rfl rfl Try.underlying25 ?_
  refine vo_binI rfl rfl rfl rfl trivial ?_
  refine vo_nil ?_
  refine hK3 _ ?_
  refine vc_cond rfl (fun hc1 => ?_) (fun hc1 => ?_)
  · try simp only [decide_eq_true_eq, decide_eq_false_iff_not, beq_iff_eq, bne_iff_ne, beq_eq_false_iff_ne, bne_eq_false_iff_eq, Bool.not_eq_true, Bool.not_eq_false, Bool.not_eq_eq_eq_not, Bool.not_true, Bool.not_false, List.length_map, Int.not_lt, Int.not_le, ne_eq, Decidable.not_not] at hc1
    refine vc_seq fun K4 hK4 => ?_
    refine vc_region ?_
    refine vo_assign_pv rfl rfl ?_
    refine vo_nil ?_
    refine hK4 _ ?_
    refine vc_ret ?_
    change retPv _ _ _ _ _
    refine retPv_mk rfl rfl rfl ⟨?_, rfl⟩
    refine (congrArg (fun b => [bo b]) (?_ : _ = _) : [bo _] = [bo _])
    exact bF fun h => by subst h; omega
  · try simp only [decide_eq_true_eq, decide_eq_false_iff_not, beq_iff_eq, bne_iff_ne, beq_eq_false_iff_ne, bne_eq_false_iff_eq, Bool.not_eq_true, Bool.not_eq_false, Bool.not_eq_eq_eq_not, Bool.not_true, Bool.not_false, List.length_map, Int.not_lt, Int.not_le, ne_eq, Decidable.not_not] at hc1
    refine vc_skip ?_
    refine hK2 _ ?_
    refine vc_seq fun K5 hK5 => ?_
    refine vc_seq fun K6 hK6 => ?_
    refine vc_region ?_
    refine vo_assign_pv rfl rfl ?_
    refine vo_nil ?_
    refine hK6 _ ?_
    refine vc_block ?_
    refine vc_stN ?_
    refine vc_loopF [0, 1] [5] [.pv false (.sl nl0 1 (a.map intP)), .pv false (.sl nl1 1 (b.map intP))] _ (fun mz vs => ∃ (k : Nat), mz = a.length - k ∧ (k ≤ a.length) ∧ (a.take k = b.take k) ∧ vs = [i64 k]) (a.length) rfl rfl (le_len hC rfl) ⟨rfl, rfl, rfl⟩ ⟨0, rfl, Nat.zero_le _, rfl, rfl⟩ ?_
    rintro mz vs - ⟨k, rfl, hk, hf, rfl⟩
    refine vc_stN ?_
    refine vc_seq fun K7 hK7 => ?_
    refine vc_seq fun K8 hK8 => ?_
    refine vc_region ?_
    refine vo_move_pv rfl rfl ?_
    refine vo_move_pv rfl rfl ?_
    refine vo_len_pv rfl rfl Try.underlying25 ?_
    refine vo_binI rfl rfl rfl rfl trivial ?_
    refine vo_nil ?_
    refine hK8 _ ?_
    refine vc_cond rfl (fun hc2 => ?_) (fun hc2 => ?_)
    · try simp only [decide_eq_true_eq, decide_eq_false_iff_not, beq_iff_eq, bne_iff_ne, beq_eq_false_iff_ne, bne_eq_false_iff_eq, Bool.not_eq_true, Bool.not_eq_false, Bool.not_eq_eq_eq_not, Bool.not_true, Bool.not_false, List.length_map, Int.not_lt, Int.not_le, ne_eq, Decidable.not_not] at hc2
      refine vc_skip ?_
      refine hK7 _ ?_
      refine vc_seq fun K9 hK9 => ?_
      refine vc_block ?_
      refine vc_seq fun K10 hK10 => ?_
      refine vc_draw (by kernel_rfl) ?_
      change VD _ _ _ 9 _ _ _
      refine vd_light 0 rfl rfl rfl (by kernel_rfl) (by kernel_rfl) (by kernel_rfl) (wnt_none rfl) (lt_move_pv rfl) ?_
      refine vd_light 1 rfl rfl rfl (by kernel_rfl) (by kernel_rfl) (by kernel_rfl) (wnt_none rfl) (lt_move_pv rfl) ?_
      refine vd_light 2 rfl rfl rfl (by kernel_rfl) (by kernel_rfl) (by kernel_rfl) (wnt_none rfl) (lt_index_pv (.int .i64 0) rfl rfl E25.und inf3 sz3 sd sd) ?_
      simp only [Int.toNat_natCast, Int.toNat_zero, getD_ints, getD_intss, getD_bools, getD_bytes, PV.cells]
      refine vd_light 3 rfl rfl rfl (by kernel_rfl) (by kernel_rfl) (by kernel_rfl) (wnt_none rfl) (lt_load_adr rfl Try.underlying3 rfl) ?_
      refine vd_light 4 rfl rfl rfl (by kernel_rfl) (by kernel_rfl) (by kernel_rfl) (wnt_none rfl) (lt_move_pv rfl) ?_
      refine vd_light 5 rfl rfl rfl (by kernel_rfl) (by kernel_rfl) (by kernel_rfl) (wnt_none rfl) (lt_move_pv rfl) ?_
      refine vd_light 6 rfl rfl rfl (by kernel_rfl) (by kernel_rfl) (by kernel_rfl) (wnt_none rfl) (lt_index_pv (.int .i64 0) rfl rfl E25.und inf3 sz3 sd sd) ?_
      simp only [Int.toNat_natCast, Int.toNat_zero, getD_ints, getD_intss, getD_bools, getD_bytes, PV.cells]
      refine vd_light 7 rfl rfl rfl (by kernel_rfl) (by kernel_rfl) (by kernel_rfl) (wnt_none rfl) (lt_load_adr rfl Try.underlying3 rfl) ?_
      refine vd_light 8 rfl rfl rfl (by kernel_rfl) (by kernel_rfl) (by kernel_rfl) (wnt_none rfl) (lt_binI rfl rfl rfl trivial) ?_
      refine vd_nil (by kernel_rfl) ?_
      refine hK10 _ ?_
      refine vc_cond rfl (fun hc3 => ?_) (fun hc3 => ?_)
      · try simp only [decide_eq_true_eq, decide_eq_false_iff_not, beq_iff_eq, bne_iff_ne, beq_eq_false_iff_ne, bne_eq_false_iff_eq, Bool.not_eq_true, Bool.not_eq_false, Bool.not_eq_eq_eq_not, Bool.not_true, Bool.not_false, List.length_map, Int.not_lt, Int.not_le, ne_eq, Decidable.not_not] at hc3
        refine vc_seq fun K11 hK11 => ?_
        refine vc_region ?_
        refine vo_assign_pv rfl rfl ?_
        refine vo_nil ?_
        refine hK11 _ ?_
        refine vc_ret ?_
        change retPv _ _ _ _ _
        refine retPv_mk rfl rfl rfl ⟨?_, rfl⟩
        refine (congrArg (fun b => [bo b]) (?_ : _ = _) : [bo _] = [bo _])
        exact bF fun h => hc3 ((take_eq_succ (by omega) (by omega) 0).1 (take_eq_of h (k+1))).2
      · try simp only [decide_eq_true_eq, decide_eq_false_iff_not, beq_iff_eq, bne_iff_ne, beq_eq_false_iff_ne, bne_eq_false_iff_eq, Bool.not_eq_true, Bool.not_eq_false, Bool.not_eq_eq_eq_not, Bool.not_true, Bool.not_false, List.length_map, Int.not_lt, Int.not_le, ne_eq, Decidable.not_not] at hc3
        refine vc_skip ?_
        refine hK9 _ ?_
        refine vc_region ?_
        refine vo_move_pv rfl rfl ?_
        refine vo_binI rfl rfl rfl rfl sd ?_
        refine vo_assign_pv rfl rfl ?_
        refine vo_nil ?_
        change againF _ _ _ _ _ _ _ _ _
        refine againF_mk rfl rfl rfl rfl rfl rfl ⟨_, ?_, k + 1, rfl, ?_, ?_, rfl⟩
        · omega
        · omega
        · exact (take_eq_succ (by omega) (by omega) 0).2 ⟨hf, hc3⟩
    · try simp only [decide_eq_true_eq, decide_eq_false_iff_not, beq_iff_eq, bne_iff_ne, beq_eq_false_iff_ne, bne_eq_false_iff_eq, Bool.not_eq_true, Bool.not_eq_false, Bool.not_eq_eq_eq_not, Bool.not_true, Bool.not_false, List.length_map, Int.not_lt, Int.not_le, ne_eq, Decidable.not_not] at hc2
      refine vc_exit ?_
      refine hK5 _ ?_
      refine vc_seq fun K12 hK12 => ?_
      refine vc_region ?_
      refine vo_assign_pv rfl rfl ?_
      refine vo_nil ?_
      refine hK12 _ ?_
      refine vc_ret ?_
      change retPv _ _ _ _ _
      refine retPv_mk rfl rfl rfl ⟨?_, rfl⟩
      refine (congrArg (fun b => [bo b]) (?_ : _ = _) : [bo _] = [bo _])
      rw [take_all (by omega), take_all (by omega)] at hf; exact bT hf

end Go.Vl

namespace Go.Vl
set_option linter.unusedVariables false
set_option linter.unusedSimpArgs false
open Go.Proofs

theorem lastF_mem : ∀ (l : List Int) (y : Int), y ∈ lastF l ↔ y ∈ l := by
  intro l y
  rw [lastF_once, List.mem_reverse, once_mem]; simp
theorem wk_abvR {b : List (List Int)} (hv : VB b) {c : Nat} (hc : c < b.length) (y : Int) : y ∈ wkM b c ↔ y ∈ abvR b c := by
  constructor
  · intro h
    have hb := wk_bd hv c hc y h
    have h2 := (wk_abv hv c hc y.toNat).1 (by rwa [show ((y.toNat : Nat) : Int) = y by omega])
    have := abvR_of_Abv hv hc h2
    rwa [show ((y.toNat : Nat) : Int) = y by omega] at this
  · intro h
    obtain ⟨_, h1, h2, h3⟩ := abvR_mem h
    have := (wk_abv hv c hc y.toNat).2 (by simpa using h3)
    rwa [show ((y.toNat : Nat) : Int) = y by omega] at this
/-- Behind each place of the list is all that is above what is there. -/
def SC (b : List (List Int)) : List Int → Prop
  | [] => True
  | x :: r => (∀ y ∈ x :: r, ∀ z ∈ abvR b y, z ∈ x :: r) ∧ SC b r
theorem SC.head {b : List (List Int)} : ∀ {l : List Int}, SC b l → ∀ y ∈ l, ∀ z ∈ abvR b y, z ∈ l
  | [], _, y, hy, _, _ => by cases hy
  | _ :: _, h, y, hy, z, hz => h.1 y hy z hz
theorem SC.append {b : List (List Int)} : ∀ {a c : List Int}, SC b a → SC b c → SC b (a ++ c)
  | [], c, _, h => h
  | x :: a, c, h, h2 => by
    refine ⟨fun y hy z hz => ?_, SC.append h.2 h2⟩
    show z ∈ (x :: a) ++ c
    have hy : y ∈ (x :: a) ++ c := hy
    rcases List.mem_append.1 hy with h3 | h3
    · exact List.mem_append_left _ (h.1 y h3 z hz)
    · exact List.mem_append_right _ (h2.head y h3 z hz)
theorem SC.flat {b : List (List Int)} (f : Int → List Int) : ∀ (l : List Int), (∀ x ∈ l, SC b (f x)) → SC b (l.flatMap f)
  | [], _ => trivial
  | x :: l, h => by
    rw [List.flatMap_cons]
    exact (h x List.mem_cons_self).append (SC.flat f l fun y hy => h y (List.mem_cons_of_mem _ hy))
theorem SC.walk {b : List (List Int)} (hv : VB b) : ∀ c, c < b.length → SC b (wkM b c) := by
  intro c
  induction c using Nat.strongRecOn with
  | ind c ih =>
    intro hc
    refine ⟨fun y hy z hz => ?_, SC.flat _ _ fun x hx => ?_⟩
    · exact (wk_abvR hv hc z).2 (abvR_trans ((wk_abvR hv hc y).1 hy) hz)
    · rw [wkT_at hv hc hx]
      have hb := (hv.at hc).2.2 x hx
      exact ih x.toNat (by omega) (by omega)
theorem SC.last {b : List (List Int)} : ∀ {l : List Int}, SC b l → (lastF l).Pairwise (fun x y => ¬ x ∈ abvR b y)
  | [], _ => List.Pairwise.nil
  | t :: r, h => by
    unfold lastF
    by_cases ht : t ∈ r
    · rw [if_pos ht]; exact SC.last h.2
    · rw [if_neg ht]
      exact List.pairwise_cons.2 ⟨fun y hy h2 => ht (h.2.head y ((lastF_mem r y).1 hy) t h2), SC.last h.2⟩
theorem lastF_app : ∀ (p q : List Int), ∃ p', lastF (p ++ q) = p' ++ lastF q
  | [], q => ⟨[], rfl⟩
  | x :: p, q => by
    obtain ⟨p', h⟩ := lastF_app p q
    show ∃ p', (if x ∈ p ++ q then lastF (p ++ q) else x :: lastF (p ++ q)) = p' ++ lastF q
    split
    · exact ⟨p', h⟩
    · exact ⟨x :: p', by rw [h]; rfl⟩
/-- What the law asks. -/
structure LmL (b : List (List Int)) (z : Int) : Prop where
  cw : cwP b z
  low : ∀ i k : Nat, k < i → i < (lmR b z).length → ¬ (lmR b z).getD k 0 ∈ abvR b ((lmR b z).getD i 0)
  srt : srtL (lmR b z) b.length = abvR b z
  head : 0 < (lmR b z).length ∧ (lmR b z).getD 0 0 = z
  tail : ∀ d : Int, d = (if 0 < z then (b.getD z.toNat []).getD ((b.getD z.toNat []).length - 1) 0 else 0) → (0 < z → 0 < (b.getD z.toNat []).length) ∧ ∃ p, lmR b z = p ++ lmR b d
theorem lmL_of {b : List (List Int)} {z : Int} (h : lmR b z ≠ []) : LmL b z := by
  have hcw : cwP b z := Classical.byContradiction fun h2 => h (lmR_no h2)
  obtain ⟨⟨hv, hz0, hz1⟩, hz9⟩ := hcw
  obtain ⟨n, rfl⟩ := Int.eq_ofNat_of_zero_le hz0
  have hn : n < b.length := by omega
  have hcw : cwP b n := ⟨⟨hv, hz0, hz1⟩, hz9⟩
  have e : lmR b n = lastF (wkM b n) := by rw [lmR_yes hcw, Int.toNat_natCast]
  have hpw := (SC.walk hv n hn).last
  have hhd : ∃ r, lastF (wkM b n) = (n : Int) :: lastF r ∧ wkM b n = (n : Int) :: r := by
    refine ⟨(b.getD n []).flatMap (fun x => (wkT b n).getD x.toNat []), ?_, rfl⟩
    show lastF ((n : Int) :: _) = _
    conv => lhs; unfold lastF
    rw [if_neg]
    intro hm
    obtain ⟨x, hx, h2⟩ := List.mem_flatMap.1 hm
    rw [wkT_at hv hn hx] at h2
    have hb := (hv.at hn).2.2 x hx
    have := wk_bd hv x.toNat (by omega) _ h2
    omega
  obtain ⟨r, hr, hw⟩ := hhd
  refine ⟨hcw, fun i k hk hi => ?_, ?_, ?_, fun d hd => ?_⟩
  · rw [e] at hi ⊢
    rw [getD_at (show k < (lastF (wkM b n)).length by omega) 0, getD_at hi 0]
    exact List.pairwise_iff_getElem.1 hpw k i (by omega) hi hk
  · rw [e]
    refine srt_abv hv hn fun i => ?_
    rw [lastF_mem, wk_abv hv n hn]
  · rw [e, hr]; exact ⟨by simp, rfl⟩
  · by_cases h0 : n = 0
    · subst h0
      rw [if_neg (by omega)] at hd
      subst hd
      exact ⟨fun h => by omega, [], rfl⟩
    · have hne : 0 < (b.getD n []).length := List.length_pos_iff.2 (hv.2.2.2 n hn (by omega)).1
      rw [if_pos (by omega), Int.toNat_natCast] at hd
      refine ⟨fun _ => by rw [Int.toNat_natCast]; exact hne, ?_⟩
      have hmem : d ∈ b.getD n [] := by rw [hd]; exact getD_mem (by omega) 0
      have hb := (hv.at hn).2.2 d hmem
      have hcd : cwP b d := ⟨⟨hv, hb.1, by omega⟩, by omega⟩
      rw [e, lmR_yes hcd]
      have hsp : b.getD n [] = (b.getD n []).take ((b.getD n []).length - 1) ++ [d] := by
        have h3 := List.take_succ_eq_append_getElem (show (b.getD n []).length - 1 < (b.getD n []).length by omega)
        rw [← getD_at (show (b.getD n []).length - 1 < (b.getD n []).length by omega) 0, ← hd, show (b.getD n []).length - 1 + 1 = (b.getD n []).length by omega, List.take_length] at h3
        exact h3
      have hwk : ∃ q, wkM b n = q ++ wkM b d.toNat := by
        refine ⟨(n : Int) :: ((b.getD n []).take ((b.getD n []).length - 1)).flatMap (fun x => (wkT b n).getD x.toNat []), ?_⟩
        show (n : Int) :: (b.getD n []).flatMap _ = _
        conv => lhs; rw [hsp]
        rw [List.flatMap_append, List.flatMap_cons, List.flatMap_nil, List.append_nil, wkT_at hv hn hmem]; rfl
      obtain ⟨q, hq⟩ := hwk
      rw [hq]
      exact lastF_app _ _
theorem lens3 {B : List (List Int)} (h : ∀ l ∈ B, l.length ≤ 3) (n : Nat) : (B.getD n []).length ≤ 3 := by
  by_cases hn : n < B.length
  · exact h _ (getD_mem hn [])
  · simp [List.getD, List.getElem?_eq_none (by omega : B.length ≤ n)]
theorem ix_last (l : List Int) : ((((l.map intP).length : Nat) : Int) - 1).toNat = l.length - 1 := by rw [List.length_map]; omega
theorem slice_tail {L p q : List Int} (h : L = p ++ q) : List.take ((L.map intP).length - ((((L.map intP).length : Nat) : Int) - ((q.map intP).length : Nat)).toNat) (L.drop ((((L.map intP).length : Nat) : Int) - ((q.map intP).length : Nat)).toNat) = q := by
  have e1 : L.length = p.length + q.length := by rw [h, List.length_append]
  rw [List.length_map, List.length_map, show ((L.length : Int) - (q.length : Int)).toNat = p.length by omega, List.take_of_length_le (by rw [List.length_drop]; exact Nat.le_refl _), h, List.drop_left']
  rfl
theorem drop_tail {L p q : List Int} (h : L = p ++ q) : L.drop ((((L.map intP).length : Nat) : Int) - ((q.map intP).length : Nat)).toNat = q := by
  have e1 : L.length = p.length + q.length := by rw [h, List.length_append]
  rw [List.length_map, List.length_map, show ((L.length : Int) - (q.length : Int)).toNat = p.length by omega, h, List.drop_left']
  rfl

theorem sorted_sat {nl0 : Option Bool} {list : List Int} {n : Nat} (hlist : list.length < 1000000000) (hn : n < 1000000000) : SatAt Try.prog 32 [.pv false (.sl nl0 1 (list.map intP)), i64 n] [] (fun res rows => ∃ nl, res = [.ref 0] ∧ rows = [Row.own 3 1 nl true ((srtL list n).map intP)]) := by
  refine sat_entry_g (ts := [4]) Try.func32 rfl rfl (by decide) (Nat.le_of_ble_eq_true rfl) fun C hC => ?_
  rw [Try.ntmps32]
  replace hC : C.nb = 0 := hC
  refine vc_seq fun K1 hK1 => ?_
  refine vc_region ?_
  refine vo_assign_pv rfl rfl ?_
  refine vo_nil ?_
  refine hK1 _ ?_
  refine vc_seq fun K2 hK2 => ?_
  refine vc_region ?_
  refine vo_buildSlice E25 rfl rfl rfl rfl rfl ?_
  refine vo_assign_ref rfl rfl ?_
  refine vo_nil ?_
  refine hK2 _ ?_
  refine vc_seq fun K3 hK3 => ?_
  refine vc_seq fun K4 hK4 => ?_
  refine vc_region ?_
  refine vo_assign_pv rfl rfl ?_
  refine vo_nil ?_
  refine hK4 _ ?_
  refine vc_block ?_
  refine vc_stN ?_
  refine vc_loop [0, 1, 5, 6] (fun mz vs rows => ∃ (k : Nat), mz = n - k ∧ (k ≤ n) ∧ vs = [.pv false (.sl nl0 1 (list.map intP)), i64 n, .ref 0, i64 k] ∧ rows = [Row.own 3 1 (some false) true ((srtL list k).map intP)]) (n) (le_len hC rfl) ⟨rfl, rfl⟩ ⟨0, rfl, Nat.zero_le _, rfl, rfl⟩ ?_
  rintro mz vs rows - - ⟨k, rfl, hk, rfl, rfl⟩
  have hL := srt_len list k
  refine vc_seq fun K5 hK5 => ?_
  refine vc_seq fun K6 hK6 => ?_
  refine vc_region ?_
  refine vo_move_pv rfl rfl ?_
  refine vo_move_pv rfl rfl ?_
  refine vo_binI rfl rfl rfl rfl trivial ?_
  refine vo_nil ?_
  refine hK6 _ ?_
  refine vc_cond rfl (fun hc1 => ?_) (fun hc1 => ?_)
  · try simp only [decide_eq_true_eq, decide_eq_false_iff_not, beq_iff_eq, bne_iff_ne, beq_eq_false_iff_ne, bne_eq_false_iff_eq, Bool.not_eq_true, Bool.not_eq_false, Bool.not_eq_eq_eq_not, Bool.not_true, Bool.not_false, List.length_map, Int.not_lt, Int.not_le, ne_eq, Decidable.not_not] at hc1
    refine vc_skip ?_
    refine hK5 _ ?_
    refine vc_seq fun K7 hK7 => ?_
    refine vc_block ?_
    refine vc_seq fun K8 hK8 => ?_
    refine vc_region ?_
    refine vo_move_pv rfl rfl ?_
    refine vo_move_pv rfl rfl ?_
    refine vo_call0 Try.func20 rfl rfl rfl rfl (isIn_sat hlist) ?_
    rintro _ _ ⟨rfl, rfl⟩
    refine ⟨rfl, rfl, .inl rfl, ?_⟩
    refine vo_nil ?_
    refine hK8 _ ?_
    refine vc_cond rfl (fun hc2 => ?_) (fun hc2 => ?_)
    · try simp only [decide_eq_true_eq, decide_eq_false_iff_not, beq_iff_eq, bne_iff_ne, beq_eq_false_iff_ne, bne_eq_false_iff_eq, Bool.not_eq_true, Bool.not_eq_false, Bool.not_eq_eq_eq_not, Bool.not_true, Bool.not_false, List.length_map, Int.not_lt, Int.not_le, ne_eq, Decidable.not_not] at hc2
      refine vc_region ?_
      refine vo_move_ref rfl rfl ?_
      refine vo_move_pv rfl rfl ?_
      refine vo_buildSlice E25 rfl rfl rfl rfl rfl ?_
      refine vo_append E25 rfl (by omega) rfl rfl rfl sd sd ?_
      refine vo_stN ?_
      try simp only [app_ints, app_intss, app_bools]
      refine vo_assign_ref rfl rfl ?_
      refine vo_nil ?_
      refine hK7 _ ?_
      refine vc_region ?_
      refine vo_move_pv rfl rfl ?_
      refine vo_binI rfl rfl rfl rfl sd ?_
      refine vo_assign_pv rfl rfl ?_
      refine vo_nil ?_
      change again _ _ _ _ _ _
      refine again_mk rfl rfl rfl rfl ⟨_, ?_, k + 1, rfl, ?_, rfl, (congrArg (fun l => [Row.own 3 1 (some false) true (List.map intP l)]) (show srtL list k ++ [((k : Nat) : Int)] = srtL list (k+1) by rw [srt_succ, if_pos (by assumption)]))⟩
      · omega
      · omega
    · try simp only [decide_eq_true_eq, decide_eq_false_iff_not, beq_iff_eq, bne_iff_ne, beq_eq_false_iff_ne, bne_eq_false_iff_eq, Bool.not_eq_true, Bool.not_eq_false, Bool.not_eq_eq_eq_not, Bool.not_true, Bool.not_false, List.length_map, Int.not_lt, Int.not_le, ne_eq, Decidable.not_not] at hc2
      refine vc_skip ?_
      refine hK7 _ ?_
      refine vc_region ?_
      refine vo_move_pv rfl rfl ?_
      refine vo_binI rfl rfl rfl rfl sd ?_
      refine vo_assign_pv rfl rfl ?_
      refine vo_nil ?_
      change again _ _ _ _ _ _
      refine again_mk rfl rfl rfl rfl ⟨_, ?_, k + 1, rfl, ?_, rfl, (congrArg (fun l => [Row.own 3 1 (some false) true (List.map intP l)]) (show srtL list k = srtL list (k+1) by rw [srt_succ, if_neg (by assumption)]))⟩
      · omega
      · omega
  · try simp only [decide_eq_true_eq, decide_eq_false_iff_not, beq_iff_eq, bne_iff_ne, beq_eq_false_iff_ne, bne_eq_false_iff_eq, Bool.not_eq_true, Bool.not_eq_false, Bool.not_eq_eq_eq_not, Bool.not_true, Bool.not_false, List.length_map, Int.not_lt, Int.not_le, ne_eq, Decidable.not_not] at hc1
    refine vc_exit ?_
    refine hK3 _ ?_
    refine vc_seq fun K9 hK9 => ?_
    refine vc_region ?_
    refine vo_move_ref rfl rfl ?_
    refine vo_assign_ref rfl rfl ?_
    refine vo_nil ?_
    refine hK9 _ ?_
    refine vc_ret ?_
    change retG _ _ _ _ _
    refine retG_one 0 hC rfl rfl rfl rfl rfl ?_
    exact ⟨_, rfl, rows_eq (g := intP) (by rw [show k = n by omega])⟩


theorem FnLastMet_sat {nl : Option Bool} {c : List (Fin 256)} : SatAt Try.prog 7 [.pv false (.sl nl 1 (c.map byteP))] [] (fun res rows => res = [bo true] ∧ rows = []) := by
  refine sat_entry (ts := [2]) Try.func7 rfl rfl (by decide) (Nat.le_of_ble_eq_true rfl) fun C hC => ?_
  rw [Try.ntmps7]
  replace hC : C.nb = 0 := hC
  refine vc_seq fun K1 hK1 => ?_
  refine vc_region ?_
  refine vo_assign_pv rfl rfl ?_
  refine vo_nil ?_
  refine hK1 _ ?_
  refine vc_seq fun K2 hK2 => ?_
  refine vc_seq fun K3 hK3 => ?_
  refine vc_region ?_
  refine vo_move_pv rfl rfl ?_
  refine vo_len_pv rfl rfl Try.underlying22 ?_
  refine vo_binI rfl rfl rfl rfl trivial ?_
  refine vo_nil ?_
  refine hK3 _ ?_
  refine vc_cond rfl (fun hc1 => ?_) (fun hc1 => ?_)
  · try simp only [decide_eq_true_eq, decide_eq_false_iff_not, beq_iff_eq, bne_iff_ne, beq_eq_false_iff_ne, bne_eq_false_iff_eq, Bool.not_eq_true, Bool.not_eq_false, Bool.not_eq_eq_eq_not, Bool.not_true, Bool.not_false, List.length_map, Int.not_lt, Int.not_le, ne_eq, Decidable.not_not] at hc1
    refine vc_seq fun K4 hK4 => ?_
    refine vc_region ?_
    refine vo_assign_pv rfl rfl ?_
    refine vo_nil ?_
    refine hK4 _ ?_
    refine vc_ret ?_
    change retPv _ _ _ _ _
    refine retPv_mk rfl rfl rfl ⟨?_, rfl⟩
    rfl
  · try simp only [decide_eq_true_eq, decide_eq_false_iff_not, beq_iff_eq, bne_iff_ne, beq_eq_false_iff_ne, bne_eq_false_iff_eq, Bool.not_eq_true, Bool.not_eq_false, Bool.not_eq_eq_eq_not, Bool.not_true, Bool.not_false, List.length_map, Int.not_lt, Int.not_le, ne_eq, Decidable.not_not] at hc1
    refine vc_skip ?_
    refine hK2 _ ?_
    refine vc_seq fun K5 hK5 => ?_
    refine vc_region ?_
    refine vo_move_pv rfl rfl ?_
    refine vo_call [] Try.func28 rfl rfl rfl rfl rfl rfl rfl (DrawLastMet_sat (by omega)) ?_
    rintro _ _ ⟨B, z, f, ⟨h1, h2, h3, h5, h6⟩, rfl, rfl⟩
    refine ⟨Nat.le_of_ble_eq_true rfl, ⟨rfl, rfl, rfl⟩, .inl rfl, ?_⟩
    refine vo_stN ?_
    refine vo_move rfl ?_
    refine vo_extract rfl rfl rfl ?_
    refine vo_extract rfl rfl rfl ?_
    refine vo_assign_ref rfl rfl ?_
    refine vo_assign_pv rfl rfl ?_
    refine vo_nil ?_
    refine hK5 _ ?_
    refine vc_seq fun K6 hK6 => ?_
    refine vc_region ?_
    refine vo_move_ref rfl rfl ?_
    refine vo_move_pv rfl rfl ?_
    refine vo_call [] Try.func29 rfl rfl rfl rfl rfl rfl rfl (implLastMet_sat (c := z) (by omega) (lt3 h3)) ?_
    rintro _ _ ⟨nl7, rfl, rfl⟩
    refine ⟨Nat.le_of_ble_eq_true rfl, ⟨rfl, rfl, rfl⟩, .inr ⟨rfl, rfl⟩, ?_⟩
    refine vo_stN ?_
    refine vo_assign_ref rfl rfl ?_
    refine vo_nil ?_
    refine hK6 _ ?_
    refine vc_seq fun K7 hK7 => ?_
    refine vc_seq fun K8 hK8 => ?_
    refine vc_region ?_
    refine vo_move_ref rfl rfl ?_
    refine vo_move_ref rfl rfl ?_
    refine vo_move_pv rfl rfl ?_
    refine vo_call [] Try.func30 rfl rfl rfl rfl rfl rfl rfl (specLastMet_sat (c := z) (by omega) (lt3 h3)) ?_
    rintro _ _ ⟨nl8, rfl, rfl⟩
    refine ⟨Nat.le_of_ble_eq_true rfl, ⟨rfl, rfl, rfl⟩, .inr ⟨rfl, rfl⟩, ?_⟩
    refine vo_stN ?_
    refine vo_call0 Try.func18 rfl rfl rfl rfl (equalInts_sat (a := lmR B z) (b := lmR B z) lmR_len lmR_len) ?_
    rintro _ _ ⟨rfl, rfl⟩
    refine ⟨rfl, rfl, .inr rfl, ?_⟩
    refine vo_not rfl rfl ?_
    refine vo_move_pv rfl rfl ?_
    refine vo_split 27 rfl (fun hg2 => ?_) (fun hg2 => ?_)
    · try simp only [decide_eq_true_eq, decide_eq_false_iff_not, beq_iff_eq, bne_iff_ne, beq_eq_false_iff_ne, bne_eq_false_iff_eq, Bool.not_eq_true, Bool.not_eq_false, Bool.not_eq_eq_eq_not, Bool.not_true, Bool.not_false, List.length_map, Int.not_lt, Int.not_le, ne_eq, Decidable.not_not] at hg2
      refine vo_guard_off rfl rfl rfl rfl rfl ?_
      refine vo_guard_off rfl rfl rfl rfl rfl ?_
      refine vo_guard_off rfl rfl rfl rfl rfl ?_
      refine vo_pick_t rfl rfl ?_
      refine vo_nil ?_
      refine hK8 _ ?_
      refine vc_cond_t rfl ?_
      refine vc_seq fun K9 hK9 => ?_
      refine vc_region ?_
      refine vo_move_ref rfl rfl ?_
      refine vo_move_ref rfl rfl ?_
      refine vo_move_pv rfl rfl ?_
      refine vo_call [] Try.func30 rfl rfl rfl rfl rfl rfl rfl (specLastMet_sat (c := z) (by omega) (lt3 h3)) ?_
      rintro _ _ ⟨nl8, rfl, rfl⟩
      refine ⟨Nat.le_of_ble_eq_true rfl, ⟨rfl, rfl, rfl⟩, .inr ⟨rfl, rfl⟩, ?_⟩
      refine vo_stN ?_
      refine vo_call0 Try.func18 rfl rfl rfl rfl (equalInts_sat (a := lmR B z) (b := lmR B z) lmR_len lmR_len) ?_
      rintro _ _ ⟨rfl, rfl⟩
      refine ⟨rfl, rfl, .inr rfl, ?_⟩
      refine vo_assign_pv rfl rfl ?_
      refine vo_nil ?_
      refine hK9 _ ?_
      refine vc_ret ?_
      change retPv _ _ _ _ _
      refine retPv_mk rfl rfl rfl ⟨?_, rfl⟩
      first | rfl | exact absurd trivial (by assumption) | exact absurd rfl (by assumption) | (refine (congrArg (fun b => [bo b]) (?_ : _ = _) : [bo _] = [bo _]); exact decide_eq_true rfl) | exact absurd (by assumption) (q2 _ _ (by omega) (by omega)) | exact absurd q3 (by assumption) | exact absurd hH (by assumption)
    · try simp only [decide_eq_true_eq, decide_eq_false_iff_not, beq_iff_eq, bne_iff_ne, beq_eq_false_iff_ne, bne_eq_false_iff_eq, Bool.not_eq_true, Bool.not_eq_false, Bool.not_eq_eq_eq_not, Bool.not_true, Bool.not_false, List.length_map, Int.not_lt, Int.not_le, ne_eq, Decidable.not_not] at hg2
      refine vo_guard_on rfl rfl rfl ?_
      refine vo_move_ref rfl rfl ?_
      refine vo_guard_on rfl rfl rfl ?_
      refine vo_len_ref rfl rfl rfl Try.underlying25 ?_
      refine vo_guard_on rfl rfl rfl ?_
      refine vo_binI rfl rfl rfl rfl trivial ?_
      refine vo_pick_f rfl rfl ?_
      refine vo_nil ?_
      refine hK8 _ ?_
      refine vc_cond rfl (fun hc3 => ?_) (fun hc3 => ?_)
      · try simp only [decide_eq_true_eq, decide_eq_false_iff_not, beq_iff_eq, bne_iff_ne, beq_eq_false_iff_ne, bne_eq_false_iff_eq, Bool.not_eq_true, Bool.not_eq_false, Bool.not_eq_eq_eq_not, Bool.not_true, Bool.not_false, List.length_map, Int.not_lt, Int.not_le, ne_eq, Decidable.not_not] at hc3
        refine vc_seq fun K10 hK10 => ?_
        refine vc_region ?_
        refine vo_move_ref rfl rfl ?_
        refine vo_move_ref rfl rfl ?_
        refine vo_move_pv rfl rfl ?_
        refine vo_call [] Try.func30 rfl rfl rfl rfl rfl rfl rfl (specLastMet_sat (c := z) (by omega) (lt3 h3)) ?_
        rintro _ _ ⟨nl8, rfl, rfl⟩
        refine ⟨Nat.le_of_ble_eq_true rfl, ⟨rfl, rfl, rfl⟩, .inr ⟨rfl, rfl⟩, ?_⟩
        refine vo_stN ?_
        refine vo_call0 Try.func18 rfl rfl rfl rfl (equalInts_sat (a := lmR B z) (b := lmR B z) lmR_len lmR_len) ?_
        rintro _ _ ⟨rfl, rfl⟩
        refine ⟨rfl, rfl, .inr rfl, ?_⟩
        refine vo_assign_pv rfl rfl ?_
        refine vo_nil ?_
        refine hK10 _ ?_
        refine vc_ret ?_
        change retPv _ _ _ _ _
        refine retPv_mk rfl rfl rfl ⟨?_, rfl⟩
        first | rfl | exact absurd trivial (by assumption) | exact absurd rfl (by assumption) | (refine (congrArg (fun b => [bo b]) (?_ : _ = _) : [bo _] = [bo _]); exact decide_eq_true rfl) | exact absurd (by assumption) (q2 _ _ (by omega) (by omega)) | exact absurd q3 (by assumption) | exact absurd hH (by assumption)
      · try simp only [decide_eq_true_eq, decide_eq_false_iff_not, beq_iff_eq, bne_iff_ne, beq_eq_false_iff_ne, bne_eq_false_iff_eq, Bool.not_eq_true, Bool.not_eq_false, Bool.not_eq_eq_eq_not, Bool.not_true, Bool.not_false, List.length_map, Int.not_lt, Int.not_le, ne_eq, Decidable.not_not] at hc3
        have hne : lmR B z ≠ [] := fun e => by rw [e] at hc3; simp at hc3
        have hq := lmL_of hne
        obtain ⟨q1, q2, q3, ⟨q4, q5⟩, q6⟩ := hq
        have hz := q1.1
        have hLl := lmR_len (b := B) (c := z)
        have hH : (lmR B z).getD (Int.toNat 0) 0 = z := q5
        refine vc_skip ?_
        refine hK7 _ ?_
        refine vc_seq fun K11 hK11 => ?_
        refine vc_seq fun K12 hK12 => ?_
        refine vc_region ?_
        refine vo_assign_pv rfl rfl ?_
        refine vo_nil ?_
        refine hK12 _ ?_
        refine vc_block ?_
        refine vc_stN ?_
        refine vc_loopF [3, 4, 5] [6] [.ref 0, _, .ref 1] _ (fun mz vs => ∃ (k : Nat), mz = (lmR B z).length - k ∧ (k ≤ (lmR B z).length) ∧ vs = [i64 k]) ((lmR B z).length) rfl rfl (le_len hC rfl) ⟨rfl, rfl, rfl⟩ ⟨0, rfl, Nat.zero_le _, rfl⟩ ?_
        rintro mz vs - ⟨k, rfl, hk, rfl⟩
        refine vc_stN ?_
        refine vc_seq fun K13 hK13 => ?_
        refine vc_seq fun K14 hK14 => ?_
        refine vc_region ?_
        refine vo_move_pv rfl rfl ?_
        refine vo_move_ref rfl rfl ?_
        refine vo_len_ref rfl rfl rfl Try.underlying25 ?_
        refine vo_binI rfl rfl rfl rfl trivial ?_
        refine vo_nil ?_
        refine hK14 _ ?_
        refine vc_cond rfl (fun hc4 => ?_) (fun hc4 => ?_)
        · try simp only [decide_eq_true_eq, decide_eq_false_iff_not, beq_iff_eq, bne_iff_ne, beq_eq_false_iff_ne, bne_eq_false_iff_eq, Bool.not_eq_true, Bool.not_eq_false, Bool.not_eq_eq_eq_not, Bool.not_true, Bool.not_false, List.length_map, Int.not_lt, Int.not_le, ne_eq, Decidable.not_not] at hc4
          refine vc_skip ?_
          refine hK13 _ ?_
          refine vc_seq fun K15 hK15 => ?_
          refine vc_block ?_
          refine vc_seq fun K16 hK16 => ?_
          refine vc_region ?_
          refine vo_assign_pv rfl rfl ?_
          refine vo_nil ?_
          refine hK16 _ ?_
          refine vc_block ?_
          refine vc_stN ?_
          refine vc_loopF [3, 4, 5, 6] [7] [.ref 0, _, .ref 1, i64 k] _ (fun mz vs => ∃ (j : Nat), mz = k - j ∧ (j ≤ k) ∧ vs = [i64 j]) (k) rfl rfl (le_len hC rfl) ⟨rfl, rfl, rfl⟩ ⟨0, rfl, Nat.zero_le _, rfl⟩ ?_
          rintro mz vs - ⟨j, rfl, hk, rfl⟩
          refine vc_stN ?_
          refine vc_seq fun K17 hK17 => ?_
          refine vc_seq fun K18 hK18 => ?_
          refine vc_region ?_
          refine vo_move_pv rfl rfl ?_
          refine vo_move_pv rfl rfl ?_
          refine vo_binI rfl rfl rfl rfl trivial ?_
          refine vo_nil ?_
          refine hK18 _ ?_
          refine vc_cond rfl (fun hc5 => ?_) (fun hc5 => ?_)
          · try simp only [decide_eq_true_eq, decide_eq_false_iff_not, beq_iff_eq, bne_iff_ne, beq_eq_false_iff_ne, bne_eq_false_iff_eq, Bool.not_eq_true, Bool.not_eq_false, Bool.not_eq_eq_eq_not, Bool.not_true, Bool.not_false, List.length_map, Int.not_lt, Int.not_le, ne_eq, Decidable.not_not] at hc5
            refine vc_skip ?_
            refine hK17 _ ?_
            refine vc_seq fun K19 hK19 => ?_
            refine vc_block ?_
            refine vc_seq fun K20 hK20 => ?_
            refine vc_draw (by kernel_rfl) ?_
            change VD _ _ _ 11 _ _ _
            refine vd_light 0 rfl rfl rfl (by kernel_rfl) (by kernel_rfl) (by kernel_rfl) (wnt_none rfl) (lt_move_ref rfl) ?_
            refine vd_light 1 rfl rfl rfl (by kernel_rfl) (by kernel_rfl) (by kernel_rfl) (wnt_none rfl) (lt_move_ref rfl) ?_
            refine vd_light 2 rfl rfl rfl (by kernel_rfl) (by kernel_rfl) (by kernel_rfl) (wnt_none rfl) (lt_move_pv rfl) ?_
            refine vd_light 3 rfl rfl rfl (by kernel_rfl) (by kernel_rfl) (by kernel_rfl) (wnt_none rfl) (lt_index_ref rfl rfl rfl E25.und inf3 sz3 sd sd) ?_
            try simp only [Int.toNat_natCast]
            refine vd_light 4 rfl rfl rfl (by kernel_rfl) (by kernel_rfl) (by kernel_rfl) (wnt_none rfl) (lt_load_own rfl rfl Try.underlying3 rfl sd (getD_ints _ _) rfl) ?_
            try simp only [Int.toNat_natCast]
            refine vd_light 6 rfl rfl rfl (by kernel_rfl) (by kernel_rfl) (by kernel_rfl) (wnt_none rfl) (lt_move_ref rfl) ?_
            refine vd_light 7 rfl rfl rfl (by kernel_rfl) (by kernel_rfl) (by kernel_rfl) (wnt_none rfl) (lt_move_pv rfl) ?_
            refine vd_light 8 rfl rfl rfl (by kernel_rfl) (by kernel_rfl) (by kernel_rfl) (wnt_none rfl) (lt_index_ref rfl rfl rfl E25.und inf3 sz3 sd sd) ?_
            try simp only [Int.toNat_natCast]
            refine vd_light 9 rfl rfl rfl (by kernel_rfl) (by kernel_rfl) (by kernel_rfl) (wnt_none rfl) (lt_load_own rfl rfl Try.underlying3 rfl sd (getD_ints _ _) rfl) ?_
            try simp only [Int.toNat_natCast]
            refine vd_callR 5 [] rfl rfl (by kernel_rfl) (wnt_none rfl) Try.func31 rfl rfl rfl rfl (implAboveOf_sat (c := ((lmR B z).getD k 0)) (by omega) (lt3 h3)) rfl rfl rfl ?_
            rintro _ _ ⟨nl6, rfl, rfl⟩
            refine ⟨Nat.le_of_ble_eq_true rfl, ⟨rfl, rfl, rfl⟩, .inr ⟨rfl, rfl⟩, ?_⟩
            refine vd_stN ?_
            refine vd_call 10 rfl (by kernel_rfl) (wnt_none rfl) Try.func20 rfl rfl rfl rfl (isIn_sat (list := abvR B ((lmR B z).getD k 0)) (n := (lmR B z).getD j 0) (abvR_len (by omega))) ?_
            rintro _ _ ⟨rfl, rfl⟩
            refine ⟨rfl, rfl, .inr rfl, ?_⟩
            refine vd_nil (by kernel_rfl) ?_
            refine hK20 _ ?_
            refine vc_cond rfl (fun hc6 => ?_) (fun hc6 => ?_)
            · try simp only [decide_eq_true_eq, decide_eq_false_iff_not, beq_iff_eq, bne_iff_ne, beq_eq_false_iff_ne, bne_eq_false_iff_eq, Bool.not_eq_true, Bool.not_eq_false, Bool.not_eq_eq_eq_not, Bool.not_true, Bool.not_false, List.length_map, Int.not_lt, Int.not_le, ne_eq, Decidable.not_not] at hc6
              refine vc_seq fun K21 hK21 => ?_
              refine vc_region ?_
              refine vo_assign_pv rfl rfl ?_
              refine vo_nil ?_
              refine hK21 _ ?_
              refine vc_ret ?_
              change retPv _ _ _ _ _
              refine retPv_mk rfl rfl rfl ⟨?_, rfl⟩
              first | rfl | exact absurd trivial (by assumption) | exact absurd rfl (by assumption) | (refine (congrArg (fun b => [bo b]) (?_ : _ = _) : [bo _] = [bo _]); exact decide_eq_true rfl) | exact absurd (by assumption) (q2 _ _ (by omega) (by omega)) | exact absurd q3 (by assumption) | exact absurd hH (by assumption)
            · try simp only [decide_eq_true_eq, decide_eq_false_iff_not, beq_iff_eq, bne_iff_ne, beq_eq_false_iff_ne, bne_eq_false_iff_eq, Bool.not_eq_true, Bool.not_eq_false, Bool.not_eq_eq_eq_not, Bool.not_true, Bool.not_false, List.length_map, Int.not_lt, Int.not_le, ne_eq, Decidable.not_not] at hc6
              refine vc_skip ?_
              refine hK19 _ ?_
              refine vc_region ?_
              refine vo_move_pv rfl rfl ?_
              refine vo_binI rfl rfl rfl rfl sd ?_
              refine vo_assign_pv rfl rfl ?_
              refine vo_nil ?_
              change againF _ _ _ _ _ _ _ _ _
              refine againF_mk rfl rfl rfl rfl rfl rfl ⟨_, ?_, j + 1, rfl, ?_, rfl⟩
              · omega
              · omega
          · try simp only [decide_eq_true_eq, decide_eq_false_iff_not, beq_iff_eq, bne_iff_ne, beq_eq_false_iff_ne, bne_eq_false_iff_eq, Bool.not_eq_true, Bool.not_eq_false, Bool.not_eq_eq_eq_not, Bool.not_true, Bool.not_false, List.length_map, Int.not_lt, Int.not_le, ne_eq, Decidable.not_not] at hc5
            refine vc_exit ?_
            refine hK15 _ ?_
            refine vc_region ?_
            refine vo_move_pv rfl rfl ?_
            refine vo_binI rfl rfl rfl rfl sd ?_
            refine vo_assign_pv rfl rfl ?_
            refine vo_nil ?_
            change againF _ _ _ _ _ _ _ _ _
            refine againF_mk rfl rfl rfl rfl rfl rfl ⟨_, ?_, k + 1, rfl, ?_, rfl⟩
            · omega
            · omega
        · try simp only [decide_eq_true_eq, decide_eq_false_iff_not, beq_iff_eq, bne_iff_ne, beq_eq_false_iff_ne, bne_eq_false_iff_eq, Bool.not_eq_true, Bool.not_eq_false, Bool.not_eq_eq_eq_not, Bool.not_true, Bool.not_false, List.length_map, Int.not_lt, Int.not_le, ne_eq, Decidable.not_not] at hc4
          obtain ⟨d, hd⟩ : ∃ d : Int, d = (if 0 < z then (B.getD z.toNat []).getD ((B.getD z.toNat []).length - 1) 0 else 0) := ⟨_, rfl⟩
          obtain ⟨q7, q8, q9⟩ := q6 d hd
          have hsl := slice_tail q9
          have hdl : (lmR B d).length ≤ (lmR B z).length := by rw [q9, List.length_append]; omega
          have hd2 := lmR_len (b := B) (c := d)
          refine vc_exit ?_
          refine hK11 _ ?_
          refine vc_seq fun K22 hK22 => ?_
          refine vc_region ?_
          refine vo_assign_pv rfl rfl ?_
          refine vo_nil ?_
          refine hK22 _ ?_
          refine vc_seq fun K23 hK23 => ?_
          refine vc_seq fun K24 hK24 => ?_
          refine vc_region ?_
          refine vo_move_pv rfl rfl ?_
          refine vo_binI rfl rfl rfl rfl trivial ?_
          refine vo_nil ?_
          refine hK24 _ ?_
          refine vc_cond rfl (fun hc7 => ?_) (fun hc7 => ?_)
          · try simp only [decide_eq_true_eq, decide_eq_false_iff_not, beq_iff_eq, bne_iff_ne, beq_eq_false_iff_ne, bne_eq_false_iff_eq, Bool.not_eq_true, Bool.not_eq_false, Bool.not_eq_eq_eq_not, Bool.not_true, Bool.not_false, List.length_map, Int.not_lt, Int.not_le, ne_eq, Decidable.not_not] at hc7
            rw [if_pos (by omega)] at hd
            have q77 := q7 (by omega)
            have hbl : (B.getD z.toNat []).length ≤ 3 := lens3 h3 _
            have hxm : (List.map intP (B.getD z.toNat [])).length = (B.getD z.toNat []).length := List.length_map ..
            refine vc_draw (by kernel_rfl) ?_
            change VD _ _ _ 13 _ _ _
            refine vd_light 0 rfl rfl rfl (by kernel_rfl) (by kernel_rfl) (by kernel_rfl) (wnt_none rfl) (lt_move_ref rfl) ?_
            refine vd_light 1 rfl rfl rfl (by kernel_rfl) (by kernel_rfl) (by kernel_rfl) (wnt_none rfl) (lt_move_pv rfl) ?_
            refine vd_light 2 rfl rfl rfl (by kernel_rfl) (by kernel_rfl) (by kernel_rfl) (wnt_none rfl) (lt_index_ref rfl rfl rfl E23.und inf25 sz25 sd sd) ?_
            try simp only [Int.toNat_natCast]
            refine vd_light 3 rfl rfl rfl (by kernel_rfl) (by kernel_rfl) (by kernel_rfl) (wnt_none rfl) (lt_load_own rfl rfl Try.underlying25 rfl sd (getD_intss _ _) rfl) ?_
            try simp only [Int.toNat_natCast]
            refine vd_light 4 rfl rfl rfl (by kernel_rfl) (by kernel_rfl) (by kernel_rfl) (wnt_none rfl) (lt_move_ref rfl) ?_
            refine vd_light 5 rfl rfl rfl (by kernel_rfl) (by kernel_rfl) (by kernel_rfl) (wnt_none rfl) (lt_move_pv rfl) ?_
            refine vd_light 6 rfl rfl rfl (by kernel_rfl) (by kernel_rfl) (by kernel_rfl) (wnt_none rfl) (lt_index_ref rfl rfl rfl E23.und inf25 sz25 sd sd) ?_
            try simp only [Int.toNat_natCast]
            refine vd_light 7 rfl rfl rfl (by kernel_rfl) (by kernel_rfl) (by kernel_rfl) (wnt_none rfl) (lt_load_own rfl rfl Try.underlying25 rfl sd (getD_intss _ _) rfl) ?_
            try simp only [Int.toNat_natCast]
            refine vd_light 8 rfl rfl rfl (by kernel_rfl) (by kernel_rfl) (by kernel_rfl) (wnt_none rfl) (lt_len_pv rfl Try.underlying25) ?_
            refine vd_light 9 rfl rfl rfl (by kernel_rfl) (by kernel_rfl) (by kernel_rfl) (wnt_none rfl) (lt_binI rfl rfl rfl sd) ?_
            refine vd_light 10 rfl rfl rfl (by kernel_rfl) (by kernel_rfl) (by kernel_rfl) (wnt_none rfl) (lt_index_pv (.int .i64 0) rfl rfl E25.und inf3 sz3 sd sd) ?_
            simp only [Int.toNat_natCast, Int.toNat_zero, getD_ints, getD_intss, getD_bools, getD_bytes, PV.cells]
            refine vd_light 11 rfl rfl rfl (by kernel_rfl) (by kernel_rfl) (by kernel_rfl) (wnt_none rfl) (lt_load_adr rfl Try.underlying3 rfl) ?_
            refine vd_st (by simp only [ix_last]; exact eq_refl _) ?_
            refine vd_light 12 rfl rfl rfl (by kernel_rfl) (by kernel_rfl) (by kernel_rfl) (wnt_none rfl) (lt_assign_pv rfl) ?_
            refine vd_nil (by kernel_rfl) ?_
            refine hK23 _ ?_
            refine vc_seq fun K25 hK25 => ?_
            refine vc_region ?_
            refine vo_move_ref rfl rfl ?_
            refine vo_move_pv rfl rfl ?_
            refine vo_flag 74 (p := .int .i64 d) (by rw [hd]; rfl) ?_
            refine vo_call [] Try.func29 rfl rfl rfl rfl rfl rfl rfl (implLastMet_sat (c := d) (by omega) (lt3 h3)) ?_
            rintro _ _ ⟨nl3, rfl, rfl⟩
            refine ⟨Nat.le_of_ble_eq_true rfl, ⟨rfl, rfl, rfl⟩, .inr ⟨rfl, rfl⟩, ?_⟩
            refine vo_stN ?_
            refine vo_assign_ref rfl rfl ?_
            refine vo_nil ?_
            refine hK25 _ ?_
            refine vc_seq fun K26 hK26 => ?_
            refine vc_region ?_
            refine vo_move_ref rfl rfl ?_
            refine vo_move_ref rfl rfl ?_
            refine vo_len_ref rfl rfl rfl Try.underlying23 ?_
            refine vo_call [] Try.func32 rfl rfl rfl rfl rfl rfl rfl (sorted_sat (list := lmR B z) (n := (B.map ints).length) lmR_len (by rw [List.length_map]; omega)) ?_
            rintro _ _ ⟨nl4, rfl, rfl⟩
            refine ⟨Nat.le_of_ble_eq_true rfl, ⟨rfl, rfl, rfl⟩, .inr ⟨rfl, rfl⟩, ?_⟩
            refine vo_stN ?_
            refine vo_move_ref rfl rfl ?_
            refine vo_move_pv rfl rfl ?_
            refine vo_call [] Try.func31 rfl rfl rfl rfl rfl rfl rfl (implAboveOf_sat (c := z) (by omega) (lt3 h3)) ?_
            rintro _ _ ⟨nl5, rfl, rfl⟩
            refine ⟨Nat.le_of_ble_eq_true rfl, ⟨rfl, rfl, rfl⟩, .inr ⟨rfl, rfl⟩, ?_⟩
            refine vo_stN ?_
            refine vo_call0 Try.func18 rfl rfl rfl rfl (equalInts_sat (a := srtL (lmR B z) (B.map ints).length) (b := abvR B z) (Nat.lt_of_le_of_lt (srt_len _ _) (by rw [List.length_map]; omega)) (abvR_len (by omega))) ?_
            rintro _ _ ⟨rfl, rfl⟩
            refine ⟨rfl, rfl, .inr rfl, ?_⟩
            refine vo_move_pv rfl rfl ?_
            refine vo_split 84 rfl (fun hg8 => ?_) (fun hg8 => ?_)
            · try simp only [decide_eq_true_eq, decide_eq_false_iff_not, beq_iff_eq, bne_iff_ne, beq_eq_false_iff_ne, bne_eq_false_iff_eq, Bool.not_eq_true, Bool.not_eq_false, Bool.not_eq_eq_eq_not, Bool.not_true, Bool.not_false, List.length_map, Int.not_lt, Int.not_le, ne_eq, Decidable.not_not] at hg8
              refine vo_guard_on rfl rfl rfl ?_
              refine vo_move_ref rfl rfl ?_
              refine vo_guard_on rfl rfl rfl ?_
              refine vo_index_ref rfl rfl rfl rfl E25.und inf3 sz3 sd sd ?_
              try simp only [Int.toNat_natCast]
              refine vo_guard_on rfl rfl rfl ?_
              refine vo_load_own rfl rfl rfl Try.underlying3 rfl sd (getD_ints _ _) rfl ?_
              try simp only [Int.toNat_natCast]
              refine vo_guard_on rfl rfl rfl ?_
              refine vo_move_pv rfl rfl ?_
              refine vo_guard_on rfl rfl rfl ?_
              refine vo_binI rfl rfl rfl rfl trivial ?_
              refine vo_pick_t rfl rfl ?_
              refine vo_move_pv rfl rfl ?_
              refine vo_split 91 rfl (fun hg9 => ?_) (fun hg9 => ?_)
              · try simp only [decide_eq_true_eq, decide_eq_false_iff_not, beq_iff_eq, bne_iff_ne, beq_eq_false_iff_ne, bne_eq_false_iff_eq, Bool.not_eq_true, Bool.not_eq_false, Bool.not_eq_eq_eq_not, Bool.not_true, Bool.not_false, List.length_map, Int.not_lt, Int.not_le, ne_eq, Decidable.not_not] at hg9
                refine vo_guard_on rfl rfl rfl ?_
                refine vo_move_ref rfl rfl ?_
                refine vo_guard_on rfl rfl rfl ?_
                refine vo_move_ref rfl rfl ?_
                refine vo_guard_on rfl rfl rfl ?_
                refine vo_len_ref rfl rfl rfl Try.underlying25 ?_
                refine vo_guard_on rfl rfl rfl ?_
                refine vo_move_ref rfl rfl ?_
                refine vo_guard_on rfl rfl rfl ?_
                refine vo_len_ref rfl rfl rfl Try.underlying25 ?_
                refine vo_guard_on rfl rfl rfl ?_
                refine vo_binI rfl rfl rfl rfl sd ?_
                refine vo_guard_on rfl rfl rfl ?_
                refine vo_expose 1 (by omega) rfl ?_
                refine vo_weaken 92 rfl ?_
                refine vo_stN ?_
                refine vo_slice_pv rfl rfl rfl rfl E25.und inf3 sz3 sd sd sd ?_
                simp only [Int.toNat_natCast, Int.toNat_zero, List.drop_zero, Nat.sub_zero, ← List.map_drop, ← List.map_take]
                refine vo_st (by simp only [hsl]; exact eq_refl _) ?_
                refine vo_guard_on rfl rfl rfl ?_
                refine vo_move_ref rfl rfl ?_
                refine vo_guard_on rfl rfl rfl ?_
                refine vo_call0 Try.func18 rfl rfl rfl rfl (equalInts_sat (a := lmR B d) (b := lmR B d) lmR_len lmR_len) ?_
                rintro _ _ ⟨rfl, rfl⟩
                refine ⟨rfl, rfl, .inr rfl, ?_⟩
                refine vo_pick_t rfl rfl ?_
                refine vo_assign_pv rfl rfl ?_
                refine vo_nil ?_
                refine hK26 _ ?_
                refine vc_ret ?_
                change retPv _ _ _ _ _
                refine retPv_mk rfl rfl rfl ⟨?_, rfl⟩
                first | rfl | exact absurd trivial (by assumption) | exact absurd rfl (by assumption) | (refine (congrArg (fun b => [bo b]) (?_ : _ = _) : [bo _] = [bo _]); exact decide_eq_true rfl) | exact absurd (by assumption) (q2 _ _ (by omega) (by omega)) | exact absurd q3 (by assumption) | exact absurd hH (by assumption)
              · try simp only [decide_eq_true_eq, decide_eq_false_iff_not, beq_iff_eq, bne_iff_ne, beq_eq_false_iff_ne, bne_eq_false_iff_eq, Bool.not_eq_true, Bool.not_eq_false, Bool.not_eq_eq_eq_not, Bool.not_true, Bool.not_false, List.length_map, Int.not_lt, Int.not_le, ne_eq, Decidable.not_not] at hg9
                refine vo_guard_off rfl rfl rfl rfl rfl ?_
                refine vo_guard_off rfl rfl rfl rfl rfl ?_
                refine vo_guard_off rfl rfl rfl rfl rfl ?_
                refine vo_guard_off rfl rfl rfl rfl rfl ?_
                refine vo_guard_off rfl rfl rfl rfl rfl ?_
                refine vo_guard_off rfl rfl rfl rfl rfl ?_
                refine vo_guard_off rfl rfl rfl rfl rfl ?_
                refine vo_guard_off rfl rfl rfl rfl rfl ?_
                refine vo_guard_off rfl rfl rfl rfl rfl ?_
                refine vo_pick_f rfl rfl ?_
                refine vo_assign_pv rfl rfl ?_
                refine vo_nil ?_
                refine hK26 _ ?_
                refine vc_ret ?_
                change retPv _ _ _ _ _
                refine retPv_mk rfl rfl rfl ⟨?_, rfl⟩
                first | rfl | exact absurd trivial (by assumption) | exact absurd rfl (by assumption) | (refine (congrArg (fun b => [bo b]) (?_ : _ = _) : [bo _] = [bo _]); exact decide_eq_true rfl) | exact absurd (by assumption) (q2 _ _ (by omega) (by omega)) | exact absurd q3 (by assumption) | exact absurd hH (by assumption)
            · try simp only [decide_eq_true_eq, decide_eq_false_iff_not, beq_iff_eq, bne_iff_ne, beq_eq_false_iff_ne, bne_eq_false_iff_eq, Bool.not_eq_true, Bool.not_eq_false, Bool.not_eq_eq_eq_not, Bool.not_true, Bool.not_false, List.length_map, Int.not_lt, Int.not_le, ne_eq, Decidable.not_not] at hg8
              refine vo_guard_off rfl rfl rfl rfl rfl ?_
              refine vo_guard_off rfl rfl rfl rfl rfl ?_
              refine vo_guard_off rfl rfl rfl rfl rfl ?_
              refine vo_guard_off rfl rfl rfl rfl rfl ?_
              refine vo_guard_off rfl rfl rfl rfl rfl ?_
              refine vo_pick_f rfl rfl ?_
              refine vo_move_pv rfl rfl ?_
              refine vo_guard_off rfl rfl rfl rfl rfl ?_
              refine vo_guard_off rfl rfl rfl rfl rfl ?_
              refine vo_guard_off rfl rfl rfl rfl rfl ?_
              refine vo_guard_off rfl rfl rfl rfl rfl ?_
              refine vo_guard_off rfl rfl rfl rfl rfl ?_
              refine vo_guard_off rfl rfl rfl rfl rfl ?_
              refine vo_guard_off rfl rfl rfl rfl rfl ?_
              refine vo_guard_off rfl rfl rfl rfl rfl ?_
              refine vo_guard_off rfl rfl rfl rfl rfl ?_
              refine vo_pick_f rfl rfl ?_
              refine vo_assign_pv rfl rfl ?_
              refine vo_nil ?_
              refine hK26 _ ?_
              refine vc_ret ?_
              change retPv _ _ _ _ _
              refine retPv_mk rfl rfl rfl ⟨?_, rfl⟩
              first | rfl | exact absurd trivial (by assumption) | exact absurd rfl (by assumption) | (refine (congrArg (fun b => [bo b]) (?_ : _ = _) : [bo _] = [bo _]); exact decide_eq_true rfl) | exact absurd (by assumption) (q2 _ _ (by omega) (by omega)) | exact absurd q3 (by assumption) | exact absurd hH (by assumption)
          · try simp only [decide_eq_true_eq, decide_eq_false_iff_not, beq_iff_eq, bne_iff_ne, beq_eq_false_iff_ne, bne_eq_false_iff_eq, Bool.not_eq_true, Bool.not_eq_false, Bool.not_eq_eq_eq_not, Bool.not_true, Bool.not_false, List.length_map, Int.not_lt, Int.not_le, ne_eq, Decidable.not_not] at hc7
            rw [if_neg (by omega)] at hd
            refine vc_skip ?_
            refine hK23 _ ?_
            refine vc_seq fun K27 hK27 => ?_
            refine vc_region ?_
            refine vo_move_ref rfl rfl ?_
            refine vo_move_pv rfl rfl ?_
            refine vo_flag 74 (p := .int .i64 d) (by rw [hd]; rfl) ?_
            refine vo_call [] Try.func29 rfl rfl rfl rfl rfl rfl rfl (implLastMet_sat (c := d) (by omega) (lt3 h3)) ?_
            rintro _ _ ⟨nl3, rfl, rfl⟩
            refine ⟨Nat.le_of_ble_eq_true rfl, ⟨rfl, rfl, rfl⟩, .inr ⟨rfl, rfl⟩, ?_⟩
            refine vo_stN ?_
            refine vo_assign_ref rfl rfl ?_
            refine vo_nil ?_
            refine hK27 _ ?_
            refine vc_seq fun K28 hK28 => ?_
            refine vc_region ?_
            refine vo_move_ref rfl rfl ?_
            refine vo_move_ref rfl rfl ?_
            refine vo_len_ref rfl rfl rfl Try.underlying23 ?_
            refine vo_call [] Try.func32 rfl rfl rfl rfl rfl rfl rfl (sorted_sat (list := lmR B z) (n := (B.map ints).length) lmR_len (by rw [List.length_map]; omega)) ?_
            rintro _ _ ⟨nl4, rfl, rfl⟩
            refine ⟨Nat.le_of_ble_eq_true rfl, ⟨rfl, rfl, rfl⟩, .inr ⟨rfl, rfl⟩, ?_⟩
            refine vo_stN ?_
            refine vo_move_ref rfl rfl ?_
            refine vo_move_pv rfl rfl ?_
            refine vo_call [] Try.func31 rfl rfl rfl rfl rfl rfl rfl (implAboveOf_sat (c := z) (by omega) (lt3 h3)) ?_
            rintro _ _ ⟨nl5, rfl, rfl⟩
            refine ⟨Nat.le_of_ble_eq_true rfl, ⟨rfl, rfl, rfl⟩, .inr ⟨rfl, rfl⟩, ?_⟩
            refine vo_stN ?_
            refine vo_call0 Try.func18 rfl rfl rfl rfl (equalInts_sat (a := srtL (lmR B z) (B.map ints).length) (b := abvR B z) (Nat.lt_of_le_of_lt (srt_len _ _) (by rw [List.length_map]; omega)) (abvR_len (by omega))) ?_
            rintro _ _ ⟨rfl, rfl⟩
            refine ⟨rfl, rfl, .inr rfl, ?_⟩
            refine vo_move_pv rfl rfl ?_
            refine vo_split 84 rfl (fun hg10 => ?_) (fun hg10 => ?_)
            · try simp only [decide_eq_true_eq, decide_eq_false_iff_not, beq_iff_eq, bne_iff_ne, beq_eq_false_iff_ne, bne_eq_false_iff_eq, Bool.not_eq_true, Bool.not_eq_false, Bool.not_eq_eq_eq_not, Bool.not_true, Bool.not_false, List.length_map, Int.not_lt, Int.not_le, ne_eq, Decidable.not_not] at hg10
              refine vo_guard_on rfl rfl rfl ?_
              refine vo_move_ref rfl rfl ?_
              refine vo_guard_on rfl rfl rfl ?_
              refine vo_index_ref rfl rfl rfl rfl E25.und inf3 sz3 sd sd ?_
              try simp only [Int.toNat_natCast]
              refine vo_guard_on rfl rfl rfl ?_
              refine vo_load_own rfl rfl rfl Try.underlying3 rfl sd (getD_ints _ _) rfl ?_
              try simp only [Int.toNat_natCast]
              refine vo_guard_on rfl rfl rfl ?_
              refine vo_move_pv rfl rfl ?_
              refine vo_guard_on rfl rfl rfl ?_
              refine vo_binI rfl rfl rfl rfl trivial ?_
              refine vo_pick_t rfl rfl ?_
              refine vo_move_pv rfl rfl ?_
              refine vo_split 91 rfl (fun hg11 => ?_) (fun hg11 => ?_)
              · try simp only [decide_eq_true_eq, decide_eq_false_iff_not, beq_iff_eq, bne_iff_ne, beq_eq_false_iff_ne, bne_eq_false_iff_eq, Bool.not_eq_true, Bool.not_eq_false, Bool.not_eq_eq_eq_not, Bool.not_true, Bool.not_false, List.length_map, Int.not_lt, Int.not_le, ne_eq, Decidable.not_not] at hg11
                refine vo_guard_on rfl rfl rfl ?_
                refine vo_move_ref rfl rfl ?_
                refine vo_guard_on rfl rfl rfl ?_
                refine vo_move_ref rfl rfl ?_
                refine vo_guard_on rfl rfl rfl ?_
                refine vo_len_ref rfl rfl rfl Try.underlying25 ?_
                refine vo_guard_on rfl rfl rfl ?_
                refine vo_move_ref rfl rfl ?_
                refine vo_guard_on rfl rfl rfl ?_
                refine vo_len_ref rfl rfl rfl Try.underlying25 ?_
                refine vo_guard_on rfl rfl rfl ?_
                refine vo_binI rfl rfl rfl rfl sd ?_
                refine vo_guard_on rfl rfl rfl ?_
                refine vo_expose 1 (by omega) rfl ?_
                refine vo_weaken 92 rfl ?_
                refine vo_stN ?_
                refine vo_slice_pv rfl rfl rfl rfl E25.und inf3 sz3 sd sd sd ?_
                simp only [Int.toNat_natCast, Int.toNat_zero, List.drop_zero, Nat.sub_zero, ← List.map_drop, ← List.map_take]
                refine vo_st (by simp only [hsl]; exact eq_refl _) ?_
                refine vo_guard_on rfl rfl rfl ?_
                refine vo_move_ref rfl rfl ?_
                refine vo_guard_on rfl rfl rfl ?_
                refine vo_call0 Try.func18 rfl rfl rfl rfl (equalInts_sat (a := lmR B d) (b := lmR B d) lmR_len lmR_len) ?_
                rintro _ _ ⟨rfl, rfl⟩
                refine ⟨rfl, rfl, .inr rfl, ?_⟩
                refine vo_pick_t rfl rfl ?_
                refine vo_assign_pv rfl rfl ?_
                refine vo_nil ?_
                refine hK28 _ ?_
                refine vc_ret ?_
                change retPv _ _ _ _ _
                refine retPv_mk rfl rfl rfl ⟨?_, rfl⟩
                first | rfl | exact absurd trivial (by assumption) | exact absurd rfl (by assumption) | (refine (congrArg (fun b => [bo b]) (?_ : _ = _) : [bo _] = [bo _]); exact decide_eq_true rfl) | exact absurd (by assumption) (q2 _ _ (by omega) (by omega)) | exact absurd q3 (by assumption) | exact absurd hH (by assumption)
              · try simp only [decide_eq_true_eq, decide_eq_false_iff_not, beq_iff_eq, bne_iff_ne, beq_eq_false_iff_ne, bne_eq_false_iff_eq, Bool.not_eq_true, Bool.not_eq_false, Bool.not_eq_eq_eq_not, Bool.not_true, Bool.not_false, List.length_map, Int.not_lt, Int.not_le, ne_eq, Decidable.not_not] at hg11
                refine vo_guard_off rfl rfl rfl rfl rfl ?_
                refine vo_guard_off rfl rfl rfl rfl rfl ?_
                refine vo_guard_off rfl rfl rfl rfl rfl ?_
                refine vo_guard_off rfl rfl rfl rfl rfl ?_
                refine vo_guard_off rfl rfl rfl rfl rfl ?_
                refine vo_guard_off rfl rfl rfl rfl rfl ?_
                refine vo_guard_off rfl rfl rfl rfl rfl ?_
                refine vo_guard_off rfl rfl rfl rfl rfl ?_
                refine vo_guard_off rfl rfl rfl rfl rfl ?_
                refine vo_pick_f rfl rfl ?_
                refine vo_assign_pv rfl rfl ?_
                refine vo_nil ?_
                refine hK28 _ ?_
                refine vc_ret ?_
                change retPv _ _ _ _ _
                refine retPv_mk rfl rfl rfl ⟨?_, rfl⟩
                first | rfl | exact absurd trivial (by assumption) | exact absurd rfl (by assumption) | (refine (congrArg (fun b => [bo b]) (?_ : _ = _) : [bo _] = [bo _]); exact decide_eq_true rfl) | exact absurd (by assumption) (q2 _ _ (by omega) (by omega)) | exact absurd q3 (by assumption) | exact absurd hH (by assumption)
            · try simp only [decide_eq_true_eq, decide_eq_false_iff_not, beq_iff_eq, bne_iff_ne, beq_eq_false_iff_ne, bne_eq_false_iff_eq, Bool.not_eq_true, Bool.not_eq_false, Bool.not_eq_eq_eq_not, Bool.not_true, Bool.not_false, List.length_map, Int.not_lt, Int.not_le, ne_eq, Decidable.not_not] at hg10
              refine vo_guard_off rfl rfl rfl rfl rfl ?_
              refine vo_guard_off rfl rfl rfl rfl rfl ?_
              refine vo_guard_off rfl rfl rfl rfl rfl ?_
              refine vo_guard_off rfl rfl rfl rfl rfl ?_
              refine vo_guard_off rfl rfl rfl rfl rfl ?_
              refine vo_pick_f rfl rfl ?_
              refine vo_move_pv rfl rfl ?_
              refine vo_guard_off rfl rfl rfl rfl rfl ?_
              refine vo_guard_off rfl rfl rfl rfl rfl ?_
              refine vo_guard_off rfl rfl rfl rfl rfl ?_
              refine vo_guard_off rfl rfl rfl rfl rfl ?_
              refine vo_guard_off rfl rfl rfl rfl rfl ?_
              refine vo_guard_off rfl rfl rfl rfl rfl ?_
              refine vo_guard_off rfl rfl rfl rfl rfl ?_
              refine vo_guard_off rfl rfl rfl rfl rfl ?_
              refine vo_guard_off rfl rfl rfl rfl rfl ?_
              refine vo_pick_f rfl rfl ?_
              refine vo_assign_pv rfl rfl ?_
              refine vo_nil ?_
              refine hK28 _ ?_
              refine vc_ret ?_
              change retPv _ _ _ _ _
              refine retPv_mk rfl rfl rfl ⟨?_, rfl⟩
              first | rfl | exact absurd trivial (by assumption) | exact absurd rfl (by assumption) | (refine (congrArg (fun b => [bo b]) (?_ : _ = _) : [bo _] = [bo _]); exact decide_eq_true rfl) | exact absurd (by assumption) (q2 _ _ (by omega) (by omega)) | exact absurd q3 (by assumption) | exact absurd hH (by assumption)

end Go.Vl

namespace Go.Vl
set_option linter.unusedVariables false
set_option linter.unusedSimpArgs false
open Go.Proofs

theorem bhd_head (x : Int) (t : List Int) : ¬ bhd x (x :: t) := by unfold bhd fM; rw [if_pos rfl]; omega
theorem bhd_nil (x : Int) : ¬ bhd x [] := by unfold bhd fM; omega
theorem fh_two {x : Int} {t p : List Int} (h : ¬ bhd x p) : fhM [x :: t, p] = some x := by
  unfold fhM fhF
  rw [freeH_t (by simp) (by
    rintro ⟨l, hl, hb⟩
    rcases List.mem_cons.1 hl with rfl | hl
    · exact bhd_head x t hb
    · rw [List.mem_singleton.1 hl] at hb; exact h hb)]
  rfl
theorem merge_one : ∀ (t : List Int) (n : Nat), t.length ≤ n → mergeF n [t, []] = (t, [[], []])
  | [], n, _ => by
    refine mergeF_none ?_
    unfold fhM fhF freeH
    simp [fhF, freeH]
  | x :: t, n, hn => by
    simp only [List.length_cons] at hn
    rw [mergeF_some (fh_two (bhd_nil x)) (by simp [tot]; omega)]
    have e : [x :: t, ([] : List Int)].map (tk x) = [t, []] := by simp [tk]
    rw [e, merge_one t (n-1) (by omega)]
theorem merge_two (d : Int) (t : List Int) : mergeM [d :: t, [d]] = (d :: t, [[], []]) := by
  unfold mergeM
  have hb : ¬ bhd d [d] := bhd_head d []
  rw [mergeF_some (fh_two hb) (Nat.le_refl _)]
  have e : [d :: t, [d]].map (tk d) = [t, []] := by simp [tk]
  rw [e, merge_one t _ (by simp [tot])]
/-- On one line. -/
def Line (b : List (List Int)) (c : Nat) : Prop := ∀ x ∈ abvR b c, (b.getD x.toNat []).length ≤ 1
theorem line_all {b : List (List Int)} (hv : VB b) : ∀ c, c < b.length → Line b c → ordM b c = wkM b c ∧ (wkM b c).Nodup := by
  intro c
  induction c using Nat.strongRecOn with
  | ind c ih =>
    intro hc hl
    have h1 := hl c (abvR_self hv (by omega) (by omega))
    rw [Int.toNat_natCast] at h1
    cases hb : b.getD c [] with
    | nil =>
      have e1 : wkM b c = [(c : Int)] := by unfold wkM wkS; rw [hb]; rfl
      refine ⟨?_, by rw [e1]; simp⟩
      rw [e1]
      unfold ordM ordS
      rw [hb, if_neg (by rintro ⟨x, hx, _⟩; cases hx)]
      have e2 : mergeM (ordL (ordT b c) [] ++ [[]]) = ([], [[]]) := by
        unfold mergeM ordL
        refine mergeF_none ?_
        simp [fhM, fhF, freeH]
      rw [e2]; rfl
    | cons d r =>
      have hr : r = [] := by rw [hb] at h1; simp at h1; exact h1
      subst hr
      have hd : d ∈ b.getD c [] := by rw [hb]; exact List.mem_cons_self
      have hbd := hv.bd hd
      have hld : Line b d.toNat := fun x hx => hl x (by
        rw [show ((d.toNat : Nat) : Int) = d by omega] at hx
        exact abvR_trans (abvR_base hv (by omega) (by omega) d (by rw [Int.toNat_natCast]; exact hd)) hx)
      obtain ⟨i1, i2⟩ := ih d.toNat (by omega) (by omega) hld
      have e1 : wkM b c = (c : Int) :: wkM b d.toNat := by
        unfold wkM
        conv => lhs; unfold wkS
        rw [hb, List.flatMap_cons, List.flatMap_nil, List.append_nil]
        have := wkT_at hv hc hd
        rw [this]; rfl
      have e3 : ∃ t, wkM b d.toNat = d :: t := ⟨(b.getD d.toNat []).flatMap (fun x => (wkT b d.toNat).getD x.toNat []), by
        show ((d.toNat : Nat) : Int) :: _ = _
        rw [show ((d.toNat : Nat) : Int) = d by omega]⟩
      obtain ⟨t, ht⟩ := e3
      have e4 : (ordT b c).getD d.toNat [] = d :: t := by rw [ordT_get b c _ (by omega), i1, ht]
      refine ⟨?_, ?_⟩
      · unfold ordM ordS
        rw [hb, if_neg (by
          rintro ⟨x, hx, h2⟩
          rw [List.mem_singleton.1 hx, e4] at h2
          cases h2)]
        have e5 : ordL (ordT b c) [d] ++ [[d]] = [d :: t, [d]] := by unfold ordL; rw [List.map_cons, e4]; rfl
        rw [e5, merge_two, e1, ht]; rfl
      · rw [e1]
        refine List.nodup_cons.2 ⟨fun hm => ?_, i2⟩
        have := wk_bd hv d.toNat (by omega) _ hm
        omega
theorem once_nodup : ∀ (l acc : List Int), (acc ++ l).Nodup → onceF acc l = acc ++ l
  | [], acc, _ => by simp [onceF]
  | x :: l, acc, h => by
    unfold onceF
    have hx : x ∉ acc := by
      rw [List.nodup_append] at h
      exact fun hm => h.2.2 x hm x List.mem_cons_self rfl
    rw [if_neg hx, once_nodup l (acc ++ [x]) (by simpa using h)]
    simp
theorem last_nodup : ∀ (l : List Int), l.Nodup → lastF l = l
  | [], _ => rfl
  | x :: l, h => by
    unfold lastF
    rw [if_neg (List.nodup_cons.1 h).1, last_nodup l (List.nodup_cons.1 h).2]
theorem line_law {b : List (List Int)} {z : Int} (h : dfR b z ≠ []) (hl : ∀ i, i < (dfR b z).length → (b.getD ((dfR b z).getD i 0).toNat []).length ≤ 1) : orOK b z ∧ orR b z = dfR b z ∧ lmR b z = dfR b z := by
  have hcw : cwP b z := Classical.byContradiction fun h2 => h (dfR_no h2)
  obtain ⟨⟨hv, hz0, hz1⟩, hz9⟩ := hcw
  obtain ⟨n, rfl⟩ := Int.eq_ofNat_of_zero_le hz0
  have hn : n < b.length := by omega
  have hcw : cwP b n := ⟨⟨hv, hz0, hz1⟩, hz9⟩
  have ed : dfR b n = onceF [] (wkM b n) := by rw [dfR_yes hcw, Int.toNat_natCast]
  have hline : Line b n := by
    intro x hx
    have h1 : x ∈ dfR b n := by rw [ed, once_mem]; exact .inr ((wk_abvR hv hn x).2 hx)
    obtain ⟨i, hi, rfl⟩ := List.getElem_of_mem h1
    rw [← getD_at hi 0]
    exact hl i hi
  obtain ⟨i1, i2⟩ := line_all hv n hn hline
  have ed2 : dfR b n = wkM b n := by rw [ed, once_nodup _ _ (by simpa using i2)]; rfl
  have hne : ordM b n ≠ [] := by rw [i1]; unfold wkM wkS; simp
  have hok : orOK b n := ⟨⟨hv, hz0, hz1⟩, by rw [Int.toNat_natCast]; exact hne⟩
  refine ⟨hok, ?_, ?_⟩
  · rw [orR_yes hok, Int.toNat_natCast, i1, ed2]
  · rw [lmR_yes hcw, Int.toNat_natCast, last_nodup _ i2, ed2]

theorem FnDepthFirstLine_sat {nl : Option Bool} {c : List (Fin 256)} : SatAt Try.prog 9 [.pv false (.sl nl 1 (c.map byteP))] [] (fun res rows => res = [bo true] ∧ rows = []) := by
  refine sat_entry (ts := [2]) Try.func9 rfl rfl (by decide) (Nat.le_of_ble_eq_true rfl) fun C hC => ?_
  rw [Try.ntmps9]
  replace hC : C.nb = 0 := hC
  refine vc_seq fun K1 hK1 => ?_
  refine vc_region ?_
  refine vo_assign_pv rfl rfl ?_
  refine vo_nil ?_
  refine hK1 _ ?_
  refine vc_seq fun K2 hK2 => ?_
  refine vc_seq fun K3 hK3 => ?_
  refine vc_region ?_
  refine vo_move_pv rfl rfl ?_
  refine vo_len_pv rfl rfl Try.underlying22 ?_
  refine vo_binI rfl rfl rfl rfl trivial ?_
  refine vo_nil ?_
  refine hK3 _ ?_
  refine vc_cond rfl (fun hc1 => ?_) (fun hc1 => ?_)
  · try simp only [decide_eq_true_eq, decide_eq_false_iff_not, beq_iff_eq, bne_iff_ne, beq_eq_false_iff_ne, bne_eq_false_iff_eq, Bool.not_eq_true, Bool.not_eq_false, Bool.not_eq_eq_eq_not, Bool.not_true, Bool.not_false, List.length_map, Int.not_lt, Int.not_le, ne_eq, Decidable.not_not] at hc1
    refine vc_seq fun K4 hK4 => ?_
    refine vc_region ?_
    refine vo_assign_pv rfl rfl ?_
    refine vo_nil ?_
    refine hK4 _ ?_
    refine vc_ret ?_
    change retPv _ _ _ _ _
    refine retPv_mk rfl rfl rfl ⟨?_, rfl⟩
    rfl
  · try simp only [decide_eq_true_eq, decide_eq_false_iff_not, beq_iff_eq, bne_iff_ne, beq_eq_false_iff_ne, bne_eq_false_iff_eq, Bool.not_eq_true, Bool.not_eq_false, Bool.not_eq_eq_eq_not, Bool.not_true, Bool.not_false, List.length_map, Int.not_lt, Int.not_le, ne_eq, Decidable.not_not] at hc1
    refine vc_skip ?_
    refine hK2 _ ?_
    refine vc_seq fun K5 hK5 => ?_
    refine vc_region ?_
    refine vo_move_pv rfl rfl ?_
    refine vo_call [] Try.func40 rfl rfl rfl rfl rfl rfl rfl (DrawDepthFirst_sat (by omega)) ?_
    rintro _ _ ⟨B, z, f, ⟨h1, h2, h3, h5, h6⟩, rfl, rfl⟩
    refine ⟨Nat.le_of_ble_eq_true rfl, ⟨rfl, rfl, rfl⟩, .inl rfl, ?_⟩
    refine vo_stN ?_
    refine vo_move rfl ?_
    refine vo_extract rfl rfl rfl ?_
    refine vo_extract rfl rfl rfl ?_
    refine vo_assign_ref rfl rfl ?_
    refine vo_assign_pv rfl rfl ?_
    refine vo_nil ?_
    refine hK5 _ ?_
    refine vc_seq fun K6 hK6 => ?_
    refine vc_region ?_
    refine vo_move_ref rfl rfl ?_
    refine vo_move_pv rfl rfl ?_
    refine vo_call [] Try.func41 rfl rfl rfl rfl rfl rfl rfl (implDepthFirst_sat (c := z) (by omega) (lt3 h3)) ?_
    rintro _ _ ⟨nl7, rfl, rfl⟩
    refine ⟨Nat.le_of_ble_eq_true rfl, ⟨rfl, rfl, rfl⟩, .inr ⟨rfl, rfl⟩, ?_⟩
    refine vo_stN ?_
    refine vo_assign_ref rfl rfl ?_
    refine vo_nil ?_
    refine hK6 _ ?_
    refine vc_seq fun K7 hK7 => ?_
    refine vc_seq fun K8 hK8 => ?_
    refine vc_region ?_
    refine vo_move_ref rfl rfl ?_
    refine vo_move_ref rfl rfl ?_
    refine vo_move_pv rfl rfl ?_
    refine vo_call [] Try.func42 rfl rfl rfl rfl rfl rfl rfl (specDepthFirst_sat (c := z) (by omega) (lt3 h3)) ?_
    rintro _ _ ⟨nl8, rfl, rfl⟩
    refine ⟨Nat.le_of_ble_eq_true rfl, ⟨rfl, rfl, rfl⟩, .inr ⟨rfl, rfl⟩, ?_⟩
    refine vo_stN ?_
    refine vo_call0 Try.func18 rfl rfl rfl rfl (equalInts_sat (a := dfR B z) (b := dfR B z) dfR_len dfR_len) ?_
    rintro _ _ ⟨rfl, rfl⟩
    refine ⟨rfl, rfl, .inr rfl, ?_⟩
    refine vo_not rfl rfl ?_
    refine vo_move_pv rfl rfl ?_
    refine vo_split 26 rfl (fun hg2 => ?_) (fun hg2 => ?_)
    · try simp only [decide_eq_true_eq, decide_eq_false_iff_not, beq_iff_eq, bne_iff_ne, beq_eq_false_iff_ne, bne_eq_false_iff_eq, Bool.not_eq_true, Bool.not_eq_false, Bool.not_eq_eq_eq_not, Bool.not_true, Bool.not_false, List.length_map, Int.not_lt, Int.not_le, ne_eq, Decidable.not_not] at hg2
      refine vo_guard_off rfl rfl rfl rfl rfl ?_
      refine vo_guard_off rfl rfl rfl rfl rfl ?_
      refine vo_guard_off rfl rfl rfl rfl rfl ?_
      refine vo_pick_t rfl rfl ?_
      refine vo_nil ?_
      refine hK8 _ ?_
      refine vc_cond_t rfl ?_
      refine vc_seq fun K9 hK9 => ?_
      refine vc_region ?_
      refine vo_move_ref rfl rfl ?_
      refine vo_move_ref rfl rfl ?_
      refine vo_move_pv rfl rfl ?_
      refine vo_call [] Try.func42 rfl rfl rfl rfl rfl rfl rfl (specDepthFirst_sat (c := z) (by omega) (lt3 h3)) ?_
      rintro _ _ ⟨nl8, rfl, rfl⟩
      refine ⟨Nat.le_of_ble_eq_true rfl, ⟨rfl, rfl, rfl⟩, .inr ⟨rfl, rfl⟩, ?_⟩
      refine vo_stN ?_
      refine vo_call0 Try.func18 rfl rfl rfl rfl (equalInts_sat (a := dfR B z) (b := dfR B z) dfR_len dfR_len) ?_
      rintro _ _ ⟨rfl, rfl⟩
      refine ⟨rfl, rfl, .inr rfl, ?_⟩
      refine vo_assign_pv rfl rfl ?_
      refine vo_nil ?_
      refine hK9 _ ?_
      refine vc_ret ?_
      change retPv _ _ _ _ _
      refine retPv_mk rfl rfl rfl ⟨?_, rfl⟩
      first | rfl | exact absurd trivial (by assumption) | exact absurd rfl (by assumption) | (refine (congrArg (fun b => [bo b]) (?_ : _ = _) : [bo _] = [bo _]); exact decide_eq_true rfl) | (refine (congrArg (fun b => [bo b]) (?_ : _ = _) : [bo _] = [bo _]); exact decide_eq_true q3) | exact absurd q1 (by assumption) | exact absurd q2 (by assumption)
    · try simp only [decide_eq_true_eq, decide_eq_false_iff_not, beq_iff_eq, bne_iff_ne, beq_eq_false_iff_ne, bne_eq_false_iff_eq, Bool.not_eq_true, Bool.not_eq_false, Bool.not_eq_eq_eq_not, Bool.not_true, Bool.not_false, List.length_map, Int.not_lt, Int.not_le, ne_eq, Decidable.not_not] at hg2
      refine vo_guard_on rfl rfl rfl ?_
      refine vo_move_ref rfl rfl ?_
      refine vo_guard_on rfl rfl rfl ?_
      refine vo_len_ref rfl rfl rfl Try.underlying25 ?_
      refine vo_guard_on rfl rfl rfl ?_
      refine vo_binI rfl rfl rfl rfl trivial ?_
      refine vo_pick_f rfl rfl ?_
      refine vo_nil ?_
      refine hK8 _ ?_
      refine vc_cond rfl (fun hc3 => ?_) (fun hc3 => ?_)
      · try simp only [decide_eq_true_eq, decide_eq_false_iff_not, beq_iff_eq, bne_iff_ne, beq_eq_false_iff_ne, bne_eq_false_iff_eq, Bool.not_eq_true, Bool.not_eq_false, Bool.not_eq_eq_eq_not, Bool.not_true, Bool.not_false, List.length_map, Int.not_lt, Int.not_le, ne_eq, Decidable.not_not] at hc3
        refine vc_seq fun K10 hK10 => ?_
        refine vc_region ?_
        refine vo_move_ref rfl rfl ?_
        refine vo_move_ref rfl rfl ?_
        refine vo_move_pv rfl rfl ?_
        refine vo_call [] Try.func42 rfl rfl rfl rfl rfl rfl rfl (specDepthFirst_sat (c := z) (by omega) (lt3 h3)) ?_
        rintro _ _ ⟨nl8, rfl, rfl⟩
        refine ⟨Nat.le_of_ble_eq_true rfl, ⟨rfl, rfl, rfl⟩, .inr ⟨rfl, rfl⟩, ?_⟩
        refine vo_stN ?_
        refine vo_call0 Try.func18 rfl rfl rfl rfl (equalInts_sat (a := dfR B z) (b := dfR B z) dfR_len dfR_len) ?_
        rintro _ _ ⟨rfl, rfl⟩
        refine ⟨rfl, rfl, .inr rfl, ?_⟩
        refine vo_assign_pv rfl rfl ?_
        refine vo_nil ?_
        refine hK10 _ ?_
        refine vc_ret ?_
        change retPv _ _ _ _ _
        refine retPv_mk rfl rfl rfl ⟨?_, rfl⟩
        first | rfl | exact absurd trivial (by assumption) | exact absurd rfl (by assumption) | (refine (congrArg (fun b => [bo b]) (?_ : _ = _) : [bo _] = [bo _]); exact decide_eq_true rfl) | (refine (congrArg (fun b => [bo b]) (?_ : _ = _) : [bo _] = [bo _]); exact decide_eq_true q3) | exact absurd q1 (by assumption) | exact absurd q2 (by assumption)
      · try simp only [decide_eq_true_eq, decide_eq_false_iff_not, beq_iff_eq, bne_iff_ne, beq_eq_false_iff_ne, bne_eq_false_iff_eq, Bool.not_eq_true, Bool.not_eq_false, Bool.not_eq_eq_eq_not, Bool.not_true, Bool.not_false, List.length_map, Int.not_lt, Int.not_le, ne_eq, Decidable.not_not] at hc3
        have hne : dfR B z ≠ [] := fun e => by rw [e] at hc3; simp at hc3
        have hcw : cwP B z := Classical.byContradiction fun h => hne (dfR_no h)
        have hz := hcw.1
        have hLl := dfR_len (b := B) (c := z)
        refine vc_skip ?_
        refine hK7 _ ?_
        refine vc_seq fun K11 hK11 => ?_
        refine vc_seq fun K12 hK12 => ?_
        refine vc_region ?_
        refine vo_assign_pv rfl rfl ?_
        refine vo_nil ?_
        refine hK12 _ ?_
        refine vc_block ?_
        refine vc_stN ?_
        refine vc_loopF [3, 4, 5] [6] [.ref 0, _, .ref 1] _ (fun mz vs => ∃ (k : Nat), mz = (dfR B z).length - k ∧ (k ≤ (dfR B z).length) ∧ (∀ i, i < k → (B.getD ((dfR B z).getD i 0).toNat []).length ≤ 1) ∧ vs = [i64 k]) ((dfR B z).length) rfl rfl (le_len hC rfl) ⟨rfl, rfl, rfl⟩ ⟨0, rfl, Nat.zero_le _, (fun i hi => by omega), rfl⟩ ?_
        rintro mz vs - ⟨k, rfl, hk, hf, rfl⟩
        refine vc_stN ?_
        refine vc_seq fun K13 hK13 => ?_
        refine vc_seq fun K14 hK14 => ?_
        refine vc_region ?_
        refine vo_move_pv rfl rfl ?_
        refine vo_move_ref rfl rfl ?_
        refine vo_len_ref rfl rfl rfl Try.underlying25 ?_
        refine vo_binI rfl rfl rfl rfl trivial ?_
        refine vo_nil ?_
        refine hK14 _ ?_
        refine vc_cond rfl (fun hc4 => ?_) (fun hc4 => ?_)
        · try simp only [decide_eq_true_eq, decide_eq_false_iff_not, beq_iff_eq, bne_iff_ne, beq_eq_false_iff_ne, bne_eq_false_iff_eq, Bool.not_eq_true, Bool.not_eq_false, Bool.not_eq_eq_eq_not, Bool.not_true, Bool.not_false, List.length_map, Int.not_lt, Int.not_le, ne_eq, Decidable.not_not] at hc4
          have hmx := getD_mem (show k < (dfR B z).length by omega) 0
          have hmx2 : (dfR B z).getD k 0 ∈ abvR B z := by
            rw [dfR_yes hcw] at hmx ⊢
            have h9 := (once_mem _ _ _).1 hmx
            obtain ⟨n, rfl⟩ := Int.eq_ofNat_of_zero_le hz.2.1
            rw [Int.toNat_natCast] at h9 ⊢
            exact (wk_abvR hz.1 (by omega) _).1 (h9.resolve_left (by simp))
          have hmb := (abvR_mem hmx2).2
          refine vc_skip ?_
          refine hK13 _ ?_
          refine vc_seq fun K15 hK15 => ?_
          refine vc_block ?_
          refine vc_seq fun K16 hK16 => ?_
          refine vc_region ?_
          refine vo_move_ref rfl rfl ?_
          refine vo_move_ref rfl rfl ?_
          refine vo_move_pv rfl rfl ?_
          refine vo_index_ref rfl rfl rfl rfl E25.und inf3 sz3 sd sd ?_
          try simp only [Int.toNat_natCast]
          refine vo_load_own rfl rfl rfl Try.underlying3 rfl sd (getD_ints _ _) rfl ?_
          try simp only [Int.toNat_natCast]
          refine vo_index_ref rfl rfl rfl rfl E23.und inf25 sz25 sd sd ?_
          try simp only [Int.toNat_natCast]
          refine vo_load_own rfl rfl rfl Try.underlying25 rfl sd (getD_intss _ _) rfl ?_
          try simp only [Int.toNat_natCast]
          refine vo_len_pv rfl rfl Try.underlying25 ?_
          refine vo_binI rfl rfl rfl rfl trivial ?_
          refine vo_nil ?_
          refine hK16 _ ?_
          refine vc_cond rfl (fun hc5 => ?_) (fun hc5 => ?_)
          · try simp only [decide_eq_true_eq, decide_eq_false_iff_not, beq_iff_eq, bne_iff_ne, beq_eq_false_iff_ne, bne_eq_false_iff_eq, Bool.not_eq_true, Bool.not_eq_false, Bool.not_eq_eq_eq_not, Bool.not_true, Bool.not_false, List.length_map, Int.not_lt, Int.not_le, ne_eq, Decidable.not_not] at hc5
            refine vc_seq fun K17 hK17 => ?_
            refine vc_region ?_
            refine vo_assign_pv rfl rfl ?_
            refine vo_nil ?_
            refine hK17 _ ?_
            refine vc_ret ?_
            change retPv _ _ _ _ _
            refine retPv_mk rfl rfl rfl ⟨?_, rfl⟩
            first | rfl | exact absurd trivial (by assumption) | exact absurd rfl (by assumption) | (refine (congrArg (fun b => [bo b]) (?_ : _ = _) : [bo _] = [bo _]); exact decide_eq_true rfl) | (refine (congrArg (fun b => [bo b]) (?_ : _ = _) : [bo _] = [bo _]); exact decide_eq_true q3) | exact absurd q1 (by assumption) | exact absurd q2 (by assumption)
          · try simp only [decide_eq_true_eq, decide_eq_false_iff_not, beq_iff_eq, bne_iff_ne, beq_eq_false_iff_ne, bne_eq_false_iff_eq, Bool.not_eq_true, Bool.not_eq_false, Bool.not_eq_eq_eq_not, Bool.not_true, Bool.not_false, List.length_map, Int.not_lt, Int.not_le, ne_eq, Decidable.not_not] at hc5
            refine vc_skip ?_
            refine hK15 _ ?_
            refine vc_region ?_
            refine vo_move_pv rfl rfl ?_
            refine vo_binI rfl rfl rfl rfl sd ?_
            refine vo_assign_pv rfl rfl ?_
            refine vo_nil ?_
            change againF _ _ _ _ _ _ _ _ _
            refine againF_mk rfl rfl rfl rfl rfl rfl ⟨_, ?_, k + 1, rfl, ?_, ?_, rfl⟩
            · omega
            · omega
            · intro i hi; rcases Nat.lt_or_ge i k with h1 | h1; exact hf i h1; rw [show i = k by omega]; omega
        · try simp only [decide_eq_true_eq, decide_eq_false_iff_not, beq_iff_eq, bne_iff_ne, beq_eq_false_iff_ne, bne_eq_false_iff_eq, Bool.not_eq_true, Bool.not_eq_false, Bool.not_eq_eq_eq_not, Bool.not_true, Bool.not_false, List.length_map, Int.not_lt, Int.not_le, ne_eq, Decidable.not_not] at hc4
          obtain ⟨q1, q2, q3⟩ := line_law hne (fun i hi => hf i (by omega))
          refine vc_exit ?_
          refine hK11 _ ?_
          refine vc_seq fun K18 hK18 => ?_
          refine vc_region ?_
          refine vo_move_ref rfl rfl ?_
          refine vo_move_pv rfl rfl ?_
          refine vo_call [] Try.func43 rfl rfl rfl rfl rfl rfl rfl (implOrderOf_sat (c := z) (by omega) (lt3 h3)) ?_
          rintro _ _ ⟨R1, nl6, rfl, rfl⟩
          refine ⟨Nat.le_of_ble_eq_true rfl, ⟨rfl, rfl, rfl⟩, .inr ⟨rfl, rfl⟩, ?_⟩
          refine vo_stN ?_
          refine vo_move rfl ?_
          refine vo_extract rfl rfl rfl ?_
          refine vo_extract rfl rfl rfl ?_
          refine vo_assign_ref rfl rfl ?_
          refine vo_assign_pv rfl rfl ?_
          refine vo_nil ?_
          refine hK18 _ ?_
          refine vc_seq fun K19 hK19 => ?_
          refine vc_region ?_
          refine vo_move_pv rfl rfl ?_
          refine vo_move_pv rfl rfl ?_
          refine vo_split 58 rfl (fun hg6 => ?_) (fun hg6 => ?_)
          · try simp only [decide_eq_true_eq, decide_eq_false_iff_not, beq_iff_eq, bne_iff_ne, beq_eq_false_iff_ne, bne_eq_false_iff_eq, Bool.not_eq_true, Bool.not_eq_false, Bool.not_eq_eq_eq_not, Bool.not_true, Bool.not_false, List.length_map, Int.not_lt, Int.not_le, ne_eq, Decidable.not_not] at hg6
            refine vo_guard_on rfl rfl rfl ?_
            refine vo_move_ref rfl rfl ?_
            refine vo_guard_on rfl rfl rfl ?_
            refine vo_move_ref rfl rfl ?_
            refine vo_guard_on rfl rfl rfl ?_
            refine vo_call0 Try.func18 rfl rfl rfl rfl (equalInts_sat (a := orR B z) (b := dfR B z) orR_len dfR_len) ?_
            rintro _ _ ⟨rfl, rfl⟩
            refine ⟨rfl, rfl, .inr rfl, ?_⟩
            refine vo_pick_t rfl rfl ?_
            refine vo_move_pv rfl rfl ?_
            refine vo_split 63 rfl (fun hg7 => ?_) (fun hg7 => ?_)
            · try simp only [decide_eq_true_eq, decide_eq_false_iff_not, beq_iff_eq, bne_iff_ne, beq_eq_false_iff_ne, bne_eq_false_iff_eq, Bool.not_eq_true, Bool.not_eq_false, Bool.not_eq_eq_eq_not, Bool.not_true, Bool.not_false, List.length_map, Int.not_lt, Int.not_le, ne_eq, Decidable.not_not] at hg7
              refine vo_guard_on rfl rfl rfl ?_
              refine vo_move_ref rfl rfl ?_
              refine vo_guard_on rfl rfl rfl ?_
              refine vo_move_pv rfl rfl ?_
              refine vo_guard_on rfl rfl rfl ?_
              refine vo_call [] Try.func29 rfl rfl rfl rfl rfl rfl rfl (implLastMet_sat (c := z) (by omega) (lt3 h3)) ?_
              rintro _ _ ⟨nl5, rfl, rfl⟩
              refine ⟨Nat.le_of_ble_eq_true rfl, ⟨rfl, rfl, rfl⟩, .inr ⟨rfl, rfl⟩, ?_⟩
              refine vo_stN ?_
              refine vo_guard_on rfl rfl rfl ?_
              refine vo_move_ref rfl rfl ?_
              refine vo_guard_on rfl rfl rfl ?_
              refine vo_call0 Try.func18 rfl rfl rfl rfl (equalInts_sat (a := lmR B z) (b := dfR B z) lmR_len dfR_len) ?_
              rintro _ _ ⟨rfl, rfl⟩
              refine ⟨rfl, rfl, .inr rfl, ?_⟩
              refine vo_pick_t rfl rfl ?_
              refine vo_assign_pv rfl rfl ?_
              refine vo_nil ?_
              refine hK19 _ ?_
              refine vc_ret ?_
              change retPv _ _ _ _ _
              refine retPv_mk rfl rfl rfl ⟨?_, rfl⟩
              first | rfl | exact absurd trivial (by assumption) | exact absurd rfl (by assumption) | (refine (congrArg (fun b => [bo b]) (?_ : _ = _) : [bo _] = [bo _]); exact decide_eq_true rfl) | (refine (congrArg (fun b => [bo b]) (?_ : _ = _) : [bo _] = [bo _]); exact decide_eq_true q3) | exact absurd q1 (by assumption) | exact absurd q2 (by assumption)
            · try simp only [decide_eq_true_eq, decide_eq_false_iff_not, beq_iff_eq, bne_iff_ne, beq_eq_false_iff_ne, bne_eq_false_iff_eq, Bool.not_eq_true, Bool.not_eq_false, Bool.not_eq_eq_eq_not, Bool.not_true, Bool.not_false, List.length_map, Int.not_lt, Int.not_le, ne_eq, Decidable.not_not] at hg7
              refine vo_guard_off rfl rfl rfl rfl rfl ?_
              refine vo_guard_off rfl rfl rfl rfl rfl ?_
              refine vo_guard_off rfl rfl rfl rfl rfl ?_
              refine vo_guard_off rfl rfl rfl rfl rfl ?_
              refine vo_guard_off rfl rfl rfl rfl rfl ?_
              refine vo_pick_f rfl rfl ?_
              refine vo_assign_pv rfl rfl ?_
              refine vo_nil ?_
              refine hK19 _ ?_
              refine vc_ret ?_
              change retPv _ _ _ _ _
              refine retPv_mk rfl rfl rfl ⟨?_, rfl⟩
              first | rfl | exact absurd trivial (by assumption) | exact absurd rfl (by assumption) | (refine (congrArg (fun b => [bo b]) (?_ : _ = _) : [bo _] = [bo _]); exact decide_eq_true rfl) | (refine (congrArg (fun b => [bo b]) (?_ : _ = _) : [bo _] = [bo _]); exact decide_eq_true q3) | exact absurd q1 (by assumption) | exact absurd q2 (by assumption)
          · try simp only [decide_eq_true_eq, decide_eq_false_iff_not, beq_iff_eq, bne_iff_ne, beq_eq_false_iff_ne, bne_eq_false_iff_eq, Bool.not_eq_true, Bool.not_eq_false, Bool.not_eq_eq_eq_not, Bool.not_true, Bool.not_false, List.length_map, Int.not_lt, Int.not_le, ne_eq, Decidable.not_not] at hg6
            refine vo_guard_off rfl rfl rfl rfl rfl ?_
            refine vo_guard_off rfl rfl rfl rfl rfl ?_
            refine vo_guard_off rfl rfl rfl rfl rfl ?_
            refine vo_pick_f rfl rfl ?_
            refine vo_move_pv rfl rfl ?_
            refine vo_guard_off rfl rfl rfl rfl rfl ?_
            refine vo_guard_off rfl rfl rfl rfl rfl ?_
            refine vo_guard_off rfl rfl rfl rfl rfl ?_
            refine vo_guard_off rfl rfl rfl rfl rfl ?_
            refine vo_guard_off rfl rfl rfl rfl rfl ?_
            refine vo_pick_f rfl rfl ?_
            refine vo_assign_pv rfl rfl ?_
            refine vo_nil ?_
            refine hK19 _ ?_
            refine vc_ret ?_
            change retPv _ _ _ _ _
            refine retPv_mk rfl rfl rfl ⟨?_, rfl⟩
            first | rfl | exact absurd trivial (by assumption) | exact absurd rfl (by assumption) | (refine (congrArg (fun b => [bo b]) (?_ : _ = _) : [bo _] = [bo _]); exact decide_eq_true rfl) | (refine (congrArg (fun b => [bo b]) (?_ : _ = _) : [bo _] = [bo _]); exact decide_eq_true q3) | exact absurd q1 (by assumption) | exact absurd q2 (by assumption)

end Go.Vl

import Derived.Test.YtfdokliebmeplacVlacT22
import Derived.Test.YtfdokliebmeplacVlZ8
namespace Go.Vl
set_option linter.unusedVariables false
set_option linter.unusedSimpArgs false
open Go.Proofs
def allOK (b : List (List Int)) : Prop := VB b ∧ ∀ i, i < b.length → ordM b i ≠ []
instance {b : List (List Int)} : Decidable (allOK b) := by unfold allOK; infer_instance
theorem ordersUpTo_satI {nl0 : Option Bool} {bases : List (List Int)} {c : Int} (hbases : bases.length < 1000000000) (hlbases : ∀ l ∈ bases, l.length < 1000000000) (hv : VB bases) (h0 : 0 ≤ c) (h1 : c < bases.length) : SatAt Try.prog 74 [.pv false (.sl nl0 1 (bases.map ints)), i64 c] [] (fun res rows => res = [.ref 0] ∧ rows = [Row.tree 34 1 (some false) none ((ordT bases (c.toNat + 1)).map ordP)]) := by
  obtain ⟨n, rfl⟩ := Int.eq_ofNat_of_zero_le h0
  exact ordersUpTo_sat hbases hlbases hv (by omega)


theorem allOrders_sat {nl0 : Option Bool} {bases : List (List Int)} (hbases : bases.length < 1000000000) (hlbases : ∀ l ∈ bases, l.length < 1000000000) (hv : VB bases) : SatAt Try.prog 78 [.pv false (.sl nl0 1 (bases.map ints))] [] (fun res rows => res = [bo (decide (∀ i, i < bases.length → ordM bases i ≠ []))] ∧ rows = []) := by
  refine sat_entry (ts := [2]) Try.func78 rfl rfl (by decide) (Nat.le_of_ble_eq_true rfl) fun C hC => ?_
  rw [Try.ntmps78]
  replace hC : C.nb = 0 := hC
  refine vc_seq fun K1 hK1 => ?_
  refine vc_region ?_
  refine vo_assign_pv rfl rfl ?_
  refine vo_nil ?_
  refine hK1 _ ?_
  refine vc_seq fun K2 hK2 => ?_
  refine vc_seq fun K3 hK3 => ?_
  refine vc_region ?_
  refine vo_assign_pv rfl rfl ?_
  refine vo_nil ?_
  refine hK3 _ ?_
  refine vc_block ?_
  refine vc_st (by (try simp only [St.put, exposeE, killE, SV.expose, SV.kill, Row.expose, Row.kill, rowsAfter_nil, rowsAfter_one, packS, SV.shift, placeOf, enumE, List.zip_cons_cons, List.zip_nil_right, List.map_cons, List.map_nil, List.set_cons_zero, List.set_cons_succ, List.length_cons, List.length_nil, List.cons_append, List.nil_append, List.drop_succ_cons, List.drop_zero, List.drop_nil, List.take_succ_cons, List.take_zero, List.take_nil, List.getElem?_cons_zero, List.getElem?_cons_succ, List.getElem?_nil, Option.getD_some, Option.getD_none, Option.map_some, Option.map_none, Nat.reduceAdd, Nat.reduceSub, Nat.reduceEqDiff, Nat.zero_add, Bool.true_or, PV.scal, Bool.or_false, Bool.or_true, Bool.false_or, Bool.and_true, Bool.and_false, Bool.true_and, reduceIte, reduceCtorEq]); exact eq_refl _) ?_
  refine vc_loopF [0] [3] [.pv false (.sl nl0 1 (bases.map ints))] _ (fun mz vs => ∃ (k : Nat), mz = bases.length - k ∧ (k ≤ bases.length) ∧ (∀ i, i < k → ordM bases i ≠ []) ∧ vs = [i64 k]) (bases.length) rfl rfl (le_len hC rfl) ⟨rfl, rfl, rfl⟩ ⟨0, rfl, Nat.zero_le _, (fun i h => by omega), rfl⟩ ?_
  rintro mz vs - ⟨k, rfl, hk, hf, rfl⟩
  refine vc_st (by (try simp only [St.put, exposeE, killE, SV.expose, SV.kill, Row.expose, Row.kill, rowsAfter_nil, rowsAfter_one, packS, SV.shift, placeOf, enumE, List.zip_cons_cons, List.zip_nil_right, List.map_cons, List.map_nil, List.set_cons_zero, List.set_cons_succ, List.length_cons, List.length_nil, List.cons_append, List.nil_append, List.drop_succ_cons, List.drop_zero, List.drop_nil, List.take_succ_cons, List.take_zero, List.take_nil, List.getElem?_cons_zero, List.getElem?_cons_succ, List.getElem?_nil, Option.getD_some, Option.getD_none, Option.map_some, Option.map_none, Nat.reduceAdd, Nat.reduceSub, Nat.reduceEqDiff, Nat.zero_add, Bool.true_or, PV.scal, Bool.or_false, Bool.or_true, Bool.false_or, Bool.and_true, Bool.and_false, Bool.true_and, reduceIte, reduceCtorEq]); exact eq_refl _) ?_
  refine vc_seq fun K4 hK4 => ?_
  refine vc_seq fun K5 hK5 => ?_
  refine vc_region ?_
  refine vo_move_pv rfl rfl ?_
  refine vo_move_pv rfl rfl ?_
  refine vo_len_pv rfl rfl Try.underlying23 ?_
  refine vo_binI rfl rfl rfl rfl trivial ?_
  refine vo_nil ?_
  refine hK5 _ ?_
  refine vc_cond rfl (fun hc1 => ?_) (fun hc1 => ?_)
  · try simp only [decide_eq_true_eq, decide_eq_false_iff_not, beq_iff_eq, bne_iff_ne, beq_eq_false_iff_ne, bne_eq_false_iff_eq, Bool.not_eq_true, Bool.not_eq_false, Bool.not_eq_eq_eq_not, Bool.not_true, Bool.not_false, List.length_map, Int.not_lt, Int.not_le, ne_eq, Decidable.not_not] at hc1
    refine vc_skip ?_
    refine hK4 _ ?_
    refine vc_seq fun K6 hK6 => ?_
    refine vc_block ?_
    refine vc_seq fun K7 hK7 => ?_
    refine vc_region ?_
    refine vo_move_pv rfl rfl ?_
    refine vo_move_pv rfl rfl ?_
    refine vo_call [] Try.func99 rfl rfl rfl rfl rfl rfl rfl (orderOf_sat hbases hlbases hv k (by omega)) ?_
    rintro _ _ ⟨nl9, rfl, rfl⟩
    refine ⟨Nat.le_of_ble_eq_true rfl, ⟨rfl, rfl, rfl⟩, .inl rfl, ?_⟩
    refine vo_st (by (try simp only [St.put, exposeE, killE, SV.expose, SV.kill, Row.expose, Row.kill, rowsAfter_nil, rowsAfter_one, packS, SV.shift, placeOf, enumE, List.zip_cons_cons, List.zip_nil_right, List.map_cons, List.map_nil, List.set_cons_zero, List.set_cons_succ, List.length_cons, List.length_nil, List.cons_append, List.nil_append, List.drop_succ_cons, List.drop_zero, List.drop_nil, List.take_succ_cons, List.take_zero, List.take_nil, List.getElem?_cons_zero, List.getElem?_cons_succ, List.getElem?_nil, Option.getD_some, Option.getD_none, Option.map_some, Option.map_none, Nat.reduceAdd, Nat.reduceSub, Nat.reduceEqDiff, Nat.zero_add, Bool.true_or, PV.scal, Bool.or_false, Bool.or_true, Bool.false_or, Bool.and_true, Bool.and_false, Bool.true_and, reduceIte, reduceCtorEq]); exact eq_refl _) ?_
    refine vo_len_ref rfl rfl rfl Try.underlying34 ?_
    refine vo_binI rfl rfl rfl rfl trivial ?_
    refine vo_nil ?_
    refine hK7 _ ?_
    refine vc_cond rfl (fun hc2 => ?_) (fun hc2 => ?_)
    · try simp only [decide_eq_true_eq, decide_eq_false_iff_not, beq_iff_eq, bne_iff_ne, beq_eq_false_iff_ne, bne_eq_false_iff_eq, Bool.not_eq_true, Bool.not_eq_false, Bool.not_eq_eq_eq_not, Bool.not_true, Bool.not_false, List.length_map, Int.not_lt, Int.not_le, ne_eq, Decidable.not_not] at hc2
      refine vc_seq fun K8 hK8 => ?_
      refine vc_region ?_
      refine vo_assign_pv rfl rfl ?_
      refine vo_nil ?_
      refine hK8 _ ?_
      refine vc_ret ?_
      change retPv _ _ _ _ _
      refine retPv_mk rfl rfl rfl ⟨?_, rfl⟩
      refine (congrArg (fun b => [bo b]) (?_ : _ = _) : [bo _] = [bo _])
      exact bF fun h => h k (by omega) (List.eq_nil_of_length_eq_zero (by omega))
    · try simp only [decide_eq_true_eq, decide_eq_false_iff_not, beq_iff_eq, bne_iff_ne, beq_eq_false_iff_ne, bne_eq_false_iff_eq, Bool.not_eq_true, Bool.not_eq_false, Bool.not_eq_eq_eq_not, Bool.not_true, Bool.not_false, List.length_map, Int.not_lt, Int.not_le, ne_eq, Decidable.not_not] at hc2
      refine vc_skip ?_
      refine hK6 _ ?_
      refine vc_region ?_
      refine vo_move_pv rfl rfl ?_
      refine vo_binI rfl rfl rfl rfl (by first | omega | (simp only [List.length_map] <;> omega) | (simp only [List.length_map, List.length_set, List.length_append, List.length_cons, List.length_nil, List.length_replicate, List.length_take, List.length_drop] <;> omega) | (simp <;> omega) | (constructor <;> (first | omega | (simp <;> omega))) | (refine ⟨?_, ?_, ?_, ?_⟩ <;> omega) | exact ⟨xorI_nonneg _ _, by omega⟩ | decide) ?_
      refine vo_assign_pv rfl rfl ?_
      refine vo_nil ?_
      change againF _ _ _ _ _ _ _ _ _
      refine againF_mk rfl rfl rfl rfl rfl rfl ⟨_, ?_, k + 1, rfl, ?_, ?_, rfl⟩
      · omega
      · omega
      · intro i hi; rcases Nat.lt_or_ge i k with h1 | h1; exact hf i h1; rw [show i = k by omega]; intro e; rw [e] at hc2; simp at hc2
  · try simp only [decide_eq_true_eq, decide_eq_false_iff_not, beq_iff_eq, bne_iff_ne, beq_eq_false_iff_ne, bne_eq_false_iff_eq, Bool.not_eq_true, Bool.not_eq_false, Bool.not_eq_eq_eq_not, Bool.not_true, Bool.not_false, List.length_map, Int.not_lt, Int.not_le, ne_eq, Decidable.not_not] at hc1
    refine vc_exit ?_
    refine hK2 _ ?_
    refine vc_seq fun K9 hK9 => ?_
    refine vc_region ?_
    refine vo_assign_pv rfl rfl ?_
    refine vo_nil ?_
    refine hK9 _ ?_
    refine vc_ret ?_
    change retPv _ _ _ _ _
    refine retPv_mk rfl rfl rfl ⟨?_, rfl⟩
    refine (congrArg (fun b => [bo b]) (?_ : _ = _) : [bo _] = [bo _])
    exact bT fun i hi => hf i (by omega)


theorem specAllOrders_sat {nl0 : Option Bool} {bases : List (List Int)} (hbases : bases.length < 1000000000) (hlbases : ∀ l ∈ bases, l.length < 1000000000)  : SatAt Try.prog 50 [.pv false (.sl nl0 1 (bases.map ints))] [] (fun res rows => res = [bo (decide (allOK bases))] ∧ rows = []) := by
  refine sat_entry (ts := [2]) Try.func50 rfl rfl (by decide) (Nat.le_of_ble_eq_true rfl) fun C hC => ?_
  rw [Try.ntmps50]
  replace hC : C.nb = 0 := hC
  refine vc_seq fun K1 hK1 => ?_
  refine vc_region ?_
  refine vo_assign_pv rfl rfl ?_
  refine vo_nil ?_
  refine hK1 _ ?_
  refine vc_seq fun K2 hK2 => ?_
  refine vc_region ?_
  refine vo_move_pv rfl rfl ?_
  refine vo_call0 Try.func77 rfl rfl rfl rfl (specValidBases0_sat hbases hlbases) ?_
  rintro _ _ ⟨rfl, rfl⟩
  refine ⟨rfl, rfl, .inl rfl, ?_⟩
  refine vo_move_pv rfl rfl ?_
  refine vo_split 5 rfl (fun hg1 => ?_) (fun hg1 => ?_)
  · try simp only [decide_eq_true_eq, decide_eq_false_iff_not, beq_iff_eq, bne_iff_ne, beq_eq_false_iff_ne, bne_eq_false_iff_eq, Bool.not_eq_true, Bool.not_eq_false, Bool.not_eq_eq_eq_not, Bool.not_true, Bool.not_false, List.length_map, Int.not_lt, Int.not_le, ne_eq, Decidable.not_not] at hg1
    refine vo_guard_on rfl rfl rfl ?_
    refine vo_move_pv rfl rfl ?_
    refine vo_guard_on rfl rfl rfl ?_
    refine vo_call0 Try.func78 rfl rfl rfl rfl (allOrders_sat hbases hlbases hg1) ?_
    rintro _ _ ⟨rfl, rfl⟩
    refine ⟨rfl, rfl, .inl rfl, ?_⟩
    refine vo_pick_t rfl rfl ?_
    refine vo_assign_pv rfl rfl ?_
    refine vo_nil ?_
    refine hK2 _ ?_
    refine vc_ret ?_
    change retPv _ _ _ _ _
    refine retPv_mk rfl rfl rfl ⟨?_, rfl⟩
    refine (congrArg (fun b => [bo b]) (?_ : _ = _) : [bo _] = [bo _])
    exact decide_eq_decide.2 ⟨fun h => ⟨hg1, h⟩, fun h => h.2⟩
  · try simp only [decide_eq_true_eq, decide_eq_false_iff_not, beq_iff_eq, bne_iff_ne, beq_eq_false_iff_ne, bne_eq_false_iff_eq, Bool.not_eq_true, Bool.not_eq_false, Bool.not_eq_eq_eq_not, Bool.not_true, Bool.not_false, List.length_map, Int.not_lt, Int.not_le, ne_eq, Decidable.not_not] at hg1
    refine vo_guard_off rfl rfl rfl rfl rfl ?_
    refine vo_guard_off rfl rfl rfl rfl rfl ?_
    refine vo_pick_f rfl rfl ?_
    refine vo_assign_pv rfl rfl ?_
    refine vo_nil ?_
    refine hK2 _ ?_
    refine vc_ret ?_
    change retPv _ _ _ _ _
    refine retPv_mk rfl rfl rfl ⟨?_, rfl⟩
    refine (congrArg (fun b => [bo b]) (?_ : _ = _) : [bo _] = [bo _])
    exact bF fun h => hg1 h.1


theorem implAllOrders_sat {nl0 : Option Bool} {bases : List (List Int)} (hbases : bases.length < 1000000000) (hlbases : ∀ l ∈ bases, l.length < 1000000000)  : SatAt Try.prog 49 [.pv false (.sl nl0 1 (bases.map ints))] [] (fun res rows => res = [bo (decide (allOK bases))] ∧ rows = []) := by
  refine sat_entry (ts := [2]) Try.func49 rfl rfl (by decide) (Nat.le_of_ble_eq_true rfl) fun C hC => ?_
  rw [Try.ntmps49]
  replace hC : C.nb = 0 := hC
  refine vc_seq fun K1 hK1 => ?_
  refine vc_region ?_
  refine vo_assign_pv rfl rfl ?_
  refine vo_nil ?_
  refine hK1 _ ?_
  refine vc_seq fun K2 hK2 => ?_
  refine vc_seq fun K3 hK3 => ?_
  refine vc_region ?_
  refine vo_move_pv rfl rfl ?_
  refine vo_call0 Try.func51 rfl rfl rfl rfl (implValidBases_sat hbases hlbases) ?_
  rintro _ _ ⟨rfl, rfl⟩
  refine ⟨rfl, rfl, .inl rfl, ?_⟩
  refine vo_not rfl rfl ?_
  refine vo_nil ?_
  refine hK3 _ ?_
  refine vc_cond rfl (fun hc1 => ?_) (fun hc1 => ?_)
  · try simp only [decide_eq_true_eq, decide_eq_false_iff_not, beq_iff_eq, bne_iff_ne, beq_eq_false_iff_ne, bne_eq_false_iff_eq, Bool.not_eq_true, Bool.not_eq_false, Bool.not_eq_eq_eq_not, Bool.not_true, Bool.not_false, List.length_map, Int.not_lt, Int.not_le, ne_eq, Decidable.not_not] at hc1
    refine vc_seq fun K4 hK4 => ?_
    refine vc_region ?_
    refine vo_assign_pv rfl rfl ?_
    refine vo_nil ?_
    refine hK4 _ ?_
    refine vc_ret ?_
    change retPv _ _ _ _ _
    refine retPv_mk rfl rfl rfl ⟨?_, rfl⟩
    refine (congrArg (fun b => [bo b]) (?_ : _ = _) : [bo _] = [bo _])
    exact bF fun h => hc1 h.1
  · try simp only [decide_eq_true_eq, decide_eq_false_iff_not, beq_iff_eq, bne_iff_ne, beq_eq_false_iff_ne, bne_eq_false_iff_eq, Bool.not_eq_true, Bool.not_eq_false, Bool.not_eq_eq_eq_not, Bool.not_true, Bool.not_false, List.length_map, Int.not_lt, Int.not_le, ne_eq, Decidable.not_not] at hc1
    have h1 := hc1.1
    have hTl2 := ordT_len bases (((bases.length : Int) - 1).toNat + 1)
    have hlm : (bases.map ints).length = bases.length := List.length_map ..
    have hTl := ordT_len bases ((((bases.map ints).length : Int) - 1).toNat + 1)
    have hN : (((bases.map ints).length : Int) - 1).toNat + 1 = bases.length := by omega
    refine vc_skip ?_
    refine hK2 _ ?_
    refine vc_seq fun K5 hK5 => ?_
    refine vc_seq fun K6 hK6 => ?_
    refine vc_region ?_
    refine vo_move_pv rfl rfl ?_
    refine vo_move_pv rfl rfl ?_
    refine vo_len_pv rfl rfl Try.underlying23 ?_
    refine vo_binI rfl rfl rfl rfl (by first | omega | (simp only [List.length_map] <;> omega) | (simp only [List.length_map, List.length_set, List.length_append, List.length_cons, List.length_nil, List.length_replicate, List.length_take, List.length_drop] <;> omega) | (simp <;> omega) | (constructor <;> (first | omega | (simp <;> omega))) | (refine ⟨?_, ?_, ?_, ?_⟩ <;> omega) | exact ⟨xorI_nonneg _ _, by omega⟩ | decide) ?_
    refine vo_call [] Try.func74 rfl rfl rfl rfl rfl rfl rfl (ordersUpTo_satI (c := ((bases.map ints).length : Int) - 1) hbases hlbases hc1 (by have := hc1.1; rw [List.length_map]; omega) (by rw [List.length_map]; omega)) ?_
    rintro _ _ ⟨rfl, rfl⟩
    refine ⟨Nat.le_of_ble_eq_true rfl, ⟨rfl, rfl, rfl⟩, .inl rfl, ?_⟩
    refine vo_st (by (try simp only [St.put, exposeE, killE, SV.expose, SV.kill, Row.expose, Row.kill, rowsAfter_nil, rowsAfter_one, packS, SV.shift, placeOf, enumE, List.zip_cons_cons, List.zip_nil_right, List.map_cons, List.map_nil, List.set_cons_zero, List.set_cons_succ, List.length_cons, List.length_nil, List.cons_append, List.nil_append, List.drop_succ_cons, List.drop_zero, List.drop_nil, List.take_succ_cons, List.take_zero, List.take_nil, List.getElem?_cons_zero, List.getElem?_cons_succ, List.getElem?_nil, Option.getD_some, Option.getD_none, Option.map_some, Option.map_none, Nat.reduceAdd, Nat.reduceSub, Nat.reduceEqDiff, Nat.zero_add, Bool.true_or, PV.scal, Bool.or_false, Bool.or_true, Bool.false_or, Bool.and_true, Bool.and_false, Bool.true_and, reduceIte, reduceCtorEq]); exact eq_refl _) ?_
    refine vo_len_ref rfl rfl rfl Try.underlying23 ?_
    refine vo_move_pv rfl rfl ?_
    refine vo_nil ?_
    refine hK6 _ ?_
    refine vc_block ?_
    refine vc_st (by (try simp only [St.put, exposeE, killE, SV.expose, SV.kill, Row.expose, Row.kill, rowsAfter_nil, rowsAfter_one, packS, SV.shift, placeOf, enumE, List.zip_cons_cons, List.zip_nil_right, List.map_cons, List.map_nil, List.set_cons_zero, List.set_cons_succ, List.length_cons, List.length_nil, List.cons_append, List.nil_append, List.drop_succ_cons, List.drop_zero, List.drop_nil, List.take_succ_cons, List.take_zero, List.take_nil, List.getElem?_cons_zero, List.getElem?_cons_succ, List.getElem?_nil, Option.getD_some, Option.getD_none, Option.map_some, Option.map_none, Nat.reduceAdd, Nat.reduceSub, Nat.reduceEqDiff, Nat.zero_add, Bool.true_or, PV.scal, Bool.or_false, Bool.or_true, Bool.false_or, Bool.and_true, Bool.and_false, Bool.true_and, reduceIte, reduceCtorEq]); exact eq_refl _) ?_
    refine vc_loop [12, 13, 14] (fun mz vs rows => ∃ (k : Nat), mz = bases.length - k ∧ (k ≤ bases.length) ∧ (∀ i, i < k → ordM bases i ≠ []) ∧ vs = [.ref 0, i64 (((ordT bases ((((bases.map ints).length : Int) - 1).toNat + 1)).map ordP).length : Nat), i64 k] ∧ rows = [Row.tree 34 1 (some false) none ((ordT bases ((((bases.map ints).length : Int) - 1).toNat + 1)).map ordP)]) (bases.length) (le_len hC rfl) ⟨rfl, rfl⟩ ⟨0, rfl, Nat.zero_le _, (fun i h => by omega), rfl, rfl⟩ ?_
    rintro mz vs rows - - ⟨k, rfl, hk, hf, rfl, rfl⟩
    refine vc_seq fun K7 hK7 => ?_
    refine vc_region ?_
    refine vo_binI rfl rfl rfl rfl trivial ?_
    refine vo_nil ?_
    refine hK7 _ ?_
    refine vc_seq fun K8 hK8 => ?_
    refine vc_cond rfl (fun hc2 => ?_) (fun hc2 => ?_)
    · try simp only [decide_eq_true_eq, decide_eq_false_iff_not, beq_iff_eq, bne_iff_ne, beq_eq_false_iff_ne, bne_eq_false_iff_eq, Bool.not_eq_true, Bool.not_eq_false, Bool.not_eq_eq_eq_not, Bool.not_true, Bool.not_false, List.length_map, Int.not_lt, Int.not_le, ne_eq, Decidable.not_not] at hc2
      refine vc_skip ?_
      refine hK8 _ ?_
      refine vc_seq fun K9 hK9 => ?_
      refine vc_block ?_
      refine vc_seq fun K10 hK10 => ?_
      refine vc_region ?_
      refine vo_index_ref rfl rfl rfl rfl E23.und inf34 sz34 (by first | omega | (simp only [List.length_map] <;> omega) | (simp only [List.length_map, List.length_set, List.length_append, List.length_cons, List.length_nil, List.length_replicate, List.length_take, List.length_drop] <;> omega) | (simp <;> omega) | (constructor <;> (first | omega | (simp <;> omega))) | (refine ⟨?_, ?_, ?_, ?_⟩ <;> omega) | exact ⟨xorI_nonneg _ _, by omega⟩ | decide) (by first | omega | (simp only [List.length_map] <;> omega) | (simp only [List.length_map, List.length_set, List.length_append, List.length_cons, List.length_nil, List.length_replicate, List.length_take, List.length_drop] <;> omega) | (simp <;> omega) | (constructor <;> (first | omega | (simp <;> omega))) | (refine ⟨?_, ?_, ?_, ?_⟩ <;> omega) | exact ⟨xorI_nonneg _ _, by omega⟩ | decide) ?_
      try simp only [Int.toNat_natCast]
      refine vo_load_sub rfl rfl rfl Try.underlying34 rfl (by first | omega | (simp only [List.length_map] <;> omega) | (simp only [List.length_map, List.length_set, List.length_append, List.length_cons, List.length_nil, List.length_replicate, List.length_take, List.length_drop] <;> omega) | (simp <;> omega) | (constructor <;> (first | omega | (simp <;> omega))) | (refine ⟨?_, ?_, ?_, ?_⟩ <;> omega) | exact ⟨xorI_nonneg _ _, by omega⟩ | decide) fun u1 => ?_
      refine vo_st (by (try simp only [St.put, exposeE, killE, SV.expose, SV.kill, Row.expose, Row.kill, rowsAfter_nil, rowsAfter_one, packS, SV.shift, placeOf, enumE, List.zip_cons_cons, List.zip_nil_right, List.map_cons, List.map_nil, List.set_cons_zero, List.set_cons_succ, List.length_cons, List.length_nil, List.cons_append, List.nil_append, List.drop_succ_cons, List.drop_zero, List.drop_nil, List.take_succ_cons, List.take_zero, List.take_nil, List.getElem?_cons_zero, List.getElem?_cons_succ, List.getElem?_nil, Option.getD_some, Option.getD_none, Option.map_some, Option.map_none, Nat.reduceAdd, Nat.reduceSub, Nat.reduceEqDiff, Nat.zero_add, Bool.true_or, PV.scal, Bool.or_false, Bool.or_true, Bool.false_or, Bool.and_true, Bool.and_false, Bool.true_and, reduceIte, reduceCtorEq]); exact eq_refl _) ?_
      refine vo_assign rfl ?_
      refine vo_nil ?_
      refine hK10 _ ?_
      refine vc_seq fun K11 hK11 => ?_
      refine vc_region ?_
      refine vo_move rfl ?_
      refine vo_eqnil_val (id := 0) rfl rfl rfl (get_ord (o := ordT bases ((((bases.map ints).length : Int) - 1).toNat + 1)) (k := k) (by rw [hTl]; omega)) Try.underlying34 fun bn1 hn1 hnt1 hnf1 => ?_
      refine vo_unknow 0 rfl ?_
      refine vo_st (by (try simp only [St.put, exposeE, killE, SV.expose, SV.kill, Row.expose, Row.kill, rowsAfter_nil, rowsAfter_one, packS, SV.shift, placeOf, enumE, List.zip_cons_cons, List.zip_nil_right, List.map_cons, List.map_nil, List.set_cons_zero, List.set_cons_succ, List.length_cons, List.length_nil, List.cons_append, List.nil_append, List.drop_succ_cons, List.drop_zero, List.drop_nil, List.take_succ_cons, List.take_zero, List.take_nil, List.getElem?_cons_zero, List.getElem?_cons_succ, List.getElem?_nil, Option.getD_some, Option.getD_none, Option.map_some, Option.map_none, Nat.reduceAdd, Nat.reduceSub, Nat.reduceEqDiff, Nat.zero_add, Bool.true_or, PV.scal, Bool.or_false, Bool.or_true, Bool.false_or, Bool.and_true, Bool.and_false, Bool.true_and, reduceIte, reduceCtorEq]); exact eq_refl _) ?_
      refine vo_nil ?_
      refine hK11 _ ?_
      refine vc_cond rfl (fun hc3 => ?_) (fun hc3 => ?_)
      · try simp only [decide_eq_true_eq, decide_eq_false_iff_not, beq_iff_eq, bne_iff_ne, beq_eq_false_iff_ne, bne_eq_false_iff_eq, Bool.not_eq_true, Bool.not_eq_false, Bool.not_eq_eq_eq_not, Bool.not_true, Bool.not_false, List.length_map, Int.not_lt, Int.not_le, ne_eq, Decidable.not_not] at hc3
        have hg := ordT_get bases ((((bases.map ints).length : Int) - 1).toNat + 1) k (by omega)
        rw [hg] at hn1 hnt1 hnf1
        have hb := bEmp hnt1 hnf1
        have hE : ordM bases k = [] := List.isEmpty_iff.1 (hb.symm.trans hc3)
        refine vc_seq fun K12 hK12 => ?_
        refine vc_region ?_
        refine vo_assign_pv rfl rfl ?_
        refine vo_nil ?_
        refine hK12 _ ?_
        refine vc_ret ?_
        change retPv _ _ _ _ _
        refine retPv_mk rfl rfl rfl ⟨?_, rfl⟩
        refine (congrArg (fun b => [bo b]) (?_ : _ = _) : [bo _] = [bo _])
        exact bF fun h => h.2 k (by omega) hE
      · try simp only [decide_eq_true_eq, decide_eq_false_iff_not, beq_iff_eq, bne_iff_ne, beq_eq_false_iff_ne, bne_eq_false_iff_eq, Bool.not_eq_true, Bool.not_eq_false, Bool.not_eq_eq_eq_not, Bool.not_true, Bool.not_false, List.length_map, Int.not_lt, Int.not_le, ne_eq, Decidable.not_not] at hc3
        have hg := ordT_get bases ((((bases.map ints).length : Int) - 1).toNat + 1) k (by omega)
        rw [hg] at hn1 hnt1 hnf1
        have hb := bEmp hnt1 hnf1
        have hE : ordM bases k ≠ [] := fun e => by rw [e] at hb; simp [hb] at hc3
        refine vc_skip ?_
        refine hK9 _ ?_
        refine vc_region ?_
        refine vo_binI rfl rfl rfl rfl (by first | omega | (simp only [List.length_map] <;> omega) | (simp only [List.length_map, List.length_set, List.length_append, List.length_cons, List.length_nil, List.length_replicate, List.length_take, List.length_drop] <;> omega) | (simp <;> omega) | (constructor <;> (first | omega | (simp <;> omega))) | (refine ⟨?_, ?_, ?_, ?_⟩ <;> omega) | exact ⟨xorI_nonneg _ _, by omega⟩ | decide) ?_
        refine vo_move_pv rfl rfl ?_
        refine vo_nil ?_
        change again _ _ _ _ _ _
        refine again_mk rfl rfl rfl rfl ⟨_, ?_, k + 1, rfl, ?_, ?_, rfl, rfl⟩
        · omega
        · omega
        · intro i hi; rcases Nat.lt_or_ge i k with h1 | h1; exact hf i h1; rw [show i = k by omega]; exact hE
    · try simp only [decide_eq_true_eq, decide_eq_false_iff_not, beq_iff_eq, bne_iff_ne, beq_eq_false_iff_ne, bne_eq_false_iff_eq, Bool.not_eq_true, Bool.not_eq_false, Bool.not_eq_eq_eq_not, Bool.not_true, Bool.not_false, List.length_map, Int.not_lt, Int.not_le, ne_eq, Decidable.not_not] at hc2
      refine vc_exit ?_
      refine hK5 _ ?_
      refine vc_seq fun K13 hK13 => ?_
      refine vc_region ?_
      refine vo_assign_pv rfl rfl ?_
      refine vo_nil ?_
      refine hK13 _ ?_
      refine vc_ret ?_
      change retPv _ _ _ _ _
      refine retPv_mk rfl rfl rfl ⟨?_, rfl⟩
      refine (congrArg (fun b => [bo b]) (?_ : _ = _) : [bo _] = [bo _])
      exact bT ⟨hc1, fun i hi => hf i (by omega)⟩


theorem FnExactAllOrders_sat {nl0 : Option Bool} {aBases : List (List Int)} (haBases : aBases.length ≤ 9223372036854775807) (hlaBases : ∀ l ∈ aBases, l.length ≤ 9223372036854775807) : SatAt Try.prog 14 [.pv false (.sl nl0 1 (aBases.map ints))] [] (fun res rows => res = [bo true] ∧ rows = []) := by
  refine sat_entry (ts := [2]) Try.func14 rfl rfl (by decide) (Nat.le_of_ble_eq_true rfl) fun C hC => ?_
  rw [Try.ntmps14]
  replace hC : C.nb = 0 := hC
  refine vc_seq fun K1 hK1 => ?_
  refine vc_region ?_
  refine vo_assign_pv rfl rfl ?_
  refine vo_nil ?_
  refine hK1 _ ?_
  refine vc_seq fun K2 hK2 => ?_
  refine vc_region ?_
  refine vo_assign_pv rfl rfl ?_
  refine vo_nil ?_
  refine hK2 _ ?_
  refine vc_seq fun K3 hK3 => ?_
  refine vc_region ?_
  refine vo_move_pv rfl rfl ?_
  refine vo_move_pv rfl rfl ?_
  refine vo_call0 Try.func24 rfl rfl rfl rfl (szIntSS_sat haBases hlaBases (by omega) (by omega)) ?_
  rintro _ _ ⟨vaBases, hvaBases, rfl, rfl⟩
  refine ⟨rfl, rfl, .inl rfl, ?_⟩
  refine vo_assign_pv rfl rfl ?_
  refine vo_nil ?_
  refine hK3 _ ?_
  refine vc_seq fun K4 hK4 => ?_
  refine vc_seq fun K5 hK5 => ?_
  refine vc_region ?_
  refine vo_move_pv rfl rfl ?_
  refine vo_binI rfl rfl rfl rfl trivial ?_
  refine vo_nil ?_
  refine hK5 _ ?_
  refine vc_cond rfl (fun hc1 => ?_) (fun hc1 => ?_)
  · try simp only [decide_eq_true_eq, decide_eq_false_iff_not, beq_iff_eq, bne_iff_ne, beq_eq_false_iff_ne, bne_eq_false_iff_eq, Bool.not_eq_true, Bool.not_eq_false, Bool.not_eq_eq_eq_not, Bool.not_true, Bool.not_false, List.length_map, Int.not_lt, Int.not_le, ne_eq, Decidable.not_not] at hc1
    refine vc_seq fun K6 hK6 => ?_
    refine vc_region ?_
    refine vo_assign_pv rfl rfl ?_
    refine vo_nil ?_
    refine hK6 _ ?_
    refine vc_ret ?_
    change retPv _ _ _ _ _
    refine retPv_mk rfl rfl rfl ⟨?_, rfl⟩
    rfl
  · try simp only [decide_eq_true_eq, decide_eq_false_iff_not, beq_iff_eq, bne_iff_ne, beq_eq_false_iff_ne, bne_eq_false_iff_eq, Bool.not_eq_true, Bool.not_eq_false, Bool.not_eq_eq_eq_not, Bool.not_true, Bool.not_false, List.length_map, Int.not_lt, Int.not_le, ne_eq, Decidable.not_not] at hc1
    have hbaBases := hvaBases.resolve_left (by omega)
    have hBaBases : aBases.length < 1000000000 := by omega
    have hLaBases : ∀ l ∈ aBases, l.length < 1000000000 := fun l hl => by have := hbaBases.2.2 l hl; omega
    refine vc_skip ?_
    refine hK4 _ ?_
    refine vc_seq fun K7 hK7 => ?_
    refine vc_region ?_
    refine vo_move_pv rfl rfl ?_
    refine vo_call [] Try.func25 rfl rfl rfl rfl rfl rfl rfl (toIntSS_sat hBaBases hLaBases) ?_
    rintro _ _ ⟨rfl, rfl⟩
    refine ⟨Nat.le_of_ble_eq_true rfl, ⟨rfl, rfl, rfl⟩, .inl rfl, ?_⟩
    refine vo_st (by (try simp only [St.put, exposeE, killE, SV.expose, SV.kill, Row.expose, Row.kill, rowsAfter_nil, rowsAfter_one, packS, SV.shift, placeOf, enumE, List.zip_cons_cons, List.zip_nil_right, List.map_cons, List.map_nil, List.set_cons_zero, List.set_cons_succ, List.length_cons, List.length_nil, List.cons_append, List.nil_append, List.drop_succ_cons, List.drop_zero, List.drop_nil, List.take_succ_cons, List.take_zero, List.take_nil, List.getElem?_cons_zero, List.getElem?_cons_succ, List.getElem?_nil, Option.getD_some, Option.getD_none, Option.map_some, Option.map_none, Nat.reduceAdd, Nat.reduceSub, Nat.reduceEqDiff, Nat.zero_add, Bool.true_or, PV.scal, Bool.or_false, Bool.or_true, Bool.false_or, Bool.and_true, Bool.and_false, Bool.true_and, reduceIte, reduceCtorEq]); exact eq_refl _) ?_
    refine vo_call0 Try.func50 rfl rfl rfl rfl (specAllOrders_sat hBaBases hLaBases) ?_
    rintro _ _ ⟨rfl, rfl⟩
    refine ⟨rfl, rfl, .inr rfl, ?_⟩
    refine vo_assign_pv rfl rfl ?_
    refine vo_nil ?_
    refine hK7 _ ?_
    refine vc_seq fun K8 hK8 => ?_
    refine vc_region ?_
    refine vo_move_pv rfl rfl ?_
    refine vo_call [] Try.func25 rfl rfl rfl rfl rfl rfl rfl (toIntSS_sat hBaBases hLaBases) ?_
    rintro _ _ ⟨rfl, rfl⟩
    refine ⟨Nat.le_of_ble_eq_true rfl, ⟨rfl, rfl, rfl⟩, .inl rfl, ?_⟩
    refine vo_st (by (try simp only [St.put, exposeE, killE, SV.expose, SV.kill, Row.expose, Row.kill, rowsAfter_nil, rowsAfter_one, packS, SV.shift, placeOf, enumE, List.zip_cons_cons, List.zip_nil_right, List.map_cons, List.map_nil, List.set_cons_zero, List.set_cons_succ, List.length_cons, List.length_nil, List.cons_append, List.nil_append, List.drop_succ_cons, List.drop_zero, List.drop_nil, List.take_succ_cons, List.take_zero, List.take_nil, List.getElem?_cons_zero, List.getElem?_cons_succ, List.getElem?_nil, Option.getD_some, Option.getD_none, Option.map_some, Option.map_none, Nat.reduceAdd, Nat.reduceSub, Nat.reduceEqDiff, Nat.zero_add, Bool.true_or, PV.scal, Bool.or_false, Bool.or_true, Bool.false_or, Bool.and_true, Bool.and_false, Bool.true_and, reduceIte, reduceCtorEq]); exact eq_refl _) ?_
    refine vo_assign_ref rfl rfl ?_
    refine vo_nil ?_
    refine hK8 _ ?_
    refine vc_seq fun K9 hK9 => ?_
    refine vc_region ?_
    refine vo_move_ref rfl rfl ?_
    refine vo_call0 Try.func49 rfl rfl rfl rfl (implAllOrders_sat hBaBases hLaBases) ?_
    rintro _ _ ⟨rfl, rfl⟩
    refine ⟨rfl, rfl, .inr rfl, ?_⟩
    refine vo_assign_pv rfl rfl ?_
    refine vo_nil ?_
    refine hK9 _ ?_
    refine vc_seq fun K10 hK10 => ?_
    refine vc_seq fun K11 hK11 => ?_
    refine vc_region ?_
    refine vo_move_pv rfl rfl ?_
    refine vo_move_pv rfl rfl ?_
    refine vo_binB rfl rfl rfl rfl Try.underlying4 ?_
    refine vo_nil ?_
    refine hK11 _ ?_
    refine vc_cond rfl (fun hc2 => ?_) (fun hc2 => ?_)
    · try simp only [decide_eq_true_eq, decide_eq_false_iff_not, beq_iff_eq, bne_iff_ne, beq_eq_false_iff_ne, bne_eq_false_iff_eq, Bool.not_eq_true, Bool.not_eq_false, Bool.not_eq_eq_eq_not, Bool.not_true, Bool.not_false, List.length_map, Int.not_lt, Int.not_le, ne_eq, Decidable.not_not] at hc2
      refine vc_seq fun K12 hK12 => ?_
      refine vc_region ?_
      refine vo_assign_pv rfl rfl ?_
      refine vo_nil ?_
      refine hK12 _ ?_
      refine vc_ret ?_
      change retPv _ _ _ _ _
      refine retPv_mk rfl rfl rfl ⟨?_, rfl⟩
      first | exact absurd trivial (by assumption) | exact absurd rfl (by assumption) | contradiction
    · try simp only [decide_eq_true_eq, decide_eq_false_iff_not, beq_iff_eq, bne_iff_ne, beq_eq_false_iff_ne, bne_eq_false_iff_eq, Bool.not_eq_true, Bool.not_eq_false, Bool.not_eq_eq_eq_not, Bool.not_true, Bool.not_false, List.length_map, Int.not_lt, Int.not_le, ne_eq, Decidable.not_not] at hc2
      refine vc_skip ?_
      refine hK10 _ ?_
      refine vc_seq fun K13 hK13 => ?_
      refine vc_seq fun K14 hK14 => ?_
      refine vc_region ?_
      refine vo_move_ref rfl rfl ?_
      refine vo_move_pv rfl rfl ?_
      refine vo_call [] Try.func25 rfl rfl rfl rfl rfl rfl rfl (toIntSS_sat hBaBases hLaBases) ?_
      rintro _ _ ⟨rfl, rfl⟩
      refine ⟨Nat.le_of_ble_eq_true rfl, ⟨rfl, rfl, rfl⟩, .inl rfl, ?_⟩
      refine vo_st (by (try simp only [St.put, exposeE, killE, SV.expose, SV.kill, Row.expose, Row.kill, rowsAfter_nil, rowsAfter_one, packS, SV.shift, placeOf, enumE, List.zip_cons_cons, List.zip_nil_right, List.map_cons, List.map_nil, List.set_cons_zero, List.set_cons_succ, List.length_cons, List.length_nil, List.cons_append, List.nil_append, List.drop_succ_cons, List.drop_zero, List.drop_nil, List.take_succ_cons, List.take_zero, List.take_nil, List.getElem?_cons_zero, List.getElem?_cons_succ, List.getElem?_nil, Option.getD_some, Option.getD_none, Option.map_some, Option.map_none, Nat.reduceAdd, Nat.reduceSub, Nat.reduceEqDiff, Nat.zero_add, Bool.true_or, PV.scal, Bool.or_false, Bool.or_true, Bool.false_or, Bool.and_true, Bool.and_false, Bool.true_and, reduceIte, reduceCtorEq]); exact eq_refl _) ?_
      refine vo_call0 Try.func27 rfl rfl rfl rfl (eqIntSS_sat hBaBases hLaBases hBaBases hLaBases) ?_
      rintro _ _ ⟨rfl, rfl⟩
      refine ⟨rfl, rfl, .inr rfl, ?_⟩
      refine vo_not rfl rfl ?_
      refine vo_nil ?_
      refine hK14 _ ?_
      refine vc_cond rfl (fun hc3 => ?_) (fun hc3 => ?_)
      · try simp only [decide_eq_true_eq, decide_eq_false_iff_not, beq_iff_eq, bne_iff_ne, beq_eq_false_iff_ne, bne_eq_false_iff_eq, Bool.not_eq_true, Bool.not_eq_false, Bool.not_eq_eq_eq_not, Bool.not_true, Bool.not_false, List.length_map, Int.not_lt, Int.not_le, ne_eq, Decidable.not_not] at hc3
        refine vc_seq fun K15 hK15 => ?_
        refine vc_region ?_
        refine vo_assign_pv rfl rfl ?_
        refine vo_nil ?_
        refine hK15 _ ?_
        refine vc_ret ?_
        change retPv _ _ _ _ _
        refine retPv_mk rfl rfl rfl ⟨?_, rfl⟩
        first | exact absurd trivial (by assumption) | exact absurd rfl (by assumption) | contradiction
      · try simp only [decide_eq_true_eq, decide_eq_false_iff_not, beq_iff_eq, bne_iff_ne, beq_eq_false_iff_ne, bne_eq_false_iff_eq, Bool.not_eq_true, Bool.not_eq_false, Bool.not_eq_eq_eq_not, Bool.not_true, Bool.not_false, List.length_map, Int.not_lt, Int.not_le, ne_eq, Decidable.not_not] at hc3
        refine vc_skip ?_
        refine hK13 _ ?_
        refine vc_seq fun K16 hK16 => ?_
        refine vc_region ?_
        refine vo_assign_pv rfl rfl ?_
        refine vo_nil ?_
        refine hK16 _ ?_
        refine vc_ret ?_
        change retPv _ _ _ _ _
        refine retPv_mk rfl rfl rfl ⟨?_, rfl⟩
        rfl

end Go.Vl

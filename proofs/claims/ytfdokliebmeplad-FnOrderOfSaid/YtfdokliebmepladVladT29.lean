import Derived.Test.YtfdokliebmepladVladT28
namespace Go.Vl
set_option linter.unusedVariables false
set_option linter.unusedSimpArgs false
open Go.Proofs

theorem sorted_sat {nl0 : Option Bool} {list : List Int} {n : Nat} (hlist : list.length < 1000000000) (hn : n < 1000000000) : SatAt Try.prog 36 [.pv false (.sl nl0 1 (list.map intP)), i64 n] [] (fun res rows => ∃ nl, res = [.ref 0] ∧ rows = [Row.own 3 1 nl true ((srtL list n).map intP)]) := by
  refine sat_entry_g (ts := [4]) Try.func36 rfl rfl (by decide) (Nat.le_of_ble_eq_true rfl) fun C hC => ?_
  rw [Try.ntmps36]
  replace hC : C.nb = 0 := hC
  refine vc_seq fun K1 hK1 => ?_
  refine vc_region ?_
  refine vo_assign_pv rfl rfl ?_
  refine vo_nil ?_
  refine hK1 _ ?_
  refine vc_seq fun K2 hK2 => ?_
  refine vc_region ?_
  refine vo_buildSlice E25 rfl rfl rfl rfl rfl ?_
  refine vo_assign_ref rfl rfl ?_
  refine vo_nil ?_
  refine hK2 _ ?_
  refine vc_seq fun K3 hK3 => ?_
  refine vc_seq fun K4 hK4 => ?_
  refine vc_region ?_
  refine vo_assign_pv rfl rfl ?_
  refine vo_nil ?_
  refine hK4 _ ?_
  refine vc_block ?_
  refine vc_st (by (try simp only [St.put, exposeE, killE, SV.expose, SV.kill, Row.expose, Row.kill, rowsAfter_nil, rowsAfter_one, packS, SV.shift, placeOf, enumE, List.zip_cons_cons, List.zip_nil_right, List.map_cons, List.map_nil, List.set_cons_zero, List.set_cons_succ, List.length_cons, List.length_nil, List.cons_append, List.nil_append, List.drop_succ_cons, List.drop_zero, List.drop_nil, List.take_succ_cons, List.take_zero, List.take_nil, List.getElem?_cons_zero, List.getElem?_cons_succ, List.getElem?_nil, Option.getD_some, Option.getD_none, Option.map_some, Option.map_none, Nat.reduceAdd, Nat.reduceSub, Nat.reduceEqDiff, Nat.zero_add, Bool.true_or, PV.scal, Bool.or_false, Bool.or_true, Bool.false_or, Bool.and_true, Bool.and_false, Bool.true_and, reduceIte, reduceCtorEq]); exact eq_refl _) ?_
  refine vc_loop [0, 1, 5, 6] (fun mz vs rows => ∃ (k : Nat), mz = n - k ∧ (k ≤ n) ∧ vs = [.pv false (.sl nl0 1 (list.map intP)), i64 n, .ref 0, i64 k] ∧ rows = [Row.own 3 1 (some false) true ((srtL list k).map intP)]) (n) (le_len hC rfl) ⟨rfl, rfl⟩ ⟨0, rfl, Nat.zero_le _, rfl, rfl⟩ ?_
  rintro mz vs rows - - ⟨k, rfl, hk, rfl, rfl⟩
  have hL := srt_len list k
  refine vc_seq fun K5 hK5 => ?_
  refine vc_seq fun K6 hK6 => ?_
  refine vc_region ?_
  refine vo_move_pv rfl rfl ?_
  refine vo_move_pv rfl rfl ?_
  refine vo_binI rfl rfl rfl rfl trivial ?_
  refine vo_nil ?_
  refine hK6 _ ?_
  refine vc_cond rfl (fun hc1 => ?_) (fun hc1 => ?_)
  · try simp only [decide_eq_true_eq, decide_eq_false_iff_not, beq_iff_eq, bne_iff_ne, beq_eq_false_iff_ne, bne_eq_false_iff_eq, Bool.not_eq_true, Bool.not_eq_false, Bool.not_eq_eq_eq_not, Bool.not_true, Bool.not_false, List.length_map, Int.not_lt, Int.not_le, ne_eq, Decidable.not_not] at hc1
    refine vc_skip ?_
    refine hK5 _ ?_
    refine vc_seq fun K7 hK7 => ?_
    refine vc_block ?_
    refine vc_seq fun K8 hK8 => ?_
    refine vc_region ?_
    refine vo_move_pv rfl rfl ?_
    refine vo_move_pv rfl rfl ?_
    refine vo_call0 Try.func20 rfl rfl rfl rfl (isIn_sat hlist) ?_
    rintro _ _ ⟨rfl, rfl⟩
    refine ⟨rfl, rfl, .inl rfl, ?_⟩
    refine vo_nil ?_
    refine hK8 _ ?_
    refine vc_cond rfl (fun hc2 => ?_) (fun hc2 => ?_)
    · try simp only [decide_eq_true_eq, decide_eq_false_iff_not, beq_iff_eq, bne_iff_ne, beq_eq_false_iff_ne, bne_eq_false_iff_eq, Bool.not_eq_true, Bool.not_eq_false, Bool.not_eq_eq_eq_not, Bool.not_true, Bool.not_false, List.length_map, Int.not_lt, Int.not_le, ne_eq, Decidable.not_not] at hc2
      refine vc_region ?_
      refine vo_move_ref rfl rfl ?_
      refine vo_move_pv rfl rfl ?_
      refine vo_buildSlice E25 rfl rfl rfl rfl rfl ?_
      refine vo_append E25 rfl (by omega) rfl rfl rfl (by first | omega | (simp only [List.length_map] <;> omega) | (simp only [List.length_map, List.length_set, List.length_append, List.length_cons, List.length_nil, List.length_replicate, List.length_take, List.length_drop] <;> omega) | (simp <;> omega) | (constructor <;> (first | omega | (simp <;> omega))) | (refine ⟨?_, ?_, ?_, ?_⟩ <;> omega) | exact ⟨xorI_nonneg _ _, by omega⟩ | decide) (by first | omega | (simp only [List.length_map] <;> omega) | (simp only [List.length_map, List.length_set, List.length_append, List.length_cons, List.length_nil, List.length_replicate, List.length_take, List.length_drop] <;> omega) | (simp <;> omega) | (constructor <;> (first | omega | (simp <;> omega))) | (refine ⟨?_, ?_, ?_, ?_⟩ <;> omega) | exact ⟨xorI_nonneg _ _, by omega⟩ | decide) ?_
      refine vo_st (by (try simp only [St.put, exposeE, killE, SV.expose, SV.kill, Row.expose, Row.kill, rowsAfter_nil, rowsAfter_one, packS, SV.shift, placeOf, enumE, List.zip_cons_cons, List.zip_nil_right, List.map_cons, List.map_nil, List.set_cons_zero, List.set_cons_succ, List.length_cons, List.length_nil, List.cons_append, List.nil_append, List.drop_succ_cons, List.drop_zero, List.drop_nil, List.take_succ_cons, List.take_zero, List.take_nil, List.getElem?_cons_zero, List.getElem?_cons_succ, List.getElem?_nil, Option.getD_some, Option.getD_none, Option.map_some, Option.map_none, Nat.reduceAdd, Nat.reduceSub, Nat.reduceEqDiff, Nat.zero_add, Bool.true_or, PV.scal, Bool.or_false, Bool.or_true, Bool.false_or, Bool.and_true, Bool.and_false, Bool.true_and, reduceIte, reduceCtorEq]); exact eq_refl _) ?_
      try simp only [app_ints, app_intss, app_bools]
      refine vo_assign_ref rfl rfl ?_
      refine vo_nil ?_
      refine hK7 _ ?_
      refine vc_region ?_
      refine vo_move_pv rfl rfl ?_
      refine vo_binI rfl rfl rfl rfl (by first | omega | (simp only [List.length_map] <;> omega) | (simp only [List.length_map, List.length_set, List.length_append, List.length_cons, List.length_nil, List.length_replicate, List.length_take, List.length_drop] <;> omega) | (simp <;> omega) | (constructor <;> (first | omega | (simp <;> omega))) | (refine ⟨?_, ?_, ?_, ?_⟩ <;> omega) | exact ⟨xorI_nonneg _ _, by omega⟩ | decide) ?_
      refine vo_assign_pv rfl rfl ?_
      refine vo_nil ?_
      change again _ _ _ _ _ _
      refine again_mk rfl rfl rfl rfl ⟨_, ?_, k + 1, rfl, ?_, rfl, (congrArg (fun l => [Row.own 3 1 (some false) true (List.map intP l)]) (show srtL list k ++ [((k : Nat) : Int)] = srtL list (k+1) by rw [srt_succ, if_pos (by assumption)]))⟩
      · omega
      · omega
    · try simp only [decide_eq_true_eq, decide_eq_false_iff_not, beq_iff_eq, bne_iff_ne, beq_eq_false_iff_ne, bne_eq_false_iff_eq, Bool.not_eq_true, Bool.not_eq_false, Bool.not_eq_eq_eq_not, Bool.not_true, Bool.not_false, List.length_map, Int.not_lt, Int.not_le, ne_eq, Decidable.not_not] at hc2
      refine vc_skip ?_
      refine hK7 _ ?_
      refine vc_region ?_
      refine vo_move_pv rfl rfl ?_
      refine vo_binI rfl rfl rfl rfl (by first | omega | (simp only [List.length_map] <;> omega) | (simp only [List.length_map, List.length_set, List.length_append, List.length_cons, List.length_nil, List.length_replicate, List.length_take, List.length_drop] <;> omega) | (simp <;> omega) | (constructor <;> (first | omega | (simp <;> omega))) | (refine ⟨?_, ?_, ?_, ?_⟩ <;> omega) | exact ⟨xorI_nonneg _ _, by omega⟩ | decide) ?_
      refine vo_assign_pv rfl rfl ?_
      refine vo_nil ?_
      change again _ _ _ _ _ _
      refine again_mk rfl rfl rfl rfl ⟨_, ?_, k + 1, rfl, ?_, rfl, (congrArg (fun l => [Row.own 3 1 (some false) true (List.map intP l)]) (show srtL list k = srtL list (k+1) by rw [srt_succ, if_neg (by assumption)]))⟩
      · omega
      · omega
  · try simp only [decide_eq_true_eq, decide_eq_false_iff_not, beq_iff_eq, bne_iff_ne, beq_eq_false_iff_ne, bne_eq_false_iff_eq, Bool.not_eq_true, Bool.not_eq_false, Bool.not_eq_eq_eq_not, Bool.not_true, Bool.not_false, List.length_map, Int.not_lt, Int.not_le, ne_eq, Decidable.not_not] at hc1
    refine vc_exit ?_
    refine hK3 _ ?_
    refine vc_seq fun K9 hK9 => ?_
    refine vc_region ?_
    refine vo_move_ref rfl rfl ?_
    refine vo_assign_ref rfl rfl ?_
    refine vo_nil ?_
    refine hK9 _ ?_
    refine vc_ret ?_
    change retG _ _ _ _ _
    refine retG_one 0 hC rfl rfl rfl rfl rfl ?_
    exact ⟨_, rfl, rows_eq (g := intP) (by rw [show k = n by omega])⟩


theorem FnOrderOf_sat {nl : Option Bool} {c : List (Fin 256)} : SatAt Try.prog 8 [.pv false (.sl nl 1 (c.map byteP))] [] (fun res rows => res = [bo true] ∧ rows = []) := by
  refine sat_entry (ts := [2]) Try.func8 rfl rfl (by decide) (Nat.le_of_ble_eq_true rfl) fun C hC => ?_
  rw [Try.ntmps8]
  replace hC : C.nb = 0 := hC
  refine vc_seq fun K1 hK1 => ?_
  refine vc_region ?_
  refine vo_assign_pv rfl rfl ?_
  refine vo_nil ?_
  refine hK1 _ ?_
  refine vc_seq fun K2 hK2 => ?_
  refine vc_seq fun K3 hK3 => ?_
  refine vc_region ?_
  refine vo_move_pv rfl rfl ?_
  refine vo_len_pv rfl rfl Try.underlying22 ?_
  refine vo_binI rfl rfl rfl rfl trivial ?_
  refine vo_nil ?_
  refine hK3 _ ?_
  refine vc_cond rfl (fun hc1 => ?_) (fun hc1 => ?_)
  · try simp only [decide_eq_true_eq, decide_eq_false_iff_not, beq_iff_eq, bne_iff_ne, beq_eq_false_iff_ne, bne_eq_false_iff_eq, Bool.not_eq_true, Bool.not_eq_false, Bool.not_eq_eq_eq_not, Bool.not_true, Bool.not_false, List.length_map, Int.not_lt, Int.not_le, ne_eq, Decidable.not_not] at hc1
    refine vc_seq fun K4 hK4 => ?_
    refine vc_region ?_
    refine vo_assign_pv rfl rfl ?_
    refine vo_nil ?_
    refine hK4 _ ?_
    refine vc_ret ?_
    change retPv _ _ _ _ _
    refine retPv_mk rfl rfl rfl ⟨?_, rfl⟩
    rfl
  · try simp only [decide_eq_true_eq, decide_eq_false_iff_not, beq_iff_eq, bne_iff_ne, beq_eq_false_iff_ne, bne_eq_false_iff_eq, Bool.not_eq_true, Bool.not_eq_false, Bool.not_eq_eq_eq_not, Bool.not_true, Bool.not_false, List.length_map, Int.not_lt, Int.not_le, ne_eq, Decidable.not_not] at hc1
    refine vc_skip ?_
    refine hK2 _ ?_
    refine vc_seq fun K5 hK5 => ?_
    refine vc_region ?_
    refine vo_move_pv rfl rfl ?_
    refine vo_call [] Try.func32 rfl rfl rfl rfl rfl rfl rfl (DrawOrderOf_sat (by omega)) ?_
    rintro _ _ ⟨B, z, f, ⟨h1, h2, h3, h5, h6⟩, rfl, rfl⟩
    refine ⟨Nat.le_of_ble_eq_true rfl, ⟨rfl, rfl, rfl⟩, .inl rfl, ?_⟩
    refine vo_st (by (try simp only [St.put, exposeE, killE, SV.expose, SV.kill, Row.expose, Row.kill, rowsAfter_nil, rowsAfter_one, packS, SV.shift, placeOf, enumE, List.zip_cons_cons, List.zip_nil_right, List.map_cons, List.map_nil, List.set_cons_zero, List.set_cons_succ, List.length_cons, List.length_nil, List.cons_append, List.nil_append, List.drop_succ_cons, List.drop_zero, List.drop_nil, List.take_succ_cons, List.take_zero, List.take_nil, List.getElem?_cons_zero, List.getElem?_cons_succ, List.getElem?_nil, Option.getD_some, Option.getD_none, Option.map_some, Option.map_none, Nat.reduceAdd, Nat.reduceSub, Nat.reduceEqDiff, Nat.zero_add, Bool.true_or, PV.scal, Bool.or_false, Bool.or_true, Bool.false_or, Bool.and_true, Bool.and_false, Bool.true_and, reduceIte, reduceCtorEq]); exact eq_refl _) ?_
    refine vo_move rfl ?_
    refine vo_extract rfl rfl rfl ?_
    refine vo_extract rfl rfl rfl ?_
    refine vo_assign_ref rfl rfl ?_
    refine vo_assign_pv rfl rfl ?_
    refine vo_nil ?_
    refine hK5 _ ?_
    refine vc_seq fun K6 hK6 => ?_
    refine vc_region ?_
    refine vo_move_ref rfl rfl ?_
    refine vo_move_pv rfl rfl ?_
    refine vo_call [] Try.func33 rfl rfl rfl rfl rfl rfl rfl (implOrderOf_sat (bases := B) (c := z) (by omega) (lt3 h3)) ?_
    rintro _ _ ⟨R1, nl7, rfl, rfl⟩
    refine ⟨Nat.le_of_ble_eq_true rfl, ⟨rfl, rfl, rfl⟩, .inr ⟨rfl, rfl⟩, ?_⟩
    refine vo_st (by (try simp only [St.put, exposeE, killE, SV.expose, SV.kill, Row.expose, Row.kill, rowsAfter_nil, rowsAfter_one, packS, SV.shift, placeOf, enumE, List.zip_cons_cons, List.zip_nil_right, List.map_cons, List.map_nil, List.set_cons_zero, List.set_cons_succ, List.length_cons, List.length_nil, List.cons_append, List.nil_append, List.drop_succ_cons, List.drop_zero, List.drop_nil, List.take_succ_cons, List.take_zero, List.take_nil, List.getElem?_cons_zero, List.getElem?_cons_succ, List.getElem?_nil, Option.getD_some, Option.getD_none, Option.map_some, Option.map_none, Nat.reduceAdd, Nat.reduceSub, Nat.reduceEqDiff, Nat.zero_add, Bool.true_or, PV.scal, Bool.or_false, Bool.or_true, Bool.false_or, Bool.and_true, Bool.and_false, Bool.true_and, reduceIte, reduceCtorEq]); exact eq_refl _) ?_
    refine vo_move rfl ?_
    refine vo_extract rfl rfl rfl ?_
    refine vo_extract rfl rfl rfl ?_
    refine vo_assign_ref rfl rfl ?_
    refine vo_assign_pv rfl rfl ?_
    refine vo_nil ?_
    refine hK6 _ ?_
    refine vc_seq fun K7 hK7 => ?_
    refine vc_region ?_
    refine vo_move_ref rfl rfl ?_
    refine vo_move_pv rfl rfl ?_
    refine vo_call [] Try.func34 rfl rfl rfl rfl rfl rfl rfl (specOrderOf_sat (c := z) (by omega) (lt3 h3)) ?_
    rintro _ _ ⟨nl8, rfl, rfl⟩
    refine ⟨Nat.le_of_ble_eq_true rfl, ⟨rfl, rfl, rfl⟩, .inr ⟨rfl, rfl⟩, ?_⟩
    refine vo_st (by (try simp only [St.put, exposeE, killE, SV.expose, SV.kill, Row.expose, Row.kill, rowsAfter_nil, rowsAfter_one, packS, SV.shift, placeOf, enumE, List.zip_cons_cons, List.zip_nil_right, List.map_cons, List.map_nil, List.set_cons_zero, List.set_cons_succ, List.length_cons, List.length_nil, List.cons_append, List.nil_append, List.drop_succ_cons, List.drop_zero, List.drop_nil, List.take_succ_cons, List.take_zero, List.take_nil, List.getElem?_cons_zero, List.getElem?_cons_succ, List.getElem?_nil, Option.getD_some, Option.getD_none, Option.map_some, Option.map_none, Nat.reduceAdd, Nat.reduceSub, Nat.reduceEqDiff, Nat.zero_add, Bool.true_or, PV.scal, Bool.or_false, Bool.or_true, Bool.false_or, Bool.and_true, Bool.and_false, Bool.true_and, reduceIte, reduceCtorEq]); exact eq_refl _) ?_
    refine vo_move rfl ?_
    refine vo_extract rfl rfl rfl ?_
    refine vo_extract rfl rfl rfl ?_
    refine vo_assign_ref rfl rfl ?_
    refine vo_assign_pv rfl rfl ?_
    refine vo_nil ?_
    refine hK7 _ ?_
    refine vc_seq fun K8 hK8 => ?_
    refine vc_seq fun K9 hK9 => ?_
    refine vc_region ?_
    refine vo_move_ref rfl rfl ?_
    refine vo_move_ref rfl rfl ?_
    refine vo_call0 Try.func18 rfl rfl rfl rfl (equalInts_sat (a := orR B z) (b := orR B z) orR_len orR_len) ?_
    rintro _ _ ⟨rfl, rfl⟩
    refine ⟨rfl, rfl, .inr rfl, ?_⟩
    refine vo_not rfl rfl ?_
    refine vo_move_pv rfl rfl ?_
    refine vo_split 35 rfl (fun hg2 => ?_) (fun hg2 => ?_)
    · try simp only [decide_eq_true_eq, decide_eq_false_iff_not, beq_iff_eq, bne_iff_ne, beq_eq_false_iff_ne, bne_eq_false_iff_eq, Bool.not_eq_true, Bool.not_eq_false, Bool.not_eq_eq_eq_not, Bool.not_true, Bool.not_false, List.length_map, Int.not_lt, Int.not_le, ne_eq, Decidable.not_not] at hg2
      refine vo_guard_off rfl rfl rfl rfl rfl ?_
      refine vo_guard_off rfl rfl rfl rfl rfl ?_
      refine vo_guard_off rfl rfl rfl rfl rfl ?_
      refine vo_pick_t rfl rfl ?_
      refine vo_move_pv rfl rfl ?_
      refine vo_guard_off rfl rfl rfl rfl rfl ?_
      refine vo_guard_off rfl rfl rfl rfl rfl ?_
      refine vo_pick_t rfl rfl ?_
      refine vo_nil ?_
      refine hK9 _ ?_
      refine vc_cond_t rfl ?_
      refine vc_seq fun K10 hK10 => ?_
      refine vc_region ?_
      refine vo_move_ref rfl rfl ?_
      refine vo_move_ref rfl rfl ?_
      refine vo_call0 Try.func18 rfl rfl rfl rfl (equalInts_sat (a := orR B z) (b := orR B z) orR_len orR_len) ?_
      rintro _ _ ⟨rfl, rfl⟩
      refine ⟨rfl, rfl, .inr rfl, ?_⟩
      refine vo_move_pv rfl rfl ?_
      refine vo_split 47 rfl (fun hg3 => ?_) (fun hg3 => ?_)
      · try simp only [decide_eq_true_eq, decide_eq_false_iff_not, beq_iff_eq, bne_iff_ne, beq_eq_false_iff_ne, bne_eq_false_iff_eq, Bool.not_eq_true, Bool.not_eq_false, Bool.not_eq_eq_eq_not, Bool.not_true, Bool.not_false, List.length_map, Int.not_lt, Int.not_le, ne_eq, Decidable.not_not] at hg3
        refine vo_guard_on rfl rfl rfl ?_
        refine vo_move_pv rfl rfl ?_
        refine vo_guard_on rfl rfl rfl ?_
        refine vo_move_pv rfl rfl ?_
        refine vo_guard_on rfl rfl rfl ?_
        refine vo_binB rfl rfl rfl rfl Try.underlying4 ?_
        refine vo_pick_t rfl rfl ?_
        refine vo_assign_pv rfl rfl ?_
        refine vo_nil ?_
        refine hK10 _ ?_
        refine vc_ret ?_
        change retPv _ _ _ _ _
        refine retPv_mk rfl rfl rfl ⟨?_, rfl⟩
        first | rfl | exact absurd trivial (by assumption) | exact absurd rfl (by assumption) | (refine (congrArg (fun b => [bo b]) (?_ : _ = _) : [bo _] = [bo _]); exact decide_eq_true rfl) | exact absurd (by assumption) (ord_low hc6 (by omega) (by omega)) | exact absurd hS (by assumption) | exact absurd hLi (by assumption) | exact absurd hH (by assumption) | (refine (congrArg (fun b => [bo b]) (?_ : _ = _) : [bo _] = [bo _]); exact decide_eq_true hLa2)
      · try simp only [decide_eq_true_eq, decide_eq_false_iff_not, beq_iff_eq, bne_iff_ne, beq_eq_false_iff_ne, bne_eq_false_iff_eq, Bool.not_eq_true, Bool.not_eq_false, Bool.not_eq_eq_eq_not, Bool.not_true, Bool.not_false, List.length_map, Int.not_lt, Int.not_le, ne_eq, Decidable.not_not] at hg3
        refine vo_guard_off rfl rfl rfl rfl rfl ?_
        refine vo_guard_off rfl rfl rfl rfl rfl ?_
        refine vo_guard_off rfl rfl rfl rfl rfl ?_
        refine vo_pick_f rfl rfl ?_
        refine vo_assign_pv rfl rfl ?_
        refine vo_nil ?_
        refine hK10 _ ?_
        refine vc_ret ?_
        change retPv _ _ _ _ _
        refine retPv_mk rfl rfl rfl ⟨?_, rfl⟩
        first | rfl | exact absurd trivial (by assumption) | exact absurd rfl (by assumption) | (refine (congrArg (fun b => [bo b]) (?_ : _ = _) : [bo _] = [bo _]); exact decide_eq_true rfl) | exact absurd (by assumption) (ord_low hc6 (by omega) (by omega)) | exact absurd hS (by assumption) | exact absurd hLi (by assumption) | exact absurd hH (by assumption) | (refine (congrArg (fun b => [bo b]) (?_ : _ = _) : [bo _] = [bo _]); exact decide_eq_true hLa2)
    · try simp only [decide_eq_true_eq, decide_eq_false_iff_not, beq_iff_eq, bne_iff_ne, beq_eq_false_iff_ne, bne_eq_false_iff_eq, Bool.not_eq_true, Bool.not_eq_false, Bool.not_eq_eq_eq_not, Bool.not_true, Bool.not_false, List.length_map, Int.not_lt, Int.not_le, ne_eq, Decidable.not_not] at hg2
      refine vo_guard_on rfl rfl rfl ?_
      refine vo_move_pv rfl rfl ?_
      refine vo_guard_on rfl rfl rfl ?_
      refine vo_move_pv rfl rfl ?_
      refine vo_guard_on rfl rfl rfl ?_
      refine vo_binB rfl rfl rfl rfl Try.underlying4 ?_
      refine vo_pick_f rfl rfl ?_
      refine vo_move_pv rfl rfl ?_
      refine vo_split 40 rfl (fun hg4 => ?_) (fun hg4 => ?_)
      · try simp only [decide_eq_true_eq, decide_eq_false_iff_not, beq_iff_eq, bne_iff_ne, beq_eq_false_iff_ne, bne_eq_false_iff_eq, Bool.not_eq_true, Bool.not_eq_false, Bool.not_eq_eq_eq_not, Bool.not_true, Bool.not_false, List.length_map, Int.not_lt, Int.not_le, ne_eq, Decidable.not_not] at hg4
        refine vo_guard_off rfl rfl rfl rfl rfl ?_
        refine vo_guard_off rfl rfl rfl rfl rfl ?_
        refine vo_pick_t rfl rfl ?_
        refine vo_nil ?_
        refine hK9 _ ?_
        refine vc_cond_t rfl ?_
        refine vc_seq fun K11 hK11 => ?_
        refine vc_region ?_
        refine vo_move_ref rfl rfl ?_
        refine vo_move_ref rfl rfl ?_
        refine vo_call0 Try.func18 rfl rfl rfl rfl (equalInts_sat (a := orR B z) (b := orR B z) orR_len orR_len) ?_
        rintro _ _ ⟨rfl, rfl⟩
        refine ⟨rfl, rfl, .inr rfl, ?_⟩
        refine vo_move_pv rfl rfl ?_
        refine vo_split 47 rfl (fun hg5 => ?_) (fun hg5 => ?_)
        · try simp only [decide_eq_true_eq, decide_eq_false_iff_not, beq_iff_eq, bne_iff_ne, beq_eq_false_iff_ne, bne_eq_false_iff_eq, Bool.not_eq_true, Bool.not_eq_false, Bool.not_eq_eq_eq_not, Bool.not_true, Bool.not_false, List.length_map, Int.not_lt, Int.not_le, ne_eq, Decidable.not_not] at hg5
          refine vo_guard_on rfl rfl rfl ?_
          refine vo_move_pv rfl rfl ?_
          refine vo_guard_on rfl rfl rfl ?_
          refine vo_move_pv rfl rfl ?_
          refine vo_guard_on rfl rfl rfl ?_
          refine vo_binB rfl rfl rfl rfl Try.underlying4 ?_
          refine vo_pick_t rfl rfl ?_
          refine vo_assign_pv rfl rfl ?_
          refine vo_nil ?_
          refine hK11 _ ?_
          refine vc_ret ?_
          change retPv _ _ _ _ _
          refine retPv_mk rfl rfl rfl ⟨?_, rfl⟩
          first | rfl | exact absurd trivial (by assumption) | exact absurd rfl (by assumption) | (refine (congrArg (fun b => [bo b]) (?_ : _ = _) : [bo _] = [bo _]); exact decide_eq_true rfl) | exact absurd (by assumption) (ord_low hc6 (by omega) (by omega)) | exact absurd hS (by assumption) | exact absurd hLi (by assumption) | exact absurd hH (by assumption) | (refine (congrArg (fun b => [bo b]) (?_ : _ = _) : [bo _] = [bo _]); exact decide_eq_true hLa2)
        · try simp only [decide_eq_true_eq, decide_eq_false_iff_not, beq_iff_eq, bne_iff_ne, beq_eq_false_iff_ne, bne_eq_false_iff_eq, Bool.not_eq_true, Bool.not_eq_false, Bool.not_eq_eq_eq_not, Bool.not_true, Bool.not_false, List.length_map, Int.not_lt, Int.not_le, ne_eq, Decidable.not_not] at hg5
          refine vo_guard_off rfl rfl rfl rfl rfl ?_
          refine vo_guard_off rfl rfl rfl rfl rfl ?_
          refine vo_guard_off rfl rfl rfl rfl rfl ?_
          refine vo_pick_f rfl rfl ?_
          refine vo_assign_pv rfl rfl ?_
          refine vo_nil ?_
          refine hK11 _ ?_
          refine vc_ret ?_
          change retPv _ _ _ _ _
          refine retPv_mk rfl rfl rfl ⟨?_, rfl⟩
          first | rfl | exact absurd trivial (by assumption) | exact absurd rfl (by assumption) | (refine (congrArg (fun b => [bo b]) (?_ : _ = _) : [bo _] = [bo _]); exact decide_eq_true rfl) | exact absurd (by assumption) (ord_low hc6 (by omega) (by omega)) | exact absurd hS (by assumption) | exact absurd hLi (by assumption) | exact absurd hH (by assumption) | (refine (congrArg (fun b => [bo b]) (?_ : _ = _) : [bo _] = [bo _]); exact decide_eq_true hLa2)
      · try simp only [decide_eq_true_eq, decide_eq_false_iff_not, beq_iff_eq, bne_iff_ne, beq_eq_false_iff_ne, bne_eq_false_iff_eq, Bool.not_eq_true, Bool.not_eq_false, Bool.not_eq_eq_eq_not, Bool.not_true, Bool.not_false, List.length_map, Int.not_lt, Int.not_le, ne_eq, Decidable.not_not] at hg4
        refine vo_guard_on rfl rfl rfl ?_
        refine vo_move_pv rfl rfl ?_
        refine vo_guard_on rfl rfl rfl ?_
        refine vo_not rfl rfl ?_
        refine vo_pick_f rfl rfl ?_
        refine vo_nil ?_
        refine hK9 _ ?_
        refine vc_cond rfl (fun hc6 => ?_) (fun hc6 => ?_)
        · try simp only [decide_eq_true_eq, decide_eq_false_iff_not, beq_iff_eq, bne_iff_ne, beq_eq_false_iff_ne, bne_eq_false_iff_eq, Bool.not_eq_true, Bool.not_eq_false, Bool.not_eq_eq_eq_not, Bool.not_true, Bool.not_false, List.length_map, Int.not_lt, Int.not_le, ne_eq, Decidable.not_not] at hc6
          refine vc_seq fun K12 hK12 => ?_
          refine vc_region ?_
          refine vo_move_ref rfl rfl ?_
          refine vo_move_ref rfl rfl ?_
          refine vo_call0 Try.func18 rfl rfl rfl rfl (equalInts_sat (a := orR B z) (b := orR B z) orR_len orR_len) ?_
          rintro _ _ ⟨rfl, rfl⟩
          refine ⟨rfl, rfl, .inr rfl, ?_⟩
          refine vo_move_pv rfl rfl ?_
          refine vo_split 47 rfl (fun hg7 => ?_) (fun hg7 => ?_)
          · try simp only [decide_eq_true_eq, decide_eq_false_iff_not, beq_iff_eq, bne_iff_ne, beq_eq_false_iff_ne, bne_eq_false_iff_eq, Bool.not_eq_true, Bool.not_eq_false, Bool.not_eq_eq_eq_not, Bool.not_true, Bool.not_false, List.length_map, Int.not_lt, Int.not_le, ne_eq, Decidable.not_not] at hg7
            refine vo_guard_on rfl rfl rfl ?_
            refine vo_move_pv rfl rfl ?_
            refine vo_guard_on rfl rfl rfl ?_
            refine vo_move_pv rfl rfl ?_
            refine vo_guard_on rfl rfl rfl ?_
            refine vo_binB rfl rfl rfl rfl Try.underlying4 ?_
            refine vo_pick_t rfl rfl ?_
            refine vo_assign_pv rfl rfl ?_
            refine vo_nil ?_
            refine hK12 _ ?_
            refine vc_ret ?_
            change retPv _ _ _ _ _
            refine retPv_mk rfl rfl rfl ⟨?_, rfl⟩
            first | rfl | exact absurd trivial (by assumption) | exact absurd rfl (by assumption) | (refine (congrArg (fun b => [bo b]) (?_ : _ = _) : [bo _] = [bo _]); exact decide_eq_true rfl) | exact absurd (by assumption) (ord_low hc6 (by omega) (by omega)) | exact absurd hS (by assumption) | exact absurd hLi (by assumption) | exact absurd hH (by assumption) | (refine (congrArg (fun b => [bo b]) (?_ : _ = _) : [bo _] = [bo _]); exact decide_eq_true hLa2)
          · try simp only [decide_eq_true_eq, decide_eq_false_iff_not, beq_iff_eq, bne_iff_ne, beq_eq_false_iff_ne, bne_eq_false_iff_eq, Bool.not_eq_true, Bool.not_eq_false, Bool.not_eq_eq_eq_not, Bool.not_true, Bool.not_false, List.length_map, Int.not_lt, Int.not_le, ne_eq, Decidable.not_not] at hg7
            refine vo_guard_off rfl rfl rfl rfl rfl ?_
            refine vo_guard_off rfl rfl rfl rfl rfl ?_
            refine vo_guard_off rfl rfl rfl rfl rfl ?_
            refine vo_pick_f rfl rfl ?_
            refine vo_assign_pv rfl rfl ?_
            refine vo_nil ?_
            refine hK12 _ ?_
            refine vc_ret ?_
            change retPv _ _ _ _ _
            refine retPv_mk rfl rfl rfl ⟨?_, rfl⟩
            first | rfl | exact absurd trivial (by assumption) | exact absurd rfl (by assumption) | (refine (congrArg (fun b => [bo b]) (?_ : _ = _) : [bo _] = [bo _]); exact decide_eq_true rfl) | exact absurd (by assumption) (ord_low hc6 (by omega) (by omega)) | exact absurd hS (by assumption) | exact absurd hLi (by assumption) | exact absurd hH (by assumption) | (refine (congrArg (fun b => [bo b]) (?_ : _ = _) : [bo _] = [bo _]); exact decide_eq_true hLa2)
        · try simp only [decide_eq_true_eq, decide_eq_false_iff_not, beq_iff_eq, bne_iff_ne, beq_eq_false_iff_ne, bne_eq_false_iff_eq, Bool.not_eq_true, Bool.not_eq_false, Bool.not_eq_eq_eq_not, Bool.not_true, Bool.not_false, List.length_map, Int.not_lt, Int.not_le, ne_eq, Decidable.not_not] at hc6
          have hz := hc6.1
          have hOl := orR_len (b := B) (c := z)
          have hS := ord_srt hc6
          have hLn := ord_len hc6
          have hLa := ord_last hc6
          obtain ⟨t0, ht0⟩ := orR_cons hc6
          have hp : 0 < (orR B z).length := by rw [ht0]; simp
          have hH : (orR B z).getD (Int.toNat 0) 0 = z := by rw [ht0]; rfl
          have hLi : (((orR B z).length : Nat) : Int) = (abvR B z).length := by rw [hLn]
          have hLa2 : (orR B z).getD ((((List.map intP (orR B z)).length : Nat) : Int) - 1).toNat 0 = 0 := by rw [List.length_map, show (((orR B z).length : Int) - 1).toNat = (orR B z).length - 1 by omega]; exact hLa
          refine vc_skip ?_
          refine hK8 _ ?_
          refine vc_seq fun K13 hK13 => ?_
          refine vc_seq fun K14 hK14 => ?_
          refine vc_region ?_
          refine vo_assign_pv rfl rfl ?_
          refine vo_nil ?_
          refine hK14 _ ?_
          refine vc_block ?_
          refine vc_st (by (try simp only [St.put, exposeE, killE, SV.expose, SV.kill, Row.expose, Row.kill, rowsAfter_nil, rowsAfter_one, packS, SV.shift, placeOf, enumE, List.zip_cons_cons, List.zip_nil_right, List.map_cons, List.map_nil, List.set_cons_zero, List.set_cons_succ, List.length_cons, List.length_nil, List.cons_append, List.nil_append, List.drop_succ_cons, List.drop_zero, List.drop_nil, List.take_succ_cons, List.take_zero, List.take_nil, List.getElem?_cons_zero, List.getElem?_cons_succ, List.getElem?_nil, Option.getD_some, Option.getD_none, Option.map_some, Option.map_none, Nat.reduceAdd, Nat.reduceSub, Nat.reduceEqDiff, Nat.zero_add, Bool.true_or, PV.scal, Bool.or_false, Bool.or_true, Bool.false_or, Bool.and_true, Bool.and_false, Bool.true_and, reduceIte, reduceCtorEq]); exact eq_refl _) ?_
          refine vc_loopF [3, 4, 5] [9] [.ref 0, _, .ref 1] _ (fun mz vs => ∃ (k : Nat), mz = (orR B z).length - k ∧ (k ≤ (orR B z).length) ∧ vs = [i64 k]) ((orR B z).length) rfl rfl (le_len hC rfl) ⟨rfl, rfl, rfl⟩ ⟨0, rfl, Nat.zero_le _, rfl⟩ ?_
          rintro mz vs - ⟨k, rfl, hk, rfl⟩
          refine vc_st (by (try simp only [St.put, exposeE, killE, SV.expose, SV.kill, Row.expose, Row.kill, rowsAfter_nil, rowsAfter_one, packS, SV.shift, placeOf, enumE, List.zip_cons_cons, List.zip_nil_right, List.map_cons, List.map_nil, List.set_cons_zero, List.set_cons_succ, List.length_cons, List.length_nil, List.cons_append, List.nil_append, List.drop_succ_cons, List.drop_zero, List.drop_nil, List.take_succ_cons, List.take_zero, List.take_nil, List.getElem?_cons_zero, List.getElem?_cons_succ, List.getElem?_nil, Option.getD_some, Option.getD_none, Option.map_some, Option.map_none, Nat.reduceAdd, Nat.reduceSub, Nat.reduceEqDiff, Nat.zero_add, Bool.true_or, PV.scal, Bool.or_false, Bool.or_true, Bool.false_or, Bool.and_true, Bool.and_false, Bool.true_and, reduceIte, reduceCtorEq]); exact eq_refl _) ?_
          refine vc_seq fun K15 hK15 => ?_
          refine vc_seq fun K16 hK16 => ?_
          refine vc_region ?_
          refine vo_move_pv rfl rfl ?_
          refine vo_move_ref rfl rfl ?_
          refine vo_len_ref rfl rfl rfl Try.underlying25 ?_
          refine vo_binI rfl rfl rfl rfl trivial ?_
          refine vo_nil ?_
          refine hK16 _ ?_
          refine vc_cond rfl (fun hc8 => ?_) (fun hc8 => ?_)
          · try simp only [decide_eq_true_eq, decide_eq_false_iff_not, beq_iff_eq, bne_iff_ne, beq_eq_false_iff_ne, bne_eq_false_iff_eq, Bool.not_eq_true, Bool.not_eq_false, Bool.not_eq_eq_eq_not, Bool.not_true, Bool.not_false, List.length_map, Int.not_lt, Int.not_le, ne_eq, Decidable.not_not] at hc8
            refine vc_skip ?_
            refine hK15 _ ?_
            refine vc_seq fun K17 hK17 => ?_
            refine vc_block ?_
            refine vc_seq fun K18 hK18 => ?_
            refine vc_region ?_
            refine vo_assign_pv rfl rfl ?_
            refine vo_nil ?_
            refine hK18 _ ?_
            refine vc_block ?_
            refine vc_st (by (try simp only [St.put, exposeE, killE, SV.expose, SV.kill, Row.expose, Row.kill, rowsAfter_nil, rowsAfter_one, packS, SV.shift, placeOf, enumE, List.zip_cons_cons, List.zip_nil_right, List.map_cons, List.map_nil, List.set_cons_zero, List.set_cons_succ, List.length_cons, List.length_nil, List.cons_append, List.nil_append, List.drop_succ_cons, List.drop_zero, List.drop_nil, List.take_succ_cons, List.take_zero, List.take_nil, List.getElem?_cons_zero, List.getElem?_cons_succ, List.getElem?_nil, Option.getD_some, Option.getD_none, Option.map_some, Option.map_none, Nat.reduceAdd, Nat.reduceSub, Nat.reduceEqDiff, Nat.zero_add, Bool.true_or, PV.scal, Bool.or_false, Bool.or_true, Bool.false_or, Bool.and_true, Bool.and_false, Bool.true_and, reduceIte, reduceCtorEq]); exact eq_refl _) ?_
            refine vc_loopF [3, 4, 5, 9] [10] [.ref 0, _, .ref 1, i64 k] _ (fun mz vs => ∃ (j : Nat), mz = k - j ∧ (j ≤ k) ∧ vs = [i64 j]) (k) rfl rfl (le_len hC rfl) ⟨rfl, rfl, rfl⟩ ⟨0, rfl, Nat.zero_le _, rfl⟩ ?_
            rintro mz vs - ⟨j, rfl, hk, rfl⟩
            refine vc_st (by (try simp only [St.put, exposeE, killE, SV.expose, SV.kill, Row.expose, Row.kill, rowsAfter_nil, rowsAfter_one, packS, SV.shift, placeOf, enumE, List.zip_cons_cons, List.zip_nil_right, List.map_cons, List.map_nil, List.set_cons_zero, List.set_cons_succ, List.length_cons, List.length_nil, List.cons_append, List.nil_append, List.drop_succ_cons, List.drop_zero, List.drop_nil, List.take_succ_cons, List.take_zero, List.take_nil, List.getElem?_cons_zero, List.getElem?_cons_succ, List.getElem?_nil, Option.getD_some, Option.getD_none, Option.map_some, Option.map_none, Nat.reduceAdd, Nat.reduceSub, Nat.reduceEqDiff, Nat.zero_add, Bool.true_or, PV.scal, Bool.or_false, Bool.or_true, Bool.false_or, Bool.and_true, Bool.and_false, Bool.true_and, reduceIte, reduceCtorEq]); exact eq_refl _) ?_
            refine vc_seq fun K19 hK19 => ?_
            refine vc_seq fun K20 hK20 => ?_
            refine vc_region ?_
            refine vo_move_pv rfl rfl ?_
            refine vo_move_pv rfl rfl ?_
            refine vo_binI rfl rfl rfl rfl trivial ?_
            refine vo_nil ?_
            refine hK20 _ ?_
            refine vc_cond rfl (fun hc9 => ?_) (fun hc9 => ?_)
            · try simp only [decide_eq_true_eq, decide_eq_false_iff_not, beq_iff_eq, bne_iff_ne, beq_eq_false_iff_ne, bne_eq_false_iff_eq, Bool.not_eq_true, Bool.not_eq_false, Bool.not_eq_eq_eq_not, Bool.not_true, Bool.not_false, List.length_map, Int.not_lt, Int.not_le, ne_eq, Decidable.not_not] at hc9
              refine vc_skip ?_
              refine hK19 _ ?_
              refine vc_seq fun K21 hK21 => ?_
              refine vc_block ?_
              refine vc_seq fun K22 hK22 => ?_
              refine vc_draw (by kernel_rfl) ?_
              change VD _ _ _ 11 _ _ _
              refine vd_light 0 rfl rfl rfl (by kernel_rfl) (by kernel_rfl) (by kernel_rfl) (wnt_none rfl) (lt_move_ref rfl) ?_
              refine vd_light 1 rfl rfl rfl (by kernel_rfl) (by kernel_rfl) (by kernel_rfl) (wnt_none rfl) (lt_move_ref rfl) ?_
              refine vd_light 2 rfl rfl rfl (by kernel_rfl) (by kernel_rfl) (by kernel_rfl) (wnt_none rfl) (lt_move_pv rfl) ?_
              refine vd_light 3 rfl rfl rfl (by kernel_rfl) (by kernel_rfl) (by kernel_rfl) (wnt_none rfl) (lt_index_ref rfl rfl rfl E25.und inf3 sz3 (by first | omega | (simp only [List.length_map] <;> omega) | (simp only [List.length_map, List.length_set, List.length_append, List.length_cons, List.length_nil, List.length_replicate, List.length_take, List.length_drop] <;> omega) | (simp <;> omega) | (constructor <;> (first | omega | (simp <;> omega))) | (refine ⟨?_, ?_, ?_, ?_⟩ <;> omega) | exact ⟨xorI_nonneg _ _, by omega⟩ | decide) (by first | omega | (simp only [List.length_map] <;> omega) | (simp only [List.length_map, List.length_set, List.length_append, List.length_cons, List.length_nil, List.length_replicate, List.length_take, List.length_drop] <;> omega) | (simp <;> omega) | (constructor <;> (first | omega | (simp <;> omega))) | (refine ⟨?_, ?_, ?_, ?_⟩ <;> omega) | exact ⟨xorI_nonneg _ _, by omega⟩ | decide)) ?_
              try simp only [Int.toNat_natCast]
              refine vd_light 4 rfl rfl rfl (by kernel_rfl) (by kernel_rfl) (by kernel_rfl) (wnt_none rfl) (lt_load_own rfl rfl Try.underlying3 rfl (by first | omega | (simp only [List.length_map] <;> omega) | (simp only [List.length_map, List.length_set, List.length_append, List.length_cons, List.length_nil, List.length_replicate, List.length_take, List.length_drop] <;> omega) | (simp <;> omega) | (constructor <;> (first | omega | (simp <;> omega))) | (refine ⟨?_, ?_, ?_, ?_⟩ <;> omega) | exact ⟨xorI_nonneg _ _, by omega⟩ | decide) (getD_ints _ _) rfl) ?_
              try simp only [Int.toNat_natCast]
              refine vd_light 6 rfl rfl rfl (by kernel_rfl) (by kernel_rfl) (by kernel_rfl) (wnt_none rfl) (lt_move_ref rfl) ?_
              refine vd_light 7 rfl rfl rfl (by kernel_rfl) (by kernel_rfl) (by kernel_rfl) (wnt_none rfl) (lt_move_pv rfl) ?_
              refine vd_light 8 rfl rfl rfl (by kernel_rfl) (by kernel_rfl) (by kernel_rfl) (wnt_none rfl) (lt_index_ref rfl rfl rfl E25.und inf3 sz3 (by first | omega | (simp only [List.length_map] <;> omega) | (simp only [List.length_map, List.length_set, List.length_append, List.length_cons, List.length_nil, List.length_replicate, List.length_take, List.length_drop] <;> omega) | (simp <;> omega) | (constructor <;> (first | omega | (simp <;> omega))) | (refine ⟨?_, ?_, ?_, ?_⟩ <;> omega) | exact ⟨xorI_nonneg _ _, by omega⟩ | decide) (by first | omega | (simp only [List.length_map] <;> omega) | (simp only [List.length_map, List.length_set, List.length_append, List.length_cons, List.length_nil, List.length_replicate, List.length_take, List.length_drop] <;> omega) | (simp <;> omega) | (constructor <;> (first | omega | (simp <;> omega))) | (refine ⟨?_, ?_, ?_, ?_⟩ <;> omega) | exact ⟨xorI_nonneg _ _, by omega⟩ | decide)) ?_
              try simp only [Int.toNat_natCast]
              refine vd_light 9 rfl rfl rfl (by kernel_rfl) (by kernel_rfl) (by kernel_rfl) (wnt_none rfl) (lt_load_own rfl rfl Try.underlying3 rfl (by first | omega | (simp only [List.length_map] <;> omega) | (simp only [List.length_map, List.length_set, List.length_append, List.length_cons, List.length_nil, List.length_replicate, List.length_take, List.length_drop] <;> omega) | (simp <;> omega) | (constructor <;> (first | omega | (simp <;> omega))) | (refine ⟨?_, ?_, ?_, ?_⟩ <;> omega) | exact ⟨xorI_nonneg _ _, by omega⟩ | decide) (getD_ints _ _) rfl) ?_
              try simp only [Int.toNat_natCast]
              refine vd_callR 5 [] rfl rfl (by kernel_rfl) (wnt_none rfl) Try.func35 rfl rfl rfl rfl (implAboveOf_sat (c := ((orR B z).getD k 0)) (by omega) (lt3 h3)) rfl rfl rfl ?_
              rintro _ _ ⟨nl6, rfl, rfl⟩
              refine ⟨Nat.le_of_ble_eq_true rfl, ⟨rfl, rfl, rfl⟩, .inr ⟨rfl, rfl⟩, ?_⟩
              refine vd_st (by (try simp only [St.put, exposeE, killE, SV.expose, SV.kill, Row.expose, Row.kill, rowsAfter_nil, rowsAfter_one, packS, SV.shift, placeOf, enumE, List.zip_cons_cons, List.zip_nil_right, List.map_cons, List.map_nil, List.set_cons_zero, List.set_cons_succ, List.length_cons, List.length_nil, List.cons_append, List.nil_append, List.drop_succ_cons, List.drop_zero, List.drop_nil, List.take_succ_cons, List.take_zero, List.take_nil, List.getElem?_cons_zero, List.getElem?_cons_succ, List.getElem?_nil, Option.getD_some, Option.getD_none, Option.map_some, Option.map_none, Nat.reduceAdd, Nat.reduceSub, Nat.reduceEqDiff, Nat.zero_add, Bool.true_or, PV.scal, Bool.or_false, Bool.or_true, Bool.false_or, Bool.and_true, Bool.and_false, Bool.true_and, reduceIte, reduceCtorEq]); exact eq_refl _) ?_
              refine vd_call 10 rfl (by kernel_rfl) (wnt_none rfl) Try.func20 rfl rfl rfl rfl (isIn_sat (list := abvR B ((orR B z).getD k 0)) (abvR_len (by omega))) ?_
              rintro _ _ ⟨rfl, rfl⟩
              refine ⟨rfl, rfl, .inr rfl, ?_⟩
              refine vd_nil (by kernel_rfl) ?_
              refine hK22 _ ?_
              refine vc_cond rfl (fun hc10 => ?_) (fun hc10 => ?_)
              · try simp only [decide_eq_true_eq, decide_eq_false_iff_not, beq_iff_eq, bne_iff_ne, beq_eq_false_iff_ne, bne_eq_false_iff_eq, Bool.not_eq_true, Bool.not_eq_false, Bool.not_eq_eq_eq_not, Bool.not_true, Bool.not_false, List.length_map, Int.not_lt, Int.not_le, ne_eq, Decidable.not_not] at hc10
                refine vc_seq fun K23 hK23 => ?_
                refine vc_region ?_
                refine vo_assign_pv rfl rfl ?_
                refine vo_nil ?_
                refine hK23 _ ?_
                refine vc_ret ?_
                change retPv _ _ _ _ _
                refine retPv_mk rfl rfl rfl ⟨?_, rfl⟩
                first | rfl | exact absurd trivial (by assumption) | exact absurd rfl (by assumption) | (refine (congrArg (fun b => [bo b]) (?_ : _ = _) : [bo _] = [bo _]); exact decide_eq_true rfl) | exact absurd (by assumption) (ord_low hc6 (by omega) (by omega)) | exact absurd hS (by assumption) | exact absurd hLi (by assumption) | exact absurd hH (by assumption) | (refine (congrArg (fun b => [bo b]) (?_ : _ = _) : [bo _] = [bo _]); exact decide_eq_true hLa2)
              · try simp only [decide_eq_true_eq, decide_eq_false_iff_not, beq_iff_eq, bne_iff_ne, beq_eq_false_iff_ne, bne_eq_false_iff_eq, Bool.not_eq_true, Bool.not_eq_false, Bool.not_eq_eq_eq_not, Bool.not_true, Bool.not_false, List.length_map, Int.not_lt, Int.not_le, ne_eq, Decidable.not_not] at hc10
                refine vc_skip ?_
                refine hK21 _ ?_
                refine vc_region ?_
                refine vo_move_pv rfl rfl ?_
                refine vo_binI rfl rfl rfl rfl (by first | omega | (simp only [List.length_map] <;> omega) | (simp only [List.length_map, List.length_set, List.length_append, List.length_cons, List.length_nil, List.length_replicate, List.length_take, List.length_drop] <;> omega) | (simp <;> omega) | (constructor <;> (first | omega | (simp <;> omega))) | (refine ⟨?_, ?_, ?_, ?_⟩ <;> omega) | exact ⟨xorI_nonneg _ _, by omega⟩ | decide) ?_
                refine vo_assign_pv rfl rfl ?_
                refine vo_nil ?_
                change againF _ _ _ _ _ _ _ _ _
                refine againF_mk rfl rfl rfl rfl rfl rfl ⟨_, ?_, j + 1, rfl, ?_, rfl⟩
                · omega
                · omega
            · try simp only [decide_eq_true_eq, decide_eq_false_iff_not, beq_iff_eq, bne_iff_ne, beq_eq_false_iff_ne, bne_eq_false_iff_eq, Bool.not_eq_true, Bool.not_eq_false, Bool.not_eq_eq_eq_not, Bool.not_true, Bool.not_false, List.length_map, Int.not_lt, Int.not_le, ne_eq, Decidable.not_not] at hc9
              refine vc_exit ?_
              refine hK17 _ ?_
              refine vc_region ?_
              refine vo_move_pv rfl rfl ?_
              refine vo_binI rfl rfl rfl rfl (by first | omega | (simp only [List.length_map] <;> omega) | (simp only [List.length_map, List.length_set, List.length_append, List.length_cons, List.length_nil, List.length_replicate, List.length_take, List.length_drop] <;> omega) | (simp <;> omega) | (constructor <;> (first | omega | (simp <;> omega))) | (refine ⟨?_, ?_, ?_, ?_⟩ <;> omega) | exact ⟨xorI_nonneg _ _, by omega⟩ | decide) ?_
              refine vo_assign_pv rfl rfl ?_
              refine vo_nil ?_
              change againF _ _ _ _ _ _ _ _ _
              refine againF_mk rfl rfl rfl rfl rfl rfl ⟨_, ?_, k + 1, rfl, ?_, rfl⟩
              · omega
              · omega
          · try simp only [decide_eq_true_eq, decide_eq_false_iff_not, beq_iff_eq, bne_iff_ne, beq_eq_false_iff_ne, bne_eq_false_iff_eq, Bool.not_eq_true, Bool.not_eq_false, Bool.not_eq_eq_eq_not, Bool.not_true, Bool.not_false, List.length_map, Int.not_lt, Int.not_le, ne_eq, Decidable.not_not] at hc8
            refine vc_exit ?_
            refine hK13 _ ?_
            refine vc_seq fun K24 hK24 => ?_
            refine vc_region ?_
            refine vo_move_ref rfl rfl ?_
            refine vo_move_ref rfl rfl ?_
            refine vo_len_ref rfl rfl rfl Try.underlying23 ?_
            refine vo_call [] Try.func36 rfl rfl rfl rfl rfl rfl rfl (sorted_sat (list := orR B z) (n := (B.map ints).length) orR_len (by rw [List.length_map]; omega)) ?_
            rintro _ _ ⟨nl5, rfl, rfl⟩
            refine ⟨Nat.le_of_ble_eq_true rfl, ⟨rfl, rfl, rfl⟩, .inr ⟨rfl, rfl⟩, ?_⟩
            refine vo_st (by (try simp only [St.put, exposeE, killE, SV.expose, SV.kill, Row.expose, Row.kill, rowsAfter_nil, rowsAfter_one, packS, SV.shift, placeOf, enumE, List.zip_cons_cons, List.zip_nil_right, List.map_cons, List.map_nil, List.set_cons_zero, List.set_cons_succ, List.length_cons, List.length_nil, List.cons_append, List.nil_append, List.drop_succ_cons, List.drop_zero, List.drop_nil, List.take_succ_cons, List.take_zero, List.take_nil, List.getElem?_cons_zero, List.getElem?_cons_succ, List.getElem?_nil, Option.getD_some, Option.getD_none, Option.map_some, Option.map_none, Nat.reduceAdd, Nat.reduceSub, Nat.reduceEqDiff, Nat.zero_add, Bool.true_or, PV.scal, Bool.or_false, Bool.or_true, Bool.false_or, Bool.and_true, Bool.and_false, Bool.true_and, reduceIte, reduceCtorEq]); exact eq_refl _) ?_
            refine vo_move_ref rfl rfl ?_
            refine vo_move_pv rfl rfl ?_
            refine vo_call [] Try.func35 rfl rfl rfl rfl rfl rfl rfl (implAboveOf_sat (c := z) (by omega) (lt3 h3)) ?_
            rintro _ _ ⟨nl6, rfl, rfl⟩
            refine ⟨Nat.le_of_ble_eq_true rfl, ⟨rfl, rfl, rfl⟩, .inr ⟨rfl, rfl⟩, ?_⟩
            refine vo_st (by (try simp only [St.put, exposeE, killE, SV.expose, SV.kill, Row.expose, Row.kill, rowsAfter_nil, rowsAfter_one, packS, SV.shift, placeOf, enumE, List.zip_cons_cons, List.zip_nil_right, List.map_cons, List.map_nil, List.set_cons_zero, List.set_cons_succ, List.length_cons, List.length_nil, List.cons_append, List.nil_append, List.drop_succ_cons, List.drop_zero, List.drop_nil, List.take_succ_cons, List.take_zero, List.take_nil, List.getElem?_cons_zero, List.getElem?_cons_succ, List.getElem?_nil, Option.getD_some, Option.getD_none, Option.map_some, Option.map_none, Nat.reduceAdd, Nat.reduceSub, Nat.reduceEqDiff, Nat.zero_add, Bool.true_or, PV.scal, Bool.or_false, Bool.or_true, Bool.false_or, Bool.and_true, Bool.and_false, Bool.true_and, reduceIte, reduceCtorEq]); exact eq_refl _) ?_
            refine vo_call0 Try.func18 rfl rfl rfl rfl (equalInts_sat (a := srtL (orR B z) (B.map ints).length) (b := abvR B z) (Nat.lt_of_le_of_lt (srt_len _ _) (by rw [List.length_map]; omega)) (abvR_len (by omega))) ?_
            rintro _ _ ⟨rfl, rfl⟩
            refine ⟨rfl, rfl, .inr rfl, ?_⟩
            refine vo_move_pv rfl rfl ?_
            refine vo_split 82 rfl (fun hg11 => ?_) (fun hg11 => ?_)
            · try simp only [decide_eq_true_eq, decide_eq_false_iff_not, beq_iff_eq, bne_iff_ne, beq_eq_false_iff_ne, bne_eq_false_iff_eq, Bool.not_eq_true, Bool.not_eq_false, Bool.not_eq_eq_eq_not, Bool.not_true, Bool.not_false, List.length_map, Int.not_lt, Int.not_le, ne_eq, Decidable.not_not] at hg11
              refine vo_guard_on rfl rfl rfl ?_
              refine vo_move_ref rfl rfl ?_
              refine vo_guard_on rfl rfl rfl ?_
              refine vo_len_ref rfl rfl rfl Try.underlying25 ?_
              refine vo_guard_on rfl rfl rfl ?_
              refine vo_move_ref rfl rfl ?_
              refine vo_guard_on rfl rfl rfl ?_
              refine vo_move_pv rfl rfl ?_
              refine vo_guard_on rfl rfl rfl ?_
              refine vo_call [] Try.func35 rfl rfl rfl rfl rfl rfl rfl (implAboveOf_sat (c := z) (by omega) (lt3 h3)) ?_
              rintro _ _ ⟨nl6, rfl, rfl⟩
              refine ⟨Nat.le_of_ble_eq_true rfl, ⟨rfl, rfl, rfl⟩, .inr ⟨rfl, rfl⟩, ?_⟩
              refine vo_st (by (try simp only [St.put, exposeE, killE, SV.expose, SV.kill, Row.expose, Row.kill, rowsAfter_nil, rowsAfter_one, packS, SV.shift, placeOf, enumE, List.zip_cons_cons, List.zip_nil_right, List.map_cons, List.map_nil, List.set_cons_zero, List.set_cons_succ, List.length_cons, List.length_nil, List.cons_append, List.nil_append, List.drop_succ_cons, List.drop_zero, List.drop_nil, List.take_succ_cons, List.take_zero, List.take_nil, List.getElem?_cons_zero, List.getElem?_cons_succ, List.getElem?_nil, Option.getD_some, Option.getD_none, Option.map_some, Option.map_none, Nat.reduceAdd, Nat.reduceSub, Nat.reduceEqDiff, Nat.zero_add, Bool.true_or, PV.scal, Bool.or_false, Bool.or_true, Bool.false_or, Bool.and_true, Bool.and_false, Bool.true_and, reduceIte, reduceCtorEq]); exact eq_refl _) ?_
              refine vo_guard_on rfl rfl rfl ?_
              refine vo_len_ref rfl rfl rfl Try.underlying25 ?_
              refine vo_guard_on rfl rfl rfl ?_
              refine vo_binI rfl rfl rfl rfl trivial ?_
              refine vo_pick_t rfl rfl ?_
              refine vo_move_pv rfl rfl ?_
              refine vo_split 91 rfl (fun hg12 => ?_) (fun hg12 => ?_)
              · try simp only [decide_eq_true_eq, decide_eq_false_iff_not, beq_iff_eq, bne_iff_ne, beq_eq_false_iff_ne, bne_eq_false_iff_eq, Bool.not_eq_true, Bool.not_eq_false, Bool.not_eq_eq_eq_not, Bool.not_true, Bool.not_false, List.length_map, Int.not_lt, Int.not_le, ne_eq, Decidable.not_not] at hg12
                refine vo_guard_on rfl rfl rfl ?_
                refine vo_move_ref rfl rfl ?_
                refine vo_guard_on rfl rfl rfl ?_
                refine vo_index_ref rfl rfl rfl rfl E25.und inf3 sz3 (by first | omega | (simp only [List.length_map] <;> omega) | (simp only [List.length_map, List.length_set, List.length_append, List.length_cons, List.length_nil, List.length_replicate, List.length_take, List.length_drop] <;> omega) | (simp <;> omega) | (constructor <;> (first | omega | (simp <;> omega))) | (refine ⟨?_, ?_, ?_, ?_⟩ <;> omega) | exact ⟨xorI_nonneg _ _, by omega⟩ | decide) (by first | omega | (simp only [List.length_map] <;> omega) | (simp only [List.length_map, List.length_set, List.length_append, List.length_cons, List.length_nil, List.length_replicate, List.length_take, List.length_drop] <;> omega) | (simp <;> omega) | (constructor <;> (first | omega | (simp <;> omega))) | (refine ⟨?_, ?_, ?_, ?_⟩ <;> omega) | exact ⟨xorI_nonneg _ _, by omega⟩ | decide) ?_
                try simp only [Int.toNat_natCast]
                refine vo_guard_on rfl rfl rfl ?_
                refine vo_load_own rfl rfl rfl Try.underlying3 rfl (by first | omega | (simp only [List.length_map] <;> omega) | (simp only [List.length_map, List.length_set, List.length_append, List.length_cons, List.length_nil, List.length_replicate, List.length_take, List.length_drop] <;> omega) | (simp <;> omega) | (constructor <;> (first | omega | (simp <;> omega))) | (refine ⟨?_, ?_, ?_, ?_⟩ <;> omega) | exact ⟨xorI_nonneg _ _, by omega⟩ | decide) (getD_ints _ _) rfl ?_
                try simp only [Int.toNat_natCast]
                refine vo_guard_on rfl rfl rfl ?_
                refine vo_move_pv rfl rfl ?_
                refine vo_guard_on rfl rfl rfl ?_
                refine vo_binI rfl rfl rfl rfl trivial ?_
                refine vo_pick_t rfl rfl ?_
                refine vo_move_pv rfl rfl ?_
                refine vo_split 98 rfl (fun hg13 => ?_) (fun hg13 => ?_)
                · try simp only [decide_eq_true_eq, decide_eq_false_iff_not, beq_iff_eq, bne_iff_ne, beq_eq_false_iff_ne, bne_eq_false_iff_eq, Bool.not_eq_true, Bool.not_eq_false, Bool.not_eq_eq_eq_not, Bool.not_true, Bool.not_false, List.length_map, Int.not_lt, Int.not_le, ne_eq, Decidable.not_not] at hg13
                  refine vo_guard_on rfl rfl rfl ?_
                  refine vo_move_ref rfl rfl ?_
                  refine vo_guard_on rfl rfl rfl ?_
                  refine vo_move_ref rfl rfl ?_
                  refine vo_guard_on rfl rfl rfl ?_
                  refine vo_len_ref rfl rfl rfl Try.underlying25 ?_
                  refine vo_guard_on rfl rfl rfl ?_
                  refine vo_binI rfl rfl rfl rfl (by first | omega | (simp only [List.length_map] <;> omega) | (simp only [List.length_map, List.length_set, List.length_append, List.length_cons, List.length_nil, List.length_replicate, List.length_take, List.length_drop] <;> omega) | (simp <;> omega) | (constructor <;> (first | omega | (simp <;> omega))) | (refine ⟨?_, ?_, ?_, ?_⟩ <;> omega) | exact ⟨xorI_nonneg _ _, by omega⟩ | decide) ?_
                  refine vo_guard_on rfl rfl rfl ?_
                  refine vo_index_ref rfl rfl rfl rfl E25.und inf3 sz3 (by first | omega | (simp only [List.length_map] <;> omega) | (simp only [List.length_map, List.length_set, List.length_append, List.length_cons, List.length_nil, List.length_replicate, List.length_take, List.length_drop] <;> omega) | (simp <;> omega) | (constructor <;> (first | omega | (simp <;> omega))) | (refine ⟨?_, ?_, ?_, ?_⟩ <;> omega) | exact ⟨xorI_nonneg _ _, by omega⟩ | decide) (by first | omega | (simp only [List.length_map] <;> omega) | (simp only [List.length_map, List.length_set, List.length_append, List.length_cons, List.length_nil, List.length_replicate, List.length_take, List.length_drop] <;> omega) | (simp <;> omega) | (constructor <;> (first | omega | (simp <;> omega))) | (refine ⟨?_, ?_, ?_, ?_⟩ <;> omega) | exact ⟨xorI_nonneg _ _, by omega⟩ | decide) ?_
                  try simp only [Int.toNat_natCast]
                  refine vo_guard_on rfl rfl rfl ?_
                  refine vo_load_own rfl rfl rfl Try.underlying3 rfl (by first | omega | (simp only [List.length_map] <;> omega) | (simp only [List.length_map, List.length_set, List.length_append, List.length_cons, List.length_nil, List.length_replicate, List.length_take, List.length_drop] <;> omega) | (simp <;> omega) | (constructor <;> (first | omega | (simp <;> omega))) | (refine ⟨?_, ?_, ?_, ?_⟩ <;> omega) | exact ⟨xorI_nonneg _ _, by omega⟩ | decide) (getD_ints _ _) rfl ?_
                  try simp only [Int.toNat_natCast]
                  refine vo_guard_on rfl rfl rfl ?_
                  refine vo_binI rfl rfl rfl rfl trivial ?_
                  refine vo_pick_t rfl rfl ?_
                  refine vo_assign_pv rfl rfl ?_
                  refine vo_nil ?_
                  refine hK24 _ ?_
                  refine vc_ret ?_
                  change retPv _ _ _ _ _
                  refine retPv_mk rfl rfl rfl ⟨?_, rfl⟩
                  first | rfl | exact absurd trivial (by assumption) | exact absurd rfl (by assumption) | (refine (congrArg (fun b => [bo b]) (?_ : _ = _) : [bo _] = [bo _]); exact decide_eq_true rfl) | exact absurd (by assumption) (ord_low hc6 (by omega) (by omega)) | exact absurd hS (by assumption) | exact absurd hLi (by assumption) | exact absurd hH (by assumption) | (refine (congrArg (fun b => [bo b]) (?_ : _ = _) : [bo _] = [bo _]); exact decide_eq_true hLa2)
                · try simp only [decide_eq_true_eq, decide_eq_false_iff_not, beq_iff_eq, bne_iff_ne, beq_eq_false_iff_ne, bne_eq_false_iff_eq, Bool.not_eq_true, Bool.not_eq_false, Bool.not_eq_eq_eq_not, Bool.not_true, Bool.not_false, List.length_map, Int.not_lt, Int.not_le, ne_eq, Decidable.not_not] at hg13
                  refine vo_guard_off rfl rfl rfl rfl rfl ?_
                  refine vo_guard_off rfl rfl rfl rfl rfl ?_
                  refine vo_guard_off rfl rfl rfl rfl rfl ?_
                  refine vo_guard_off rfl rfl rfl rfl rfl ?_
                  refine vo_guard_off rfl rfl rfl rfl rfl ?_
                  refine vo_guard_off rfl rfl rfl rfl rfl ?_
                  refine vo_guard_off rfl rfl rfl rfl rfl ?_
                  refine vo_pick_f rfl rfl ?_
                  refine vo_assign_pv rfl rfl ?_
                  refine vo_nil ?_
                  refine hK24 _ ?_
                  refine vc_ret ?_
                  change retPv _ _ _ _ _
                  refine retPv_mk rfl rfl rfl ⟨?_, rfl⟩
                  first | rfl | exact absurd trivial (by assumption) | exact absurd rfl (by assumption) | (refine (congrArg (fun b => [bo b]) (?_ : _ = _) : [bo _] = [bo _]); exact decide_eq_true rfl) | exact absurd (by assumption) (ord_low hc6 (by omega) (by omega)) | exact absurd hS (by assumption) | exact absurd hLi (by assumption) | exact absurd hH (by assumption) | (refine (congrArg (fun b => [bo b]) (?_ : _ = _) : [bo _] = [bo _]); exact decide_eq_true hLa2)
              · try simp only [decide_eq_true_eq, decide_eq_false_iff_not, beq_iff_eq, bne_iff_ne, beq_eq_false_iff_ne, bne_eq_false_iff_eq, Bool.not_eq_true, Bool.not_eq_false, Bool.not_eq_eq_eq_not, Bool.not_true, Bool.not_false, List.length_map, Int.not_lt, Int.not_le, ne_eq, Decidable.not_not] at hg12
                refine vo_guard_off rfl rfl rfl rfl rfl ?_
                refine vo_guard_off rfl rfl rfl rfl rfl ?_
                refine vo_guard_off rfl rfl rfl rfl rfl ?_
                refine vo_guard_off rfl rfl rfl rfl rfl ?_
                refine vo_guard_off rfl rfl rfl rfl rfl ?_
                refine vo_pick_f rfl rfl ?_
                refine vo_move_pv rfl rfl ?_
                refine vo_guard_off rfl rfl rfl rfl rfl ?_
                refine vo_guard_off rfl rfl rfl rfl rfl ?_
                refine vo_guard_off rfl rfl rfl rfl rfl ?_
                refine vo_guard_off rfl rfl rfl rfl rfl ?_
                refine vo_guard_off rfl rfl rfl rfl rfl ?_
                refine vo_guard_off rfl rfl rfl rfl rfl ?_
                refine vo_guard_off rfl rfl rfl rfl rfl ?_
                refine vo_pick_f rfl rfl ?_
                refine vo_assign_pv rfl rfl ?_
                refine vo_nil ?_
                refine hK24 _ ?_
                refine vc_ret ?_
                change retPv _ _ _ _ _
                refine retPv_mk rfl rfl rfl ⟨?_, rfl⟩
                first | rfl | exact absurd trivial (by assumption) | exact absurd rfl (by assumption) | (refine (congrArg (fun b => [bo b]) (?_ : _ = _) : [bo _] = [bo _]); exact decide_eq_true rfl) | exact absurd (by assumption) (ord_low hc6 (by omega) (by omega)) | exact absurd hS (by assumption) | exact absurd hLi (by assumption) | exact absurd hH (by assumption) | (refine (congrArg (fun b => [bo b]) (?_ : _ = _) : [bo _] = [bo _]); exact decide_eq_true hLa2)
            · try simp only [decide_eq_true_eq, decide_eq_false_iff_not, beq_iff_eq, bne_iff_ne, beq_eq_false_iff_ne, bne_eq_false_iff_eq, Bool.not_eq_true, Bool.not_eq_false, Bool.not_eq_eq_eq_not, Bool.not_true, Bool.not_false, List.length_map, Int.not_lt, Int.not_le, ne_eq, Decidable.not_not] at hg11
              refine vo_guard_off rfl rfl rfl rfl rfl ?_
              refine vo_guard_off rfl rfl rfl rfl rfl ?_
              refine vo_guard_off rfl rfl rfl rfl rfl ?_
              refine vo_guard_off rfl rfl rfl rfl rfl ?_
              refine vo_guard_off rfl rfl rfl rfl rfl ?_
              refine vo_guard_off rfl rfl rfl rfl rfl ?_
              refine vo_guard_off rfl rfl rfl rfl rfl ?_
              refine vo_pick_f rfl rfl ?_
              refine vo_move_pv rfl rfl ?_
              refine vo_guard_off rfl rfl rfl rfl rfl ?_
              refine vo_guard_off rfl rfl rfl rfl rfl ?_
              refine vo_guard_off rfl rfl rfl rfl rfl ?_
              refine vo_guard_off rfl rfl rfl rfl rfl ?_
              refine vo_guard_off rfl rfl rfl rfl rfl ?_
              refine vo_pick_f rfl rfl ?_
              refine vo_move_pv rfl rfl ?_
              refine vo_guard_off rfl rfl rfl rfl rfl ?_
              refine vo_guard_off rfl rfl rfl rfl rfl ?_
              refine vo_guard_off rfl rfl rfl rfl rfl ?_
              refine vo_guard_off rfl rfl rfl rfl rfl ?_
              refine vo_guard_off rfl rfl rfl rfl rfl ?_
              refine vo_guard_off rfl rfl rfl rfl rfl ?_
              refine vo_guard_off rfl rfl rfl rfl rfl ?_
              refine vo_pick_f rfl rfl ?_
              refine vo_assign_pv rfl rfl ?_
              refine vo_nil ?_
              refine hK24 _ ?_
              refine vc_ret ?_
              change retPv _ _ _ _ _
              refine retPv_mk rfl rfl rfl ⟨?_, rfl⟩
              first | rfl | exact absurd trivial (by assumption) | exact absurd rfl (by assumption) | (refine (congrArg (fun b => [bo b]) (?_ : _ = _) : [bo _] = [bo _]); exact decide_eq_true rfl) | exact absurd (by assumption) (ord_low hc6 (by omega) (by omega)) | exact absurd hS (by assumption) | exact absurd hLi (by assumption) | exact absurd hH (by assumption) | (refine (congrArg (fun b => [bo b]) (?_ : _ = _) : [bo _] = [bo _]); exact decide_eq_true hLa2)

end Go.Vl

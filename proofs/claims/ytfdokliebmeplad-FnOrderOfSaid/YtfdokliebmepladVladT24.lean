import Derived.Test.YtfdokliebmepladVladT23
import Derived.Test.YtfdokliebmepladVladT9
namespace Go.Vl
set_option linter.unusedVariables false
set_option linter.unusedSimpArgs false
open Go.Proofs
theorem getD_take {b : List (List Int)} {k i : Nat} (h : i < k) : (b.take k).getD i [] = b.getD i [] := by
  simp only [List.getD, List.getElem?_take]
  rw [if_pos h]
theorem ordT_take {b : List (List Int)} {k : Nat} : ∀ n, n ≤ k → ordT (b.take k) n = ordT b n
  | 0, _ => rfl
  | n+1, h => by rw [ordT, ordT, ordT_take n (by omega), getD_take (by omega)]
theorem orOK_take {b : List (List Int)} {c : Int} (h : orOK b c) : orOK (b.take (c+1).toNat) c ∧ orR (b.take (c+1).toNat) c = orR b c := by
  have h1 := h.1
  have e : ordM (b.take (c+1).toNat) c.toNat = ordM b c.toNat := by
    unfold ordM
    rw [ordT_take _ (by omega), getD_take (by omega)]
  have h2 : orOK (b.take (c+1).toNat) c := ⟨⟨h1.1.take (by omega) (by omega), h1.2.1, by rw [List.length_take]; omega⟩, by rw [e]; exact h.2⟩
  exact ⟨h2, by rw [orR_yes h2, orR_yes h, e]⟩
theorem take_lens {b : List (List Int)} {N k : Nat} (h : ∀ l ∈ b, l.length < N) : ∀ l ∈ b.take k, l.length < N := fun l hl => h l (List.mem_of_mem_take hl)

theorem FnOrderOfSame_sat {nl : Option Bool} {c : List (Fin 256)} : SatAt Try.prog 11 [.pv false (.sl nl 1 (c.map byteP))] [] (fun res rows => res = [bo true] ∧ rows = []) := by
  refine sat_entry (ts := [2]) Try.func11 rfl rfl (by decide) (Nat.le_of_ble_eq_true rfl) fun C hC => ?_
  rw [Try.ntmps11]
  replace hC : C.nb = 0 := hC
  refine vc_seq fun K1 hK1 => ?_
  refine vc_region ?_
  refine vo_assign_pv rfl rfl ?_
  refine vo_nil ?_
  refine hK1 _ ?_
  refine vc_seq fun K2 hK2 => ?_
  refine vc_seq fun K3 hK3 => ?_
  refine vc_region ?_
  refine vo_move_pv rfl rfl ?_
  refine vo_len_pv rfl rfl Try.underlying22 ?_
  refine vo_binI rfl rfl rfl rfl trivial ?_
  refine vo_nil ?_
  refine hK3 _ ?_
  refine vc_cond rfl (fun hc1 => ?_) (fun hc1 => ?_)
  · try simp only [decide_eq_true_eq, decide_eq_false_iff_not, beq_iff_eq, bne_iff_ne, beq_eq_false_iff_ne, bne_eq_false_iff_eq, Bool.not_eq_true, Bool.not_eq_false, Bool.not_eq_eq_eq_not, Bool.not_true, Bool.not_false, List.length_map, Int.not_lt, Int.not_le, ne_eq, Decidable.not_not] at hc1
    refine vc_seq fun K4 hK4 => ?_
    refine vc_region ?_
    refine vo_assign_pv rfl rfl ?_
    refine vo_nil ?_
    refine hK4 _ ?_
    refine vc_ret ?_
    change retPv _ _ _ _ _
    refine retPv_mk rfl rfl rfl ⟨?_, rfl⟩
    rfl
  · try simp only [decide_eq_true_eq, decide_eq_false_iff_not, beq_iff_eq, bne_iff_ne, beq_eq_false_iff_ne, bne_eq_false_iff_eq, Bool.not_eq_true, Bool.not_eq_false, Bool.not_eq_eq_eq_not, Bool.not_true, Bool.not_false, List.length_map, Int.not_lt, Int.not_le, ne_eq, Decidable.not_not] at hc1
    refine vc_skip ?_
    refine hK2 _ ?_
    refine vc_seq fun K5 hK5 => ?_
    refine vc_region ?_
    refine vo_move_pv rfl rfl ?_
    refine vo_call [] Try.func32 rfl rfl rfl rfl rfl rfl rfl (DrawOrderOf_sat (by omega)) ?_
    rintro _ _ ⟨B, z, f, ⟨h1, h2, h3, h5, h6⟩, rfl, rfl⟩
    refine ⟨Nat.le_of_ble_eq_true rfl, ⟨rfl, rfl, rfl⟩, .inl rfl, ?_⟩
    refine vo_st (by (try simp only [St.put, exposeE, killE, SV.expose, SV.kill, Row.expose, Row.kill, rowsAfter_nil, rowsAfter_one, packS, SV.shift, placeOf, enumE, List.zip_cons_cons, List.zip_nil_right, List.map_cons, List.map_nil, List.set_cons_zero, List.set_cons_succ, List.length_cons, List.length_nil, List.cons_append, List.nil_append, List.drop_succ_cons, List.drop_zero, List.drop_nil, List.take_succ_cons, List.take_zero, List.take_nil, List.getElem?_cons_zero, List.getElem?_cons_succ, List.getElem?_nil, Option.getD_some, Option.getD_none, Option.map_some, Option.map_none, Nat.reduceAdd, Nat.reduceSub, Nat.reduceEqDiff, Nat.zero_add, Bool.true_or, PV.scal, Bool.or_false, Bool.or_true, Bool.false_or, Bool.and_true, Bool.and_false, Bool.true_and, reduceIte, reduceCtorEq]); exact eq_refl _) ?_
    refine vo_move rfl ?_
    refine vo_extract rfl rfl rfl ?_
    refine vo_extract rfl rfl rfl ?_
    refine vo_assign_ref rfl rfl ?_
    refine vo_assign_pv rfl rfl ?_
    refine vo_nil ?_
    refine hK5 _ ?_
    refine vc_seq fun K6 hK6 => ?_
    refine vc_region ?_
    refine vo_move_ref rfl rfl ?_
    refine vo_move_pv rfl rfl ?_
    refine vo_call [] Try.func33 rfl rfl rfl rfl rfl rfl rfl (implOrderOf_sat (bases := B) (c := z) (by omega) (lt3 h3)) ?_
    rintro _ _ ⟨R1, nl7, rfl, rfl⟩
    refine ⟨Nat.le_of_ble_eq_true rfl, ⟨rfl, rfl, rfl⟩, .inr ⟨rfl, rfl⟩, ?_⟩
    refine vo_st (by (try simp only [St.put, exposeE, killE, SV.expose, SV.kill, Row.expose, Row.kill, rowsAfter_nil, rowsAfter_one, packS, SV.shift, placeOf, enumE, List.zip_cons_cons, List.zip_nil_right, List.map_cons, List.map_nil, List.set_cons_zero, List.set_cons_succ, List.length_cons, List.length_nil, List.cons_append, List.nil_append, List.drop_succ_cons, List.drop_zero, List.drop_nil, List.take_succ_cons, List.take_zero, List.take_nil, List.getElem?_cons_zero, List.getElem?_cons_succ, List.getElem?_nil, Option.getD_some, Option.getD_none, Option.map_some, Option.map_none, Nat.reduceAdd, Nat.reduceSub, Nat.reduceEqDiff, Nat.zero_add, Bool.true_or, PV.scal, Bool.or_false, Bool.or_true, Bool.false_or, Bool.and_true, Bool.and_false, Bool.true_and, reduceIte, reduceCtorEq]); exact eq_refl _) ?_
    refine vo_move rfl ?_
    refine vo_extract rfl rfl rfl ?_
    refine vo_extract rfl rfl rfl ?_
    refine vo_assign_ref rfl rfl ?_
    refine vo_assign_pv rfl rfl ?_
    refine vo_nil ?_
    refine hK6 _ ?_
    refine vc_seq fun K7 hK7 => ?_
    refine vc_region ?_
    refine vo_move_ref rfl rfl ?_
    refine vo_move_pv rfl rfl ?_
    refine vo_call [] Try.func34 rfl rfl rfl rfl rfl rfl rfl (specOrderOf_sat (c := z) (by omega) (lt3 h3)) ?_
    rintro _ _ ⟨nl8, rfl, rfl⟩
    refine ⟨Nat.le_of_ble_eq_true rfl, ⟨rfl, rfl, rfl⟩, .inr ⟨rfl, rfl⟩, ?_⟩
    refine vo_st (by (try simp only [St.put, exposeE, killE, SV.expose, SV.kill, Row.expose, Row.kill, rowsAfter_nil, rowsAfter_one, packS, SV.shift, placeOf, enumE, List.zip_cons_cons, List.zip_nil_right, List.map_cons, List.map_nil, List.set_cons_zero, List.set_cons_succ, List.length_cons, List.length_nil, List.cons_append, List.nil_append, List.drop_succ_cons, List.drop_zero, List.drop_nil, List.take_succ_cons, List.take_zero, List.take_nil, List.getElem?_cons_zero, List.getElem?_cons_succ, List.getElem?_nil, Option.getD_some, Option.getD_none, Option.map_some, Option.map_none, Nat.reduceAdd, Nat.reduceSub, Nat.reduceEqDiff, Nat.zero_add, Bool.true_or, PV.scal, Bool.or_false, Bool.or_true, Bool.false_or, Bool.and_true, Bool.and_false, Bool.true_and, reduceIte, reduceCtorEq]); exact eq_refl _) ?_
    refine vo_move rfl ?_
    refine vo_extract rfl rfl rfl ?_
    refine vo_extract rfl rfl rfl ?_
    refine vo_assign_ref rfl rfl ?_
    refine vo_assign_pv rfl rfl ?_
    refine vo_nil ?_
    refine hK7 _ ?_
    refine vc_seq fun K8 hK8 => ?_
    refine vc_seq fun K9 hK9 => ?_
    refine vc_region ?_
    refine vo_move_ref rfl rfl ?_
    refine vo_move_ref rfl rfl ?_
    refine vo_call0 Try.func18 rfl rfl rfl rfl (equalInts_sat (a := orR B z) (b := orR B z) orR_len orR_len) ?_
    rintro _ _ ⟨rfl, rfl⟩
    refine ⟨rfl, rfl, .inr rfl, ?_⟩
    refine vo_not rfl rfl ?_
    refine vo_move_pv rfl rfl ?_
    refine vo_split 35 rfl (fun hg2 => ?_) (fun hg2 => ?_)
    · try simp only [decide_eq_true_eq, decide_eq_false_iff_not, beq_iff_eq, bne_iff_ne, beq_eq_false_iff_ne, bne_eq_false_iff_eq, Bool.not_eq_true, Bool.not_eq_false, Bool.not_eq_eq_eq_not, Bool.not_true, Bool.not_false, List.length_map, Int.not_lt, Int.not_le, ne_eq, Decidable.not_not] at hg2
      refine vo_guard_off rfl rfl rfl rfl rfl ?_
      refine vo_guard_off rfl rfl rfl rfl rfl ?_
      refine vo_guard_off rfl rfl rfl rfl rfl ?_
      refine vo_pick_t rfl rfl ?_
      refine vo_move_pv rfl rfl ?_
      refine vo_guard_off rfl rfl rfl rfl rfl ?_
      refine vo_guard_off rfl rfl rfl rfl rfl ?_
      refine vo_pick_t rfl rfl ?_
      refine vo_nil ?_
      refine hK9 _ ?_
      refine vc_cond_t rfl ?_
      refine vc_seq fun K10 hK10 => ?_
      refine vc_region ?_
      refine vo_move_ref rfl rfl ?_
      refine vo_move_ref rfl rfl ?_
      refine vo_call0 Try.func18 rfl rfl rfl rfl (equalInts_sat (a := orR B z) (b := orR B z) orR_len orR_len) ?_
      rintro _ _ ⟨rfl, rfl⟩
      refine ⟨rfl, rfl, .inr rfl, ?_⟩
      refine vo_move_pv rfl rfl ?_
      refine vo_split 47 rfl (fun hg3 => ?_) (fun hg3 => ?_)
      · try simp only [decide_eq_true_eq, decide_eq_false_iff_not, beq_iff_eq, bne_iff_ne, beq_eq_false_iff_ne, bne_eq_false_iff_eq, Bool.not_eq_true, Bool.not_eq_false, Bool.not_eq_eq_eq_not, Bool.not_true, Bool.not_false, List.length_map, Int.not_lt, Int.not_le, ne_eq, Decidable.not_not] at hg3
        refine vo_guard_on rfl rfl rfl ?_
        refine vo_move_pv rfl rfl ?_
        refine vo_guard_on rfl rfl rfl ?_
        refine vo_move_pv rfl rfl ?_
        refine vo_guard_on rfl rfl rfl ?_
        refine vo_binB rfl rfl rfl rfl Try.underlying4 ?_
        refine vo_pick_t rfl rfl ?_
        refine vo_assign_pv rfl rfl ?_
        refine vo_nil ?_
        refine hK10 _ ?_
        refine vc_ret ?_
        change retPv _ _ _ _ _
        refine retPv_mk rfl rfl rfl ⟨?_, rfl⟩
        first | rfl | exact absurd trivial (by assumption) | exact absurd rfl (by assumption) | exact (hg8 hT.1).elim | (refine (congrArg (fun b => [bo b]) (?_ : _ = _) : [bo _] = [bo _]); exact decide_eq_true hT.2) | (refine (congrArg (fun b => [bo b]) (?_ : _ = _) : [bo _] = [bo _]); exact decide_eq_true rfl)
      · try simp only [decide_eq_true_eq, decide_eq_false_iff_not, beq_iff_eq, bne_iff_ne, beq_eq_false_iff_ne, bne_eq_false_iff_eq, Bool.not_eq_true, Bool.not_eq_false, Bool.not_eq_eq_eq_not, Bool.not_true, Bool.not_false, List.length_map, Int.not_lt, Int.not_le, ne_eq, Decidable.not_not] at hg3
        refine vo_guard_off rfl rfl rfl rfl rfl ?_
        refine vo_guard_off rfl rfl rfl rfl rfl ?_
        refine vo_guard_off rfl rfl rfl rfl rfl ?_
        refine vo_pick_f rfl rfl ?_
        refine vo_assign_pv rfl rfl ?_
        refine vo_nil ?_
        refine hK10 _ ?_
        refine vc_ret ?_
        change retPv _ _ _ _ _
        refine retPv_mk rfl rfl rfl ⟨?_, rfl⟩
        first | rfl | exact absurd trivial (by assumption) | exact absurd rfl (by assumption) | exact (hg8 hT.1).elim | (refine (congrArg (fun b => [bo b]) (?_ : _ = _) : [bo _] = [bo _]); exact decide_eq_true hT.2) | (refine (congrArg (fun b => [bo b]) (?_ : _ = _) : [bo _] = [bo _]); exact decide_eq_true rfl)
    · try simp only [decide_eq_true_eq, decide_eq_false_iff_not, beq_iff_eq, bne_iff_ne, beq_eq_false_iff_ne, bne_eq_false_iff_eq, Bool.not_eq_true, Bool.not_eq_false, Bool.not_eq_eq_eq_not, Bool.not_true, Bool.not_false, List.length_map, Int.not_lt, Int.not_le, ne_eq, Decidable.not_not] at hg2
      refine vo_guard_on rfl rfl rfl ?_
      refine vo_move_pv rfl rfl ?_
      refine vo_guard_on rfl rfl rfl ?_
      refine vo_move_pv rfl rfl ?_
      refine vo_guard_on rfl rfl rfl ?_
      refine vo_binB rfl rfl rfl rfl Try.underlying4 ?_
      refine vo_pick_f rfl rfl ?_
      refine vo_move_pv rfl rfl ?_
      refine vo_split 40 rfl (fun hg4 => ?_) (fun hg4 => ?_)
      · try simp only [decide_eq_true_eq, decide_eq_false_iff_not, beq_iff_eq, bne_iff_ne, beq_eq_false_iff_ne, bne_eq_false_iff_eq, Bool.not_eq_true, Bool.not_eq_false, Bool.not_eq_eq_eq_not, Bool.not_true, Bool.not_false, List.length_map, Int.not_lt, Int.not_le, ne_eq, Decidable.not_not] at hg4
        refine vo_guard_off rfl rfl rfl rfl rfl ?_
        refine vo_guard_off rfl rfl rfl rfl rfl ?_
        refine vo_pick_t rfl rfl ?_
        refine vo_nil ?_
        refine hK9 _ ?_
        refine vc_cond_t rfl ?_
        refine vc_seq fun K11 hK11 => ?_
        refine vc_region ?_
        refine vo_move_ref rfl rfl ?_
        refine vo_move_ref rfl rfl ?_
        refine vo_call0 Try.func18 rfl rfl rfl rfl (equalInts_sat (a := orR B z) (b := orR B z) orR_len orR_len) ?_
        rintro _ _ ⟨rfl, rfl⟩
        refine ⟨rfl, rfl, .inr rfl, ?_⟩
        refine vo_move_pv rfl rfl ?_
        refine vo_split 47 rfl (fun hg5 => ?_) (fun hg5 => ?_)
        · try simp only [decide_eq_true_eq, decide_eq_false_iff_not, beq_iff_eq, bne_iff_ne, beq_eq_false_iff_ne, bne_eq_false_iff_eq, Bool.not_eq_true, Bool.not_eq_false, Bool.not_eq_eq_eq_not, Bool.not_true, Bool.not_false, List.length_map, Int.not_lt, Int.not_le, ne_eq, Decidable.not_not] at hg5
          refine vo_guard_on rfl rfl rfl ?_
          refine vo_move_pv rfl rfl ?_
          refine vo_guard_on rfl rfl rfl ?_
          refine vo_move_pv rfl rfl ?_
          refine vo_guard_on rfl rfl rfl ?_
          refine vo_binB rfl rfl rfl rfl Try.underlying4 ?_
          refine vo_pick_t rfl rfl ?_
          refine vo_assign_pv rfl rfl ?_
          refine vo_nil ?_
          refine hK11 _ ?_
          refine vc_ret ?_
          change retPv _ _ _ _ _
          refine retPv_mk rfl rfl rfl ⟨?_, rfl⟩
          first | rfl | exact absurd trivial (by assumption) | exact absurd rfl (by assumption) | exact (hg8 hT.1).elim | (refine (congrArg (fun b => [bo b]) (?_ : _ = _) : [bo _] = [bo _]); exact decide_eq_true hT.2) | (refine (congrArg (fun b => [bo b]) (?_ : _ = _) : [bo _] = [bo _]); exact decide_eq_true rfl)
        · try simp only [decide_eq_true_eq, decide_eq_false_iff_not, beq_iff_eq, bne_iff_ne, beq_eq_false_iff_ne, bne_eq_false_iff_eq, Bool.not_eq_true, Bool.not_eq_false, Bool.not_eq_eq_eq_not, Bool.not_true, Bool.not_false, List.length_map, Int.not_lt, Int.not_le, ne_eq, Decidable.not_not] at hg5
          refine vo_guard_off rfl rfl rfl rfl rfl ?_
          refine vo_guard_off rfl rfl rfl rfl rfl ?_
          refine vo_guard_off rfl rfl rfl rfl rfl ?_
          refine vo_pick_f rfl rfl ?_
          refine vo_assign_pv rfl rfl ?_
          refine vo_nil ?_
          refine hK11 _ ?_
          refine vc_ret ?_
          change retPv _ _ _ _ _
          refine retPv_mk rfl rfl rfl ⟨?_, rfl⟩
          first | rfl | exact absurd trivial (by assumption) | exact absurd rfl (by assumption) | exact (hg8 hT.1).elim | (refine (congrArg (fun b => [bo b]) (?_ : _ = _) : [bo _] = [bo _]); exact decide_eq_true hT.2) | (refine (congrArg (fun b => [bo b]) (?_ : _ = _) : [bo _] = [bo _]); exact decide_eq_true rfl)
      · try simp only [decide_eq_true_eq, decide_eq_false_iff_not, beq_iff_eq, bne_iff_ne, beq_eq_false_iff_ne, bne_eq_false_iff_eq, Bool.not_eq_true, Bool.not_eq_false, Bool.not_eq_eq_eq_not, Bool.not_true, Bool.not_false, List.length_map, Int.not_lt, Int.not_le, ne_eq, Decidable.not_not] at hg4
        refine vo_guard_on rfl rfl rfl ?_
        refine vo_move_pv rfl rfl ?_
        refine vo_guard_on rfl rfl rfl ?_
        refine vo_not rfl rfl ?_
        refine vo_pick_f rfl rfl ?_
        refine vo_nil ?_
        refine hK9 _ ?_
        refine vc_cond rfl (fun hc6 => ?_) (fun hc6 => ?_)
        · try simp only [decide_eq_true_eq, decide_eq_false_iff_not, beq_iff_eq, bne_iff_ne, beq_eq_false_iff_ne, bne_eq_false_iff_eq, Bool.not_eq_true, Bool.not_eq_false, Bool.not_eq_eq_eq_not, Bool.not_true, Bool.not_false, List.length_map, Int.not_lt, Int.not_le, ne_eq, Decidable.not_not] at hc6
          refine vc_seq fun K12 hK12 => ?_
          refine vc_region ?_
          refine vo_move_ref rfl rfl ?_
          refine vo_move_ref rfl rfl ?_
          refine vo_call0 Try.func18 rfl rfl rfl rfl (equalInts_sat (a := orR B z) (b := orR B z) orR_len orR_len) ?_
          rintro _ _ ⟨rfl, rfl⟩
          refine ⟨rfl, rfl, .inr rfl, ?_⟩
          refine vo_move_pv rfl rfl ?_
          refine vo_split 47 rfl (fun hg7 => ?_) (fun hg7 => ?_)
          · try simp only [decide_eq_true_eq, decide_eq_false_iff_not, beq_iff_eq, bne_iff_ne, beq_eq_false_iff_ne, bne_eq_false_iff_eq, Bool.not_eq_true, Bool.not_eq_false, Bool.not_eq_eq_eq_not, Bool.not_true, Bool.not_false, List.length_map, Int.not_lt, Int.not_le, ne_eq, Decidable.not_not] at hg7
            refine vo_guard_on rfl rfl rfl ?_
            refine vo_move_pv rfl rfl ?_
            refine vo_guard_on rfl rfl rfl ?_
            refine vo_move_pv rfl rfl ?_
            refine vo_guard_on rfl rfl rfl ?_
            refine vo_binB rfl rfl rfl rfl Try.underlying4 ?_
            refine vo_pick_t rfl rfl ?_
            refine vo_assign_pv rfl rfl ?_
            refine vo_nil ?_
            refine hK12 _ ?_
            refine vc_ret ?_
            change retPv _ _ _ _ _
            refine retPv_mk rfl rfl rfl ⟨?_, rfl⟩
            first | rfl | exact absurd trivial (by assumption) | exact absurd rfl (by assumption) | exact (hg8 hT.1).elim | (refine (congrArg (fun b => [bo b]) (?_ : _ = _) : [bo _] = [bo _]); exact decide_eq_true hT.2) | (refine (congrArg (fun b => [bo b]) (?_ : _ = _) : [bo _] = [bo _]); exact decide_eq_true rfl)
          · try simp only [decide_eq_true_eq, decide_eq_false_iff_not, beq_iff_eq, bne_iff_ne, beq_eq_false_iff_ne, bne_eq_false_iff_eq, Bool.not_eq_true, Bool.not_eq_false, Bool.not_eq_eq_eq_not, Bool.not_true, Bool.not_false, List.length_map, Int.not_lt, Int.not_le, ne_eq, Decidable.not_not] at hg7
            refine vo_guard_off rfl rfl rfl rfl rfl ?_
            refine vo_guard_off rfl rfl rfl rfl rfl ?_
            refine vo_guard_off rfl rfl rfl rfl rfl ?_
            refine vo_pick_f rfl rfl ?_
            refine vo_assign_pv rfl rfl ?_
            refine vo_nil ?_
            refine hK12 _ ?_
            refine vc_ret ?_
            change retPv _ _ _ _ _
            refine retPv_mk rfl rfl rfl ⟨?_, rfl⟩
            first | rfl | exact absurd trivial (by assumption) | exact absurd rfl (by assumption) | exact (hg8 hT.1).elim | (refine (congrArg (fun b => [bo b]) (?_ : _ = _) : [bo _] = [bo _]); exact decide_eq_true hT.2) | (refine (congrArg (fun b => [bo b]) (?_ : _ = _) : [bo _] = [bo _]); exact decide_eq_true rfl)
        · try simp only [decide_eq_true_eq, decide_eq_false_iff_not, beq_iff_eq, bne_iff_ne, beq_eq_false_iff_ne, bne_eq_false_iff_eq, Bool.not_eq_true, Bool.not_eq_false, Bool.not_eq_eq_eq_not, Bool.not_true, Bool.not_false, List.length_map, Int.not_lt, Int.not_le, ne_eq, Decidable.not_not] at hc6
          have hT := orOK_take hc6
          have hz := hc6.1
          refine vc_skip ?_
          refine hK8 _ ?_
          refine vc_seq fun K13 hK13 => ?_
          refine vc_region ?_
          refine vo_move_ref rfl rfl ?_
          refine vo_move_pv rfl rfl ?_
          refine vo_binI rfl rfl rfl rfl (by first | omega | (simp only [List.length_map] <;> omega) | (simp only [List.length_map, List.length_set, List.length_append, List.length_cons, List.length_nil, List.length_replicate, List.length_take, List.length_drop] <;> omega) | (simp <;> omega) | (constructor <;> (first | omega | (simp <;> omega))) | (refine ⟨?_, ?_, ?_, ?_⟩ <;> omega) | exact ⟨xorI_nonneg _ _, by omega⟩ | decide) ?_
          refine vo_expose 0 (by omega) rfl ?_
          refine vo_weaken 53 rfl ?_
          refine vo_st (by (try simp only [St.put, exposeE, killE, SV.expose, SV.kill, Row.expose, Row.kill, rowsAfter_nil, rowsAfter_one, packS, SV.shift, placeOf, enumE, List.zip_cons_cons, List.zip_nil_right, List.map_cons, List.map_nil, List.set_cons_zero, List.set_cons_succ, List.length_cons, List.length_nil, List.cons_append, List.nil_append, List.drop_succ_cons, List.drop_zero, List.drop_nil, List.take_succ_cons, List.take_zero, List.take_nil, List.getElem?_cons_zero, List.getElem?_cons_succ, List.getElem?_nil, Option.getD_some, Option.getD_none, Option.map_some, Option.map_none, Nat.reduceAdd, Nat.reduceSub, Nat.reduceEqDiff, Nat.zero_add, Bool.true_or, PV.scal, Bool.or_false, Bool.or_true, Bool.false_or, Bool.and_true, Bool.and_false, Bool.true_and, reduceIte, reduceCtorEq]); exact eq_refl _) ?_
          refine vo_slice_pv rfl rfl rfl rfl E23.und inf25 sz25 (by first | omega | (simp only [List.length_map] <;> omega) | (simp only [List.length_map, List.length_set, List.length_append, List.length_cons, List.length_nil, List.length_replicate, List.length_take, List.length_drop] <;> omega) | (simp <;> omega) | (constructor <;> (first | omega | (simp <;> omega))) | (refine ⟨?_, ?_, ?_, ?_⟩ <;> omega) | exact ⟨xorI_nonneg _ _, by omega⟩ | decide) (by first | omega | (simp only [List.length_map] <;> omega) | (simp only [List.length_map, List.length_set, List.length_append, List.length_cons, List.length_nil, List.length_replicate, List.length_take, List.length_drop] <;> omega) | (simp <;> omega) | (constructor <;> (first | omega | (simp <;> omega))) | (refine ⟨?_, ?_, ?_, ?_⟩ <;> omega) | exact ⟨xorI_nonneg _ _, by omega⟩ | decide) (by first | omega | (simp only [List.length_map] <;> omega) | (simp only [List.length_map, List.length_set, List.length_append, List.length_cons, List.length_nil, List.length_replicate, List.length_take, List.length_drop] <;> omega) | (simp <;> omega) | (constructor <;> (first | omega | (simp <;> omega))) | (refine ⟨?_, ?_, ?_, ?_⟩ <;> omega) | exact ⟨xorI_nonneg _ _, by omega⟩ | decide) ?_
          simp only [Int.toNat_natCast, Int.toNat_zero, List.drop_zero, Nat.sub_zero, ← List.map_drop, ← List.map_take]
          refine vo_move_pv rfl rfl ?_
          refine vo_call [] Try.func33 rfl rfl rfl rfl rfl rfl rfl (implOrderOf_sat (bases := B.take (z+1).toNat) (c := z) (by rw [List.length_take]; omega) (take_lens (lt3 h3))) ?_
          rintro _ _ ⟨R1, nl7, rfl, rfl⟩
          refine ⟨Nat.le_of_ble_eq_true rfl, ⟨rfl, rfl, rfl⟩, .inl rfl, ?_⟩
          refine vo_st (by (try simp only [St.put, exposeE, killE, SV.expose, SV.kill, Row.expose, Row.kill, rowsAfter_nil, rowsAfter_one, packS, SV.shift, placeOf, enumE, List.zip_cons_cons, List.zip_nil_right, List.map_cons, List.map_nil, List.set_cons_zero, List.set_cons_succ, List.length_cons, List.length_nil, List.cons_append, List.nil_append, List.drop_succ_cons, List.drop_zero, List.drop_nil, List.take_succ_cons, List.take_zero, List.take_nil, List.getElem?_cons_zero, List.getElem?_cons_succ, List.getElem?_nil, Option.getD_some, Option.getD_none, Option.map_some, Option.map_none, Nat.reduceAdd, Nat.reduceSub, Nat.reduceEqDiff, Nat.zero_add, Bool.true_or, PV.scal, Bool.or_false, Bool.or_true, Bool.false_or, Bool.and_true, Bool.and_false, Bool.true_and, reduceIte, reduceCtorEq]); exact eq_refl _) ?_
          refine vo_move rfl ?_
          refine vo_extract rfl rfl rfl ?_
          refine vo_extract rfl rfl rfl ?_
          refine vo_assign_ref rfl rfl ?_
          refine vo_assign_pv rfl rfl ?_
          refine vo_nil ?_
          refine hK13 _ ?_
          refine vc_seq fun K14 hK14 => ?_
          refine vc_region ?_
          refine vo_move_pv rfl rfl ?_
          refine vo_move_pv rfl rfl ?_
          refine vo_split 62 rfl (fun hg8 => ?_) (fun hg8 => ?_)
          · try simp only [decide_eq_true_eq, decide_eq_false_iff_not, beq_iff_eq, bne_iff_ne, beq_eq_false_iff_ne, bne_eq_false_iff_eq, Bool.not_eq_true, Bool.not_eq_false, Bool.not_eq_eq_eq_not, Bool.not_true, Bool.not_false, List.length_map, Int.not_lt, Int.not_le, ne_eq, Decidable.not_not] at hg8
            refine vo_guard_on rfl rfl rfl ?_
            refine vo_move_ref rfl rfl ?_
            refine vo_guard_on rfl rfl rfl ?_
            refine vo_move_ref rfl rfl ?_
            refine vo_guard_on rfl rfl rfl ?_
            refine vo_call0 Try.func18 rfl rfl rfl rfl (equalInts_sat (a := orR (B.take (z+1).toNat) z) (b := orR B z) orR_len orR_len) ?_
            rintro _ _ ⟨rfl, rfl⟩
            refine ⟨rfl, rfl, .inr rfl, ?_⟩
            refine vo_pick_t rfl rfl ?_
            refine vo_assign_pv rfl rfl ?_
            refine vo_nil ?_
            refine hK14 _ ?_
            refine vc_ret ?_
            change retPv _ _ _ _ _
            refine retPv_mk rfl rfl rfl ⟨?_, rfl⟩
            first | rfl | exact absurd trivial (by assumption) | exact absurd rfl (by assumption) | exact (hg8 hT.1).elim | (refine (congrArg (fun b => [bo b]) (?_ : _ = _) : [bo _] = [bo _]); exact decide_eq_true hT.2) | (refine (congrArg (fun b => [bo b]) (?_ : _ = _) : [bo _] = [bo _]); exact decide_eq_true rfl)
          · try simp only [decide_eq_true_eq, decide_eq_false_iff_not, beq_iff_eq, bne_iff_ne, beq_eq_false_iff_ne, bne_eq_false_iff_eq, Bool.not_eq_true, Bool.not_eq_false, Bool.not_eq_eq_eq_not, Bool.not_true, Bool.not_false, List.length_map, Int.not_lt, Int.not_le, ne_eq, Decidable.not_not] at hg8
            refine vo_guard_off rfl rfl rfl rfl rfl ?_
            refine vo_guard_off rfl rfl rfl rfl rfl ?_
            refine vo_guard_off rfl rfl rfl rfl rfl ?_
            refine vo_pick_f rfl rfl ?_
            refine vo_assign_pv rfl rfl ?_
            refine vo_nil ?_
            refine hK14 _ ?_
            refine vc_ret ?_
            change retPv _ _ _ _ _
            refine retPv_mk rfl rfl rfl ⟨?_, rfl⟩
            first | rfl | exact absurd trivial (by assumption) | exact absurd rfl (by assumption) | exact (hg8 hT.1).elim | (refine (congrArg (fun b => [bo b]) (?_ : _ = _) : [bo _] = [bo _]); exact decide_eq_true hT.2) | (refine (congrArg (fun b => [bo b]) (?_ : _ = _) : [bo _] = [bo _]); exact decide_eq_true rfl)

end Go.Vl

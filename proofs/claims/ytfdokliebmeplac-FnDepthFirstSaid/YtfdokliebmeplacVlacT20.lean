import Derived.Test.YtfdokliebmeplacVlacT19
namespace Go.Vl
set_option linter.unusedVariables false
set_option linter.unusedSimpArgs false
open Go.Proofs
abbrev ordP (l : List Int) : PV := .sl (some l.isEmpty) 1 (l.map intP)
def orOK (b : List (List Int)) (c : Int) : Prop := (VB b ∧ 0 ≤ c ∧ c < b.length) ∧ ordM b c.toNat ≠ []
instance {b : List (List Int)} {c : Int} : Decidable (orOK b c) := by unfold orOK; infer_instance
def orR (b : List (List Int)) (c : Int) : List Int := if orOK b c then ordM b c.toNat else []
theorem orR_no {b : List (List Int)} {c : Int} (h : ¬ orOK b c) : orR b c = [] := if_neg h
theorem orR_yes {b : List (List Int)} {c : Int} (h : orOK b c) : orR b c = ordM b c.toNat := if_pos h
theorem orR_len {b : List (List Int)} {c : Int} : (orR b c).length < 1000000000 := by
  by_cases h : orOK b c
  · rw [orR_yes h]
    have := ordM_len h.1.1 (show c.toNat < b.length by have := h.1; omega)
    omega
  · rw [orR_no h]; simp
theorem getD_ordP (o : List (List Int)) (k : Nat) : (o.map ordP).getD k (.sl (some true) 1 []) = .sl (some (o.getD k []).isEmpty) 1 ((o.getD k []).map intP) := by
  simp only [List.getD, List.getElem?_map]
  cases o[k]? <;> rfl
theorem isE {l : List Int} (h : l ≠ []) : l.isEmpty = false := by cases l with | nil => exact absurd rfl h | cons => rfl
theorem ordS_stuck {o : List (List Int)} {l : List Int} {c x : Int} (hx : x ∈ l) (h : o.getD x.toNat [] = []) : ordS o l c = [] := if_pos ⟨x, hx, h⟩
theorem ordS_go {o : List (List Int)} {l : List Int} {c : Int} (h : ∀ x ∈ l, o.getD x.toNat [] ≠ []) : ordS o l c = if hds (mergeM (ordL o l ++ [l])).2 = [] then c :: (mergeM (ordL o l ++ [l])).1 else [] := by
  unfold ordS
  rw [if_neg (fun ⟨x, h1, h2⟩ => h x h1 h2)]
theorem row1_eqN {el : TypeId} {e : Nat} {nl nl' : Option Bool} {f : Bool} {a b : List PV} (hn : nl = nl') (h : a = b) : [Row.own el e nl f a] = [Row.own el e nl' f b] := by rw [hn, h]
theorem bEmp {l : List Int} {b : Bool} (h1 : (some l.isEmpty = some true) → b = true) (h2 : (some l.isEmpty = some false) → b = false) : b = l.isEmpty := by cases l <;> simp_all
theorem fill_ord {o : List (List Int)} {n k : Nat} (h : k < n) (ho : o.length = k) (v : List Int) : ((o ++ List.replicate (n - k) []).map ordP).set k (ordP v) = ((o ++ [v]) ++ List.replicate (n - (k+1)) []).map ordP := by
  rw [show n - k = (n - (k+1)) + 1 by omega, List.replicate_succ, ← List.map_set, List.set_append_right _ _ (by omega), ho, Nat.sub_self, List.set_cons_zero, List.append_assoc]; rfl

theorem orderFrom_sat {nl0 nl1 : Option Bool} {o : List (List Int)} {list : List Int} {c : Int} (ho : o.length < 1000000000) (hl4 : list.length ≤ 4) (hlo : ∀ l ∈ o, l.length < 1000000000) (hx : ∀ x ∈ list, 0 ≤ x ∧ x < o.length) (hOK : (∀ x ∈ list, o.getD x.toNat [] ≠ []) → OKLs (ordL o list ++ [list])) : SatAt Try.prog 93 [.pv false (.sl nl0 1 (o.map ordP)), .pv false (.sl nl1 1 (list.map intP)), i64 c] [] (fun res rows => res = [.ref 0] ∧ rows = [Row.own 3 1 (some (ordS o list c).isEmpty) true ((ordS o list c).map intP)]) := by
  refine sat_entry_g (ts := [6]) Try.func93 rfl rfl (by decide) (Nat.le_of_ble_eq_true rfl) fun C hC => ?_
  rw [Try.ntmps93]
  replace hC : C.nb = 0 := hC
  refine vc_seq fun K1 hK1 => ?_
  refine vc_region ?_
  refine vo_assign_pv rfl rfl ?_
  refine vo_nil ?_
  refine hK1 _ ?_
  refine vc_seq fun K2 hK2 => ?_
  refine vc_region ?_
  refine vo_assign_pv rfl rfl ?_
  refine vo_nil ?_
  refine hK2 _ ?_
  refine vc_seq fun K3 hK3 => ?_
  refine vc_seq fun K4 hK4 => ?_
  refine vc_region ?_
  refine vo_move_pv rfl rfl ?_
  refine vo_len_pv rfl rfl Try.underlying34 ?_
  refine vo_move_pv rfl rfl ?_
  refine vo_nil ?_
  refine hK4 _ ?_
  refine vc_block ?_
  refine vc_own_nil 7 E23 rfl ?_
  refine vc_flagrow 0 rfl ?_
  refine vc_st (by (try simp only [St.put, exposeE, killE, SV.expose, SV.kill, Row.expose, Row.kill, rowsAfter_nil, rowsAfter_one, packS, SV.shift, placeOf, enumE, List.zip_cons_cons, List.zip_nil_right, List.map_cons, List.map_nil, List.set_cons_zero, List.set_cons_succ, List.length_cons, List.length_nil, List.cons_append, List.nil_append, List.drop_succ_cons, List.drop_zero, List.drop_nil, List.take_succ_cons, List.take_zero, List.take_nil, List.getElem?_cons_zero, List.getElem?_cons_succ, List.getElem?_nil, Option.getD_some, Option.getD_none, Option.map_some, Option.map_none, Nat.reduceAdd, Nat.reduceSub, Nat.reduceEqDiff, Nat.zero_add, Bool.true_or, PV.scal, Bool.or_false, Bool.or_true, Bool.false_or, Bool.and_true, Bool.and_false, Bool.true_and, reduceIte, reduceCtorEq]); exact eq_refl _) ?_
  refine vc_loop [0, 1, 2, 7, 12, 13, 14] (fun mz vs rows => ∃ (k : Nat), mz = list.length - k ∧ (k ≤ list.length) ∧ (∀ x ∈ list.take k, o.getD x.toNat [] ≠ []) ∧ vs = [.pv false (.sl nl0 1 (o.map ordP)), .pv false (.sl nl1 1 (list.map intP)), i64 c, .ref 0, .pv false (.sl nl1 1 (list.map intP)), i64 (list.map intP).length, i64 k] ∧ rows = [Row.own 34 1 none false ((ordL o (list.take k)).map ints)]) (list.length) (le_len hC rfl) ⟨rfl, rfl⟩ ⟨0, rfl, Nat.zero_le _, (by simp), rfl, rfl⟩ ?_
  rintro mz vs rows - - ⟨k, rfl, hk, hf, rfl, rfl⟩
  have hll := ordL_len o (list.take k)
  rw [List.length_take] at hll
  refine vc_seq fun K5 hK5 => ?_
  refine vc_region ?_
  refine vo_binI rfl rfl rfl rfl trivial ?_
  refine vo_nil ?_
  refine hK5 _ ?_
  refine vc_seq fun K6 hK6 => ?_
  refine vc_cond rfl (fun hc1 => ?_) (fun hc1 => ?_)
  · try simp only [decide_eq_true_eq, decide_eq_false_iff_not, beq_iff_eq, bne_iff_ne, beq_eq_false_iff_ne, bne_eq_false_iff_eq, Bool.not_eq_true, Bool.not_eq_false, Bool.not_eq_eq_eq_not, Bool.not_true, Bool.not_false, List.length_map, Int.not_lt, Int.not_le, ne_eq, Decidable.not_not] at hc1
    have hm := getD_mem (show k < list.length by omega) 0
    have hb := hx _ hm
    refine vc_skip ?_
    refine hK6 _ ?_
    refine vc_seq fun K7 hK7 => ?_
    refine vc_block ?_
    refine vc_seq fun K8 hK8 => ?_
    refine vc_region ?_
    refine vo_index_pv (.int .i64 0) rfl rfl rfl E34.und inf3 sz3 (by first | omega | (simp only [List.length_map] <;> omega) | (simp only [List.length_map, List.length_set, List.length_append, List.length_cons, List.length_nil, List.length_replicate, List.length_take, List.length_drop] <;> omega) | (simp <;> omega) | (constructor <;> (first | omega | (simp <;> omega))) | (refine ⟨?_, ?_, ?_, ?_⟩ <;> omega) | exact ⟨xorI_nonneg _ _, by omega⟩ | decide) (by first | omega | (simp only [List.length_map] <;> omega) | (simp only [List.length_map, List.length_set, List.length_append, List.length_cons, List.length_nil, List.length_replicate, List.length_take, List.length_drop] <;> omega) | (simp <;> omega) | (constructor <;> (first | omega | (simp <;> omega))) | (refine ⟨?_, ?_, ?_, ?_⟩ <;> omega) | exact ⟨xorI_nonneg _ _, by omega⟩ | decide) ?_
    simp only [Int.toNat_natCast, Int.toNat_zero, getD_ints, getD_intss, getD_bools, getD_bytes, PV.cells, getD_ordP]
    refine vo_load_adr rfl rfl Try.underlying3 rfl ?_
    refine vo_assign_pv rfl rfl ?_
    refine vo_nil ?_
    refine hK8 _ ?_
    refine vc_seq fun K9 hK9 => ?_
    refine vc_seq fun K10 hK10 => ?_
    refine vc_region ?_
    refine vo_move_pv rfl rfl ?_
    refine vo_move_pv rfl rfl ?_
    refine vo_index_pv (.sl (some true) 1 []) rfl rfl rfl E23.und inf34 sz34 (by first | omega | (simp only [List.length_map] <;> omega) | (simp only [List.length_map, List.length_set, List.length_append, List.length_cons, List.length_nil, List.length_replicate, List.length_take, List.length_drop] <;> omega) | (simp <;> omega) | (constructor <;> (first | omega | (simp <;> omega))) | (refine ⟨?_, ?_, ?_, ?_⟩ <;> omega) | exact ⟨xorI_nonneg _ _, by omega⟩ | decide) (by first | omega | (simp only [List.length_map] <;> omega) | (simp only [List.length_map, List.length_set, List.length_append, List.length_cons, List.length_nil, List.length_replicate, List.length_take, List.length_drop] <;> omega) | (simp <;> omega) | (constructor <;> (first | omega | (simp <;> omega))) | (refine ⟨?_, ?_, ?_, ?_⟩ <;> omega) | exact ⟨xorI_nonneg _ _, by omega⟩ | decide) ?_
    simp only [Int.toNat_natCast, Int.toNat_zero, getD_ints, getD_intss, getD_bools, getD_bytes, PV.cells, getD_ordP]
    refine vo_load_adr rfl rfl Try.underlying34 rfl ?_
    refine vo_eqnil rfl rfl Try.underlying34 fun bn1 hn1 hnt1 hnf1 => ?_
    refine vo_nil ?_
    refine hK10 _ ?_
    refine vc_cond rfl (fun hc2 => ?_) (fun hc2 => ?_)
    · try simp only [decide_eq_true_eq, decide_eq_false_iff_not, beq_iff_eq, bne_iff_ne, beq_eq_false_iff_ne, bne_eq_false_iff_eq, Bool.not_eq_true, Bool.not_eq_false, Bool.not_eq_eq_eq_not, Bool.not_true, Bool.not_false, List.length_map, Int.not_lt, Int.not_le, ne_eq, Decidable.not_not] at hc2
      have hE : (o.getD (list.getD k 0).toNat []) = [] := by have := bEmp hnt1 hnf1; simp_all
      refine vc_seq fun K11 hK11 => ?_
      refine vc_region ?_
      refine vo_assign_pv rfl rfl ?_
      refine vo_nil ?_
      refine hK11 _ ?_
      refine vc_own_nilT 6 E34 rfl ?_
      refine vc_ret ?_
      change retG _ _ _ _ _
      refine retG_one 1 hC rfl rfl rfl rfl rfl ?_
      have e := ordS_stuck (c := c) hm hE
      exact ⟨rfl, row1_eqN (by rw [e]; rfl) (by rw [e]; rfl)⟩
    · try simp only [decide_eq_true_eq, decide_eq_false_iff_not, beq_iff_eq, bne_iff_ne, beq_eq_false_iff_ne, bne_eq_false_iff_eq, Bool.not_eq_true, Bool.not_eq_false, Bool.not_eq_eq_eq_not, Bool.not_true, Bool.not_false, List.length_map, Int.not_lt, Int.not_le, ne_eq, Decidable.not_not] at hc2
      have hE : (o.getD (list.getD k 0).toNat []) ≠ [] := by have := bEmp hnt1 hnf1; simp_all
      refine vc_skip ?_
      refine hK9 _ ?_
      refine vc_region ?_
      refine vo_move_ref rfl rfl ?_
      refine vo_move_pv rfl rfl ?_
      refine vo_move_pv rfl rfl ?_
      refine vo_index_pv (.sl (some true) 1 []) rfl rfl rfl E23.und inf34 sz34 (by first | omega | (simp only [List.length_map] <;> omega) | (simp only [List.length_map, List.length_set, List.length_append, List.length_cons, List.length_nil, List.length_replicate, List.length_take, List.length_drop] <;> omega) | (simp <;> omega) | (constructor <;> (first | omega | (simp <;> omega))) | (refine ⟨?_, ?_, ?_, ?_⟩ <;> omega) | exact ⟨xorI_nonneg _ _, by omega⟩ | decide) (by first | omega | (simp only [List.length_map] <;> omega) | (simp only [List.length_map, List.length_set, List.length_append, List.length_cons, List.length_nil, List.length_replicate, List.length_take, List.length_drop] <;> omega) | (simp <;> omega) | (constructor <;> (first | omega | (simp <;> omega))) | (refine ⟨?_, ?_, ?_, ?_⟩ <;> omega) | exact ⟨xorI_nonneg _ _, by omega⟩ | decide) ?_
      simp only [Int.toNat_natCast, Int.toNat_zero, getD_ints, getD_intss, getD_bools, getD_bytes, PV.cells, getD_ordP]
      refine vo_load_adr rfl rfl Try.underlying34 rfl ?_
      refine vo_weaken 27 rfl ?_
      refine vo_buildSlice E23 rfl rfl rfl rfl rfl ?_
      refine vo_append E23 rfl (by omega) rfl rfl rfl (by first | omega | (simp only [List.length_map] <;> omega) | (simp only [List.length_map, List.length_set, List.length_append, List.length_cons, List.length_nil, List.length_replicate, List.length_take, List.length_drop] <;> omega) | (simp <;> omega) | (constructor <;> (first | omega | (simp <;> omega))) | (refine ⟨?_, ?_, ?_, ?_⟩ <;> omega) | exact ⟨xorI_nonneg _ _, by omega⟩ | decide) (by first | omega | (simp only [List.length_map] <;> omega) | (simp only [List.length_map, List.length_set, List.length_append, List.length_cons, List.length_nil, List.length_replicate, List.length_take, List.length_drop] <;> omega) | (simp <;> omega) | (constructor <;> (first | omega | (simp <;> omega))) | (refine ⟨?_, ?_, ?_, ?_⟩ <;> omega) | exact ⟨xorI_nonneg _ _, by omega⟩ | decide) ?_
      refine vo_st (by (try simp only [St.put, exposeE, killE, SV.expose, SV.kill, Row.expose, Row.kill, rowsAfter_nil, rowsAfter_one, packS, SV.shift, placeOf, enumE, List.zip_cons_cons, List.zip_nil_right, List.map_cons, List.map_nil, List.set_cons_zero, List.set_cons_succ, List.length_cons, List.length_nil, List.cons_append, List.nil_append, List.drop_succ_cons, List.drop_zero, List.drop_nil, List.take_succ_cons, List.take_zero, List.take_nil, List.getElem?_cons_zero, List.getElem?_cons_succ, List.getElem?_nil, Option.getD_some, Option.getD_none, Option.map_some, Option.map_none, Nat.reduceAdd, Nat.reduceSub, Nat.reduceEqDiff, Nat.zero_add, Bool.true_or, PV.scal, Bool.or_false, Bool.or_true, Bool.false_or, Bool.and_true, Bool.and_false, Bool.true_and, reduceIte, reduceCtorEq]); exact eq_refl _) ?_
      try simp only [app_ints, app_intss, app_bools]
      refine vo_assign_ref rfl rfl ?_
      refine vo_nil ?_
      refine hK7 _ ?_
      refine vc_region ?_
      refine vo_binI rfl rfl rfl rfl (by first | omega | (simp only [List.length_map] <;> omega) | (simp only [List.length_map, List.length_set, List.length_append, List.length_cons, List.length_nil, List.length_replicate, List.length_take, List.length_drop] <;> omega) | (simp <;> omega) | (constructor <;> (first | omega | (simp <;> omega))) | (refine ⟨?_, ?_, ?_, ?_⟩ <;> omega) | exact ⟨xorI_nonneg _ _, by omega⟩ | decide) ?_
      refine vo_move_pv rfl rfl ?_
      refine vo_nil ?_
      change again _ _ _ _ _ _
      refine again_mk rfl rfl rfl rfl ⟨_, ?_, k + 1, rfl, ?_, ?_, rfl, (congrArg (fun l => [Row.own 34 1 none false (List.map ints l)]) (show ordL o (list.take k) ++ [o.getD (list.getD k 0).toNat []] = ordL o (list.take (k+1)) from ordL_snoc _ (by omega)))⟩
      · omega
      · omega
      · exact (all_take_succ (by omega) 0).2 ⟨hf, hE⟩
  · try simp only [decide_eq_true_eq, decide_eq_false_iff_not, beq_iff_eq, bne_iff_ne, beq_eq_false_iff_ne, bne_eq_false_iff_eq, Bool.not_eq_true, Bool.not_eq_false, Bool.not_eq_eq_eq_not, Bool.not_true, Bool.not_false, List.length_map, Int.not_lt, Int.not_le, ne_eq, Decidable.not_not] at hc1
    have hk2 : k = list.length := by omega
    subst hk2
    rw [take_all (Nat.le_refl _)]
    rw [take_all (Nat.le_refl _)] at hf
    have hO := hOK hf
    have hmo := Nat.lt_of_le_of_lt (mgO_len (ordL o list ++ [list])) hO.tot
    have hll2 := ordL_len o list
    have hmr := mgR_len (ls := ordL o list ++ [list])
    refine vc_exit ?_
    refine hK3 _ ?_
    refine vc_seq fun K12 hK12 => ?_
    refine vc_region ?_
    refine vo_move_ref rfl rfl ?_
    refine vo_move_pv rfl rfl ?_
    refine vo_weaken 33 rfl ?_
    refine vo_buildSlice E23 rfl rfl rfl rfl rfl ?_
    refine vo_append E23 rfl (by omega) rfl rfl rfl (by first | omega | (simp only [List.length_map] <;> omega) | (simp only [List.length_map, List.length_set, List.length_append, List.length_cons, List.length_nil, List.length_replicate, List.length_take, List.length_drop] <;> omega) | (simp <;> omega) | (constructor <;> (first | omega | (simp <;> omega))) | (refine ⟨?_, ?_, ?_, ?_⟩ <;> omega) | exact ⟨xorI_nonneg _ _, by omega⟩ | decide) (by first | omega | (simp only [List.length_map] <;> omega) | (simp only [List.length_map, List.length_set, List.length_append, List.length_cons, List.length_nil, List.length_replicate, List.length_take, List.length_drop] <;> omega) | (simp <;> omega) | (constructor <;> (first | omega | (simp <;> omega))) | (refine ⟨?_, ?_, ?_, ?_⟩ <;> omega) | exact ⟨xorI_nonneg _ _, by omega⟩ | decide) ?_
    refine vo_st (by (try simp only [St.put, exposeE, killE, SV.expose, SV.kill, Row.expose, Row.kill, rowsAfter_nil, rowsAfter_one, packS, SV.shift, placeOf, enumE, List.zip_cons_cons, List.zip_nil_right, List.map_cons, List.map_nil, List.set_cons_zero, List.set_cons_succ, List.length_cons, List.length_nil, List.cons_append, List.nil_append, List.drop_succ_cons, List.drop_zero, List.drop_nil, List.take_succ_cons, List.take_zero, List.take_nil, List.getElem?_cons_zero, List.getElem?_cons_succ, List.getElem?_nil, Option.getD_some, Option.getD_none, Option.map_some, Option.map_none, Nat.reduceAdd, Nat.reduceSub, Nat.reduceEqDiff, Nat.zero_add, Bool.true_or, PV.scal, Bool.or_false, Bool.or_true, Bool.false_or, Bool.and_true, Bool.and_false, Bool.true_and, reduceIte, reduceCtorEq]); exact eq_refl _) ?_
    try simp only [app_ints, app_intss, app_bools]
    refine vo_expose 0 (by omega) rfl ?_
    refine vo_weaken 35 rfl ?_
    refine vo_st (by (try simp only [St.put, exposeE, killE, SV.expose, SV.kill, Row.expose, Row.kill, rowsAfter_nil, rowsAfter_one, packS, SV.shift, placeOf, enumE, List.zip_cons_cons, List.zip_nil_right, List.map_cons, List.map_nil, List.set_cons_zero, List.set_cons_succ, List.length_cons, List.length_nil, List.cons_append, List.nil_append, List.drop_succ_cons, List.drop_zero, List.drop_nil, List.take_succ_cons, List.take_zero, List.take_nil, List.getElem?_cons_zero, List.getElem?_cons_succ, List.getElem?_nil, Option.getD_some, Option.getD_none, Option.map_some, Option.map_none, Nat.reduceAdd, Nat.reduceSub, Nat.reduceEqDiff, Nat.zero_add, Bool.true_or, PV.scal, Bool.or_false, Bool.or_true, Bool.false_or, Bool.and_true, Bool.and_false, Bool.true_and, reduceIte, reduceCtorEq]); exact eq_refl _) ?_
    refine vo_call [] Try.func105 rfl rfl rfl rfl rfl rfl rfl (implMergeLists_sat (lists := ordL o list ++ [list]) (by have := hO.2; omega) (fun l hl => by have := (hO.1 l hl).1; omega)) ?_
    rintro _ _ ⟨nlm, rfl, rfl⟩
    refine ⟨Nat.le_of_ble_eq_true rfl, ⟨rfl, rfl, rfl⟩, .inl rfl, ?_⟩
    refine vo_st (by (try simp only [St.put, exposeE, killE, SV.expose, SV.kill, Row.expose, Row.kill, rowsAfter_nil, rowsAfter_one, packS, SV.shift, placeOf, enumE, List.zip_cons_cons, List.zip_nil_right, List.map_cons, List.map_nil, List.set_cons_zero, List.set_cons_succ, List.length_cons, List.length_nil, List.cons_append, List.nil_append, List.drop_succ_cons, List.drop_zero, List.drop_nil, List.take_succ_cons, List.take_zero, List.take_nil, List.getElem?_cons_zero, List.getElem?_cons_succ, List.getElem?_nil, Option.getD_some, Option.getD_none, Option.map_some, Option.map_none, Nat.reduceAdd, Nat.reduceSub, Nat.reduceEqDiff, Nat.zero_add, Bool.true_or, PV.scal, Bool.or_false, Bool.or_true, Bool.false_or, Bool.and_true, Bool.and_false, Bool.true_and, reduceIte, reduceCtorEq]); exact eq_refl _) ?_
    refine vo_move rfl ?_
    refine vo_extract rfl rfl rfl ?_
    refine vo_extract rfl rfl rfl ?_
    refine vo_assign_ref rfl rfl ?_
    refine vo_assign_pv rfl rfl ?_
    refine vo_nil ?_
    refine hK12 _ ?_
    refine vc_seq fun K13 hK13 => ?_
    refine vc_seq fun K14 hK14 => ?_
    refine vc_region ?_
    refine vo_move_pv rfl rfl ?_
    refine vo_not rfl rfl ?_
    refine vo_nil ?_
    refine hK14 _ ?_
    refine vc_cond rfl (fun hc3 => ?_) (fun hc3 => ?_)
    · try simp only [decide_eq_true_eq, decide_eq_false_iff_not, beq_iff_eq, bne_iff_ne, beq_eq_false_iff_ne, bne_eq_false_iff_eq, Bool.not_eq_true, Bool.not_eq_false, Bool.not_eq_eq_eq_not, Bool.not_true, Bool.not_false, List.length_map, Int.not_lt, Int.not_le, ne_eq, Decidable.not_not] at hc3
      refine vc_seq fun K15 hK15 => ?_
      refine vc_region ?_
      refine vo_assign_pv rfl rfl ?_
      refine vo_nil ?_
      refine hK15 _ ?_
      refine vc_own_nilT 6 E34 rfl ?_
      refine vc_ret ?_
      change retG _ _ _ _ _
      refine retG_one 3 hC rfl rfl rfl rfl rfl ?_
      have e : ordS o list c = [] := by rw [ordS_go hf, if_neg fun h => hc3 ⟨hO, h⟩]
      exact ⟨rfl, row1_eqN (by rw [e]; rfl) (by rw [e]; rfl)⟩
    · try simp only [decide_eq_true_eq, decide_eq_false_iff_not, beq_iff_eq, bne_iff_ne, beq_eq_false_iff_ne, bne_eq_false_iff_eq, Bool.not_eq_true, Bool.not_eq_false, Bool.not_eq_eq_eq_not, Bool.not_true, Bool.not_false, List.length_map, Int.not_lt, Int.not_le, ne_eq, Decidable.not_not] at hc3
      refine vc_skip ?_
      refine hK13 _ ?_
      refine vc_seq fun K16 hK16 => ?_
      refine vc_region ?_
      refine vo_move_pv rfl rfl ?_
      refine vo_buildSlice E34 rfl rfl rfl rfl rfl ?_
      refine vo_move_ref rfl rfl ?_
      refine vo_append E34 rfl (by omega) rfl rfl rfl (by first | omega | (simp only [List.length_map] <;> omega) | (simp only [List.length_map, List.length_set, List.length_append, List.length_cons, List.length_nil, List.length_replicate, List.length_take, List.length_drop] <;> omega) | (simp <;> omega) | (constructor <;> (first | omega | (simp <;> omega))) | (refine ⟨?_, ?_, ?_, ?_⟩ <;> omega) | exact ⟨xorI_nonneg _ _, by omega⟩ | decide) (by first | omega | (simp only [List.length_map] <;> omega) | (simp only [List.length_map, List.length_set, List.length_append, List.length_cons, List.length_nil, List.length_replicate, List.length_take, List.length_drop] <;> omega) | (simp <;> omega) | (constructor <;> (first | omega | (simp <;> omega))) | (refine ⟨?_, ?_, ?_, ?_⟩ <;> omega) | exact ⟨xorI_nonneg _ _, by omega⟩ | decide) ?_
      refine vo_st (by (try simp only [St.put, exposeE, killE, SV.expose, SV.kill, Row.expose, Row.kill, rowsAfter_nil, rowsAfter_one, packS, SV.shift, placeOf, enumE, List.zip_cons_cons, List.zip_nil_right, List.map_cons, List.map_nil, List.set_cons_zero, List.set_cons_succ, List.length_cons, List.length_nil, List.cons_append, List.nil_append, List.drop_succ_cons, List.drop_zero, List.drop_nil, List.take_succ_cons, List.take_zero, List.take_nil, List.getElem?_cons_zero, List.getElem?_cons_succ, List.getElem?_nil, Option.getD_some, Option.getD_none, Option.map_some, Option.map_none, Nat.reduceAdd, Nat.reduceSub, Nat.reduceEqDiff, Nat.zero_add, Bool.true_or, PV.scal, Bool.or_false, Bool.or_true, Bool.false_or, Bool.and_true, Bool.and_false, Bool.true_and, reduceIte, reduceCtorEq]); exact eq_refl _) ?_
      try simp only [app_ints, app_intss, app_bools]
      refine vo_assign_ref rfl rfl ?_
      refine vo_nil ?_
      refine hK16 _ ?_
      refine vc_ret ?_
      change retG _ _ _ _ _
      refine retG_one 3 hC rfl rfl rfl rfl rfl ?_
      have e : ordS o list c = c :: mgR (ordL o list ++ [list]) := by rw [ordS_go hf, if_pos hc3.2, mgR_yes hc3]
      exact ⟨rfl, row1_eqN (by rw [e]; rfl) (by rw [e]; rfl)⟩

end Go.Vl

/- Part 5 of the texts that the proof of FnHooksOf is built on. -/
import Derived.Test.YtlpchicpbnmdgabVl4
namespace Go.Vl
set_option linter.unusedVariables false
set_option linter.unusedSimpArgs false
open Go.Proofs
def anms (l : List AttrM) : List Int := l.map AttrM.name
theorem getD_anms (l : List AttrM) (k : Nat) : (anms l).getD k 0 = (l.getD k ⟨0, 0, 0⟩).name := getD_map0 AttrM.name l k ⟨0, 0, 0⟩ 0 rfl
@[simp] theorem anms_len (l : List AttrM) : (anms l).length = l.length := by simp [anms]
theorem take_anms (l : List AttrM) (k : Nat) : (anms l).take k = anms (l.take k) := by simp [anms]
theorem findM_anms (n : Int) (l : List AttrM) (k : Nat) (h : k < l.length) : findM n ((anms l).drop k) k = if (l.getD k ⟨0, 0, 0⟩).name = n then (k : Int) else findM n ((anms l).drop (k+1)) (k+1) := by
  rw [findM_drop _ _ _ (by rw [anms_len]; exact h), getD_anms]
theorem nodup_anms_succ {l : List AttrM} {k : Nat} (h : k < l.length) : (anms (l.take (k+1))).Nodup ↔ (anms (l.take k)).Nodup ∧ (l.getD k ⟨0, 0, 0⟩).name ∉ anms (l.take k) := by
  rw [← take_anms, ← take_anms, nodup_take_succ (by rw [anms_len]; exact h) 0, getD_anms]
theorem nodup_anms_take {l : List AttrM} (k : Nat) (h : (anms l).Nodup) : (anms (l.take k)).Nodup := by
  rw [← take_anms]; exact nodup_take k h
theorem app_anm1 (l : List AttrM) (k : Nat) (h : k < l.length) : anms (l.take k) ++ [(l.getD k ⟨0, 0, 0⟩).name] = anms (l.take (k+1)) := by
  have : l.take (k+1) = l.take k ++ [l.getD k ⟨0, 0, 0⟩] := by rw [List.take_add_one, List.getD, List.getElem?_eq_getElem h]; rfl
  rw [this]; simp [anms]

def okAttr (a : AttrM) : Prop := (0 ≤ a.name ∧ a.name ≤ 9) ∧ (0 ≤ a.kind ∧ a.kind ≤ 5) ∧ (0 ≤ a.value ∧ a.value ≤ 99)
instance (a : AttrM) : Decidable (okAttr a) := by unfold okAttr; exact inferInstance
def AAttrs (l : List AttrM) : Prop := l.length ≤ 8 ∧ (anms l).Nodup ∧ ∀ a ∈ l, okAttr a
instance (l : List AttrM) : Decidable (AAttrs l) := by unfold AAttrs; exact inferInstance
def okObj (n : Nat) (o : ObjM) : Prop := (0 ≤ o.cls ∧ o.cls ≤ (n : Int) - 1) ∧ o.pairs.length ≤ 8 ∧ AOwn o.pairs
instance (n : Nat) (o : ObjM) : Decidable (okObj n o) := by unfold okObj; exact inferInstance
def VWorld (w : WorldM) : Prop := allOK w.bases ∧ w.attrs.length = w.bases.length ∧ w.objs.length ≤ 6 ∧ (∀ l ∈ w.attrs, AAttrs l) ∧ ∀ o ∈ w.objs, okObj w.bases.length o
instance (w : WorldM) : Decidable (VWorld w) := by unfold VWorld; exact inferInstance

theorem attrNames_sat {nl0 : Option Bool} {list : List AttrM} (hlist : list.length < 1000000000)  : SatAt Try.prog 93 [.pv false (.sl nl0 3 (list.map attrP))] [] (fun res rows => ∃ nl, res = [.pv true (.sl nl 1 ((anms list).map intP))] ∧ rows = []) := by
 refine sat_entry_G (rs := [(2, none)]) Try.func93 rfl rfl (Nat.le_of_ble_eq_true rfl) (Nat.le_of_ble_eq_true rfl) (resTs1 trivial) fun C hC => ?_
 rw [Try.ntmps93]
 replace hC : C.nb = 0 := hC
 refine vc_seq fun K1 hK1 => ?_
 refine vc_region ?_
 refine vo_assign_pv rfl rfl ?_
 refine vo_nil ?_
 refine hK1 _ ?_
 refine vc_seq fun K2 hK2 => ?_
 refine vc_region ?_
 refine vo_assign_pv rfl rfl ?_
 refine vo_nil ?_
 refine hK2 _ ?_
 refine vc_seq fun K3 hK3 => ?_
 refine vc_seq fun K4 hK4 => ?_
 refine vc_region ?_
 refine vo_move_pv rfl rfl ?_
 refine vo_len_pv rfl rfl Try.underlying63 ?_
 refine vo_move_pv rfl rfl ?_
 refine vo_nil ?_
 refine hK4 _ ?_
 refine vc_block ?_
 refine vc_own_nil 3 E49 rfl ?_
 refine vc_stM ?_
 refine vc_loopE [6, 7] [3, 8] [0] _ _ (fun mz vs rs => ∃ (k : Nat), mz = list.length - k ∧ (k ≤ list.length) ∧ vs = [.ref 0, i64 k] ∧ rs = [Row.own 3 1 none true ((anms (list.take k)).map intP)]) (list.length) rfl rfl (le_len hC rfl) ⟨rfl, rfl, rfl⟩ rfl ⟨0, rfl, Nat.zero_le _, rfl, rfl⟩ ?_
 rintro mz vs rs - - ⟨k, rfl, hk, rfl, rfl⟩
 refine vc_stM ?_
 refine vc_seq fun K5 hK5 => ?_
 refine vc_region ?_
 refine vo_binI rfl rfl rfl rfl trivial ?_
 refine vo_nil ?_
 refine hK5 _ ?_
 refine vc_seq fun K6 hK6 => ?_
 refine vc_cond rfl (fun hc1 => ?_) (fun hc1 => ?_)
 ·try simp only [zq0, zq1, zq2, zq3, zq4, zq5, zq6, zq7, zq8, zq9, zqa, zqb, zqc, zqd, zqe, zqf] at hc1
  refine vc_skip ?_
  refine hK6 _ ?_
  refine vc_seq fun K7 hK7 => ?_
  refine vc_block ?_
  refine vc_seq fun K8 hK8 => ?_
  refine vc_region ?_
  refine vo_index_pv (.agg [(.int .i64 0), (.int .i64 0), (.int .i64 0)]) rfl rfl rfl E63.und inf37 sz37 sd sd ?_
  simp only [Int.toNat_natCast, Int.toNat_zero, getD_ints, getD_intss, getD_bools, getD_bytes, PV.cells, getD_ops, getD_pairs, getD_insts, getD_attrs, getD_attrss, getD_objs]
  refine vo_load_adrS rfl rfl Try.underlying37 rfl inf37 sz37 rfl ?_
  refine vo_st (by (try simp only [St.put, PV.cells, PV.scal, List.drop_succ_cons, List.drop_zero, List.take_succ_cons, List.take_zero, List.map_cons, List.map_nil, Bool.or_true, Bool.or_false, Bool.false_or, Bool.true_or, opP, pairP, instP, heapP]); exact eq_refl _) ?_
  refine vo_alloc Z37 rfl ?_
  refine vo_stM ?_
  refine vo_store_varS rfl rfl rfl inf37 sz37 rfl ?_
  refine vo_stM ?_
  refine vo_nil ?_
  refine hK8 _ ?_
  refine vc_region ?_
  refine vo_move_ref rfl rfl ?_
  refine vo_fieldAddr_ptr rfl rfl Try.underlying37 rfl inf3 (by rw [sz3]; decide) ?_
  try simp only [Nat.zero_add]
  refine vo_load_var rfl rfl rfl Try.underlying3 rfl rfl ?_
  refine vo_buildSlice E49 rfl rfl rfl rfl rfl ?_
  refine vo_stM ?_
  refine vo_append E49 rfl (by omega) rfl rfl rfl sd sd ?_
  refine vo_stM ?_
  try simp only [app_ints, app_intss, app_bools]
  refine vo_assign_ref rfl rfl ?_
  refine vo_nil ?_
  refine hK7 _ ?_
  refine vc_region ?_
  refine vo_binI rfl rfl rfl rfl sd ?_
  refine vo_move_pv rfl rfl ?_
  refine vo_nil ?_
  change againE _ _ _ _ _ _ _ _ _ _
  refine againE_mk rfl rfl rfl rfl rfl rfl ⟨_, ?_, k + 1, rfl, ?_, rfl, (by rw [← app_anm1 _ _ (by omega)]; rfl)⟩
  ·omega
  ·omega
 ·try simp only [zq0, zq1, zq2, zq3, zq4, zq5, zq6, zq7, zq8, zq9, zqa, zqb, zqc, zqd, zqe, zqf] at hc1
  refine vc_exit ?_
  refine hK3 _ ?_
  refine vc_seq fun K9 hK9 => ?_
  refine vc_region ?_
  refine vo_move_ref rfl rfl ?_
  refine vo_assign_ref rfl rfl ?_
  refine vo_nil ?_
  refine hK9 _ ?_
  refine vc_expose 0 (by omega) rfl ?_
  refine vc_stM ?_
  refine vc_ret ?_
  change retQ _ _ _ _ _
  refine retQ_sel [] (srows := []) (.inr rfl) hC rfl rfl rfl rfl rfl rfl rfl ?_
  rw [show list.take k = list from take_all (by omega)]; exact ⟨_, rfl, rfl⟩


theorem areAttrs_sat {nl0 : Option Bool} {list : List AttrM} (hlist : list.length < 1000000000)  : SatAt Try.prog 68 [.pv false (.sl nl0 3 (list.map attrP))] [] (fun res rows => res = [bo (decide (AAttrs list))] ∧ rows = []) := by
  refine sat_entry_G (rs := [(2, none)]) Try.func68 rfl rfl (Nat.le_of_ble_eq_true rfl) (Nat.le_of_ble_eq_true rfl) (resTs1 trivial) fun C hC => ?_
  rw [Try.ntmps68]
  replace hC : C.nb = 0 := hC
  refine vc_seq fun K1 hK1 => ?_
  refine vc_region ?_
  refine vo_assign_pv rfl rfl ?_
  refine vo_nil ?_
  refine hK1 _ ?_
  refine vc_seq fun K2 hK2 => ?_
  refine vc_seq fun K3 hK3 => ?_
  refine vc_region ?_
  refine vo_move_pv rfl rfl ?_
  refine vo_len_pv rfl rfl Try.underlying63 ?_
  refine vo_binI rfl rfl rfl rfl trivial ?_
  refine vo_move_pv rfl rfl ?_
  refine vo_split 8 rfl (fun hg1 => ?_) (fun hg1 => ?_)
  · try simp only [zq0, zq1, zq2, zq3, zq4, zq5, zq6, zq7, zq8, zq9, zqa, zqb, zqc, zqd, zqe, zqf] at hg1
    refine vo_guard_off rfl rfl rfl rfl rfl ?_
    refine vo_guard_off rfl rfl rfl rfl rfl ?_
    refine vo_guard_off rfl rfl rfl rfl rfl ?_
    refine vo_guard_off rfl rfl rfl rfl rfl ?_
    refine vo_pick_t rfl rfl ?_
    refine vo_nil ?_
    refine hK3 _ ?_
    refine vc_cond_t rfl ?_
    refine vc_seq fun K4 hK4 => ?_
    refine vc_region ?_
    refine vo_assign_pv rfl rfl ?_
    refine vo_nil ?_
    refine hK4 _ ?_
    refine vc_ret ?_
    change retQ _ _ _ _ _
    refine retQ_sel [] (srows := []) (.inr rfl) hC rfl rfl rfl rfl rfl rfl rfl ?_
    refine ⟨?_, rfl⟩
    refine (congrArg (fun b => [bo b]) (?_ : _ = _) : [bo _] = [bo _])
    first
      | (exact bF fun h => absurd (⟨by have := h.1; rw [anms_len]; omega, h.2.1⟩ : OKL (anms list) 8) (by assumption))
      | (refine bF fun h => ?_
         have h1 := h.2.2 _ (getD_mem (show k < list.length by omega) ⟨0, 0, 0⟩)
         unfold okAttr at h1; omega)
      | exact bF fun h => by have := h.1; omega
      | (rw [take_all (by omega)] at hf; exact bT ⟨by omega, by first | exact (‹OKL (anms list) 8›).2 | assumption, hf⟩)
  · try simp only [zq0, zq1, zq2, zq3, zq4, zq5, zq6, zq7, zq8, zq9, zqa, zqb, zqc, zqd, zqe, zqf] at hg1
    refine vo_guard_on rfl rfl rfl ?_
    refine vo_move_pv rfl rfl ?_
    refine vo_guard_on rfl rfl rfl ?_
    refine vo_call0 Try.func93 rfl rfl rfl rfl (attrNames_sat hlist) ?_
    rintro _ _ ⟨nl9, rfl, rfl⟩
    refine ⟨rfl, rfl, .inl rfl, ?_⟩
    refine vo_stM ?_
    refine vo_guard_on rfl rfl rfl ?_
    refine vo_call0 Try.func106 rfl rfl rfl rfl (isList_sat (list := anms list) (by rw [anms_len]; omega)) ?_
    rintro _ _ ⟨rfl, rfl⟩
    refine ⟨rfl, rfl, .inl rfl, ?_⟩
    refine vo_stM ?_
    refine vo_guard_on rfl rfl rfl ?_
    refine vo_not rfl rfl ?_
    refine vo_pick_f rfl rfl ?_
    refine vo_nil ?_
    refine hK3 _ ?_
    refine vc_cond rfl (fun hc2 => ?_) (fun hc2 => ?_)
    · try simp only [zq0, zq1, zq2, zq3, zq4, zq5, zq6, zq7, zq8, zq9, zqa, zqb, zqc, zqd, zqe, zqf] at hc2
      refine vc_seq fun K5 hK5 => ?_
      refine vc_region ?_
      refine vo_assign_pv rfl rfl ?_
      refine vo_nil ?_
      refine hK5 _ ?_
      refine vc_ret ?_
      change retQ _ _ _ _ _
      refine retQ_sel [] (srows := []) (.inr rfl) hC rfl rfl rfl rfl rfl rfl rfl ?_
      refine ⟨?_, rfl⟩
      refine (congrArg (fun b => [bo b]) (?_ : _ = _) : [bo _] = [bo _])
      first
        | (exact bF fun h => absurd (⟨by have := h.1; rw [anms_len]; omega, h.2.1⟩ : OKL (anms list) 8) (by assumption))
        | (refine bF fun h => ?_
           have h1 := h.2.2 _ (getD_mem (show k < list.length by omega) ⟨0, 0, 0⟩)
           unfold okAttr at h1; omega)
        | exact bF fun h => by have := h.1; omega
        | (rw [take_all (by omega)] at hf; exact bT ⟨by omega, by first | exact (‹OKL (anms list) 8›).2 | assumption, hf⟩)
    · try simp only [zq0, zq1, zq2, zq3, zq4, zq5, zq6, zq7, zq8, zq9, zqa, zqb, zqc, zqd, zqe, zqf] at hc2
      refine vc_skip ?_
      refine hK2 _ ?_
      refine vc_seq fun K6 hK6 => ?_
      refine vc_seq fun K7 hK7 => ?_
      refine vc_region ?_
      refine vo_move_pv rfl rfl ?_
      refine vo_len_pv rfl rfl Try.underlying63 ?_
      refine vo_move_pv rfl rfl ?_
      refine vo_nil ?_
      refine hK7 _ ?_
      refine vc_block ?_
      refine vc_stM ?_
      refine vc_loopE [14, 15] [16] [] _ _ (fun mz vs rs => ∃ (k : Nat), mz = list.length - k ∧ (k ≤ list.length) ∧ (∀ a ∈ list.take k, okAttr a) ∧ vs = [i64 k] ∧ rs = []) (list.length) rfl rfl (le_len hC rfl) ⟨rfl, rfl, rfl⟩ rfl ⟨0, rfl, Nat.zero_le _, (by simp), rfl, rfl⟩ ?_
      rintro mz vs rs - - ⟨k, rfl, hk, hf, rfl, rfl⟩
      refine vc_stM ?_
      refine vc_seq fun K8 hK8 => ?_
      refine vc_region ?_
      refine vo_binI rfl rfl rfl rfl trivial ?_
      refine vo_nil ?_
      refine hK8 _ ?_
      refine vc_seq fun K9 hK9 => ?_
      refine vc_cond rfl (fun hc3 => ?_) (fun hc3 => ?_)
      · try simp only [zq0, zq1, zq2, zq3, zq4, zq5, zq6, zq7, zq8, zq9, zqa, zqb, zqc, zqd, zqe, zqf] at hc3
        refine vc_skip ?_
        refine hK9 _ ?_
        refine vc_seq fun K10 hK10 => ?_
        refine vc_block ?_
        refine vc_seq fun K11 hK11 => ?_
        refine vc_region ?_
        refine vo_index_pv (.agg [(.int .i64 0), (.int .i64 0), (.int .i64 0)]) rfl rfl rfl E63.und inf37 sz37 sd sd ?_
        simp only [Int.toNat_natCast, Int.toNat_zero, getD_ints, getD_intss, getD_bools, getD_bytes, PV.cells, getD_ops, getD_pairs, getD_insts, getD_attrs, getD_attrss, getD_objs]
        refine vo_load_adrS rfl rfl Try.underlying37 rfl inf37 sz37 rfl ?_
        refine vo_st (by (try simp only [St.put, PV.cells, PV.scal, List.drop_succ_cons, List.drop_zero, List.take_succ_cons, List.take_zero, List.map_cons, List.map_nil, Bool.or_true, Bool.or_false, Bool.false_or, Bool.true_or, opP, pairP, instP, heapP]); exact eq_refl _) ?_
        refine vo_alloc Z37 rfl ?_
        refine vo_stM ?_
        refine vo_store_varS rfl rfl rfl inf37 sz37 rfl ?_
        refine vo_stM ?_
        refine vo_nil ?_
        refine hK11 _ ?_
        refine vc_seq fun K12 hK12 => ?_
        refine vc_region ?_
        refine vo_fieldAddr_ptr rfl rfl Try.underlying37 rfl inf3 (by rw [sz3]; decide) ?_
        try simp only [Nat.zero_add]
        refine vo_load_var rfl rfl rfl Try.underlying3 rfl rfl ?_
        refine vo_call0 Try.func69 rfl rfl rfl rfl isUpTo_sat ?_
        rintro _ _ ⟨rfl, rfl⟩
        refine ⟨rfl, rfl, .inl rfl, ?_⟩
        refine vo_stM ?_
        refine vo_not rfl rfl ?_
        refine vo_move_pv rfl rfl ?_
        refine vo_split 24 rfl (fun hg4 => ?_) (fun hg4 => ?_)
        · try simp only [zq0, zq1, zq2, zq3, zq4, zq5, zq6, zq7, zq8, zq9, zqa, zqb, zqc, zqd, zqe, zqf] at hg4
          refine vo_guard_off rfl rfl rfl rfl rfl ?_
          refine vo_guard_off rfl rfl rfl rfl rfl ?_
          refine vo_guard_off rfl rfl rfl rfl rfl ?_
          refine vo_guard_off rfl rfl rfl rfl rfl ?_
          refine vo_pick_t rfl rfl ?_
          refine vo_move_pv rfl rfl ?_
          refine vo_guard_off rfl rfl rfl rfl rfl ?_
          refine vo_guard_off rfl rfl rfl rfl rfl ?_
          refine vo_guard_off rfl rfl rfl rfl rfl ?_
          refine vo_guard_off rfl rfl rfl rfl rfl ?_
          refine vo_pick_t rfl rfl ?_
          refine vo_nil ?_
          refine hK12 _ ?_
          refine vc_cond_t rfl ?_
          refine vc_seq fun K13 hK13 => ?_
          refine vc_region ?_
          refine vo_assign_pv rfl rfl ?_
          refine vo_nil ?_
          refine hK13 _ ?_
          refine vc_ret ?_
          change retQ _ _ _ _ _
          refine retQ_sel [] (srows := []) (.inr rfl) hC rfl rfl rfl rfl rfl rfl rfl ?_
          refine ⟨?_, rfl⟩
          refine (congrArg (fun b => [bo b]) (?_ : _ = _) : [bo _] = [bo _])
          first
            | (exact bF fun h => absurd (⟨by have := h.1; rw [anms_len]; omega, h.2.1⟩ : OKL (anms list) 8) (by assumption))
            | (refine bF fun h => ?_
               have h1 := h.2.2 _ (getD_mem (show k < list.length by omega) ⟨0, 0, 0⟩)
               unfold okAttr at h1; omega)
            | exact bF fun h => by have := h.1; omega
            | (rw [take_all (by omega)] at hf; exact bT ⟨by omega, by first | exact (‹OKL (anms list) 8›).2 | assumption, hf⟩)
        · try simp only [zq0, zq1, zq2, zq3, zq4, zq5, zq6, zq7, zq8, zq9, zqa, zqb, zqc, zqd, zqe, zqf] at hg4
          refine vo_guard_on rfl rfl rfl ?_
          refine vo_fieldAddr_ptr rfl rfl Try.underlying37 rfl inf3 (by rw [sz3]; decide) ?_
          try simp only [Nat.zero_add]
          refine vo_guard_on rfl rfl rfl ?_
          refine vo_load_var rfl rfl rfl Try.underlying3 rfl rfl ?_
          refine vo_guard_on rfl rfl rfl ?_
          refine vo_call0 Try.func69 rfl rfl rfl rfl isUpTo_sat ?_
          rintro _ _ ⟨rfl, rfl⟩
          refine ⟨rfl, rfl, .inl rfl, ?_⟩
          refine vo_stM ?_
          refine vo_guard_on rfl rfl rfl ?_
          refine vo_not rfl rfl ?_
          refine vo_pick_f rfl rfl ?_
          refine vo_move_pv rfl rfl ?_
          refine vo_split 30 rfl (fun hg5 => ?_) (fun hg5 => ?_)
          · try simp only [zq0, zq1, zq2, zq3, zq4, zq5, zq6, zq7, zq8, zq9, zqa, zqb, zqc, zqd, zqe, zqf] at hg5
            refine vo_guard_off rfl rfl rfl rfl rfl ?_
            refine vo_guard_off rfl rfl rfl rfl rfl ?_
            refine vo_guard_off rfl rfl rfl rfl rfl ?_
            refine vo_guard_off rfl rfl rfl rfl rfl ?_
            refine vo_pick_t rfl rfl ?_
            refine vo_nil ?_
            refine hK12 _ ?_
            refine vc_cond_t rfl ?_
            refine vc_seq fun K14 hK14 => ?_
            refine vc_region ?_
            refine vo_assign_pv rfl rfl ?_
            refine vo_nil ?_
            refine hK14 _ ?_
            refine vc_ret ?_
            change retQ _ _ _ _ _
            refine retQ_sel [] (srows := []) (.inr rfl) hC rfl rfl rfl rfl rfl rfl rfl ?_
            refine ⟨?_, rfl⟩
            refine (congrArg (fun b => [bo b]) (?_ : _ = _) : [bo _] = [bo _])
            first
              | (exact bF fun h => absurd (⟨by have := h.1; rw [anms_len]; omega, h.2.1⟩ : OKL (anms list) 8) (by assumption))
              | (refine bF fun h => ?_
                 have h1 := h.2.2 _ (getD_mem (show k < list.length by omega) ⟨0, 0, 0⟩)
                 unfold okAttr at h1; omega)
              | exact bF fun h => by have := h.1; omega
              | (rw [take_all (by omega)] at hf; exact bT ⟨by omega, by first | exact (‹OKL (anms list) 8›).2 | assumption, hf⟩)
          · try simp only [zq0, zq1, zq2, zq3, zq4, zq5, zq6, zq7, zq8, zq9, zqa, zqb, zqc, zqd, zqe, zqf] at hg5
            refine vo_guard_on rfl rfl rfl ?_
            refine vo_fieldAddr_ptr rfl rfl Try.underlying37 rfl inf3 (by rw [sz3]; decide) ?_
            try simp only [Nat.zero_add]
            refine vo_guard_on rfl rfl rfl ?_
            refine vo_load_var rfl rfl rfl Try.underlying3 rfl rfl ?_
            refine vo_guard_on rfl rfl rfl ?_
            refine vo_call0 Try.func69 rfl rfl rfl rfl isUpTo_sat ?_
            rintro _ _ ⟨rfl, rfl⟩
            refine ⟨rfl, rfl, .inl rfl, ?_⟩
            refine vo_stM ?_
            refine vo_guard_on rfl rfl rfl ?_
            refine vo_not rfl rfl ?_
            refine vo_pick_f rfl rfl ?_
            refine vo_nil ?_
            refine hK12 _ ?_
            refine vc_cond rfl (fun hc6 => ?_) (fun hc6 => ?_)
            · try simp only [zq0, zq1, zq2, zq3, zq4, zq5, zq6, zq7, zq8, zq9, zqa, zqb, zqc, zqd, zqe, zqf] at hc6
              refine vc_seq fun K15 hK15 => ?_
              refine vc_region ?_
              refine vo_assign_pv rfl rfl ?_
              refine vo_nil ?_
              refine hK15 _ ?_
              refine vc_ret ?_
              change retQ _ _ _ _ _
              refine retQ_sel [] (srows := []) (.inr rfl) hC rfl rfl rfl rfl rfl rfl rfl ?_
              refine ⟨?_, rfl⟩
              refine (congrArg (fun b => [bo b]) (?_ : _ = _) : [bo _] = [bo _])
              first
                | (exact bF fun h => absurd (⟨by have := h.1; rw [anms_len]; omega, h.2.1⟩ : OKL (anms list) 8) (by assumption))
                | (refine bF fun h => ?_
                   have h1 := h.2.2 _ (getD_mem (show k < list.length by omega) ⟨0, 0, 0⟩)
                   unfold okAttr at h1; omega)
                | exact bF fun h => by have := h.1; omega
                | (rw [take_all (by omega)] at hf; exact bT ⟨by omega, by first | exact (‹OKL (anms list) 8›).2 | assumption, hf⟩)
            · try simp only [zq0, zq1, zq2, zq3, zq4, zq5, zq6, zq7, zq8, zq9, zqa, zqb, zqc, zqd, zqe, zqf] at hc6
              refine vc_skip ?_
              refine hK10 _ ?_
              refine vc_region ?_
              refine vo_binI rfl rfl rfl rfl sd ?_
              refine vo_move_pv rfl rfl ?_
              refine vo_nil ?_
              change againE _ _ _ _ _ _ _ _ _ _
              refine againE_mk rfl rfl rfl rfl rfl rfl ⟨_, ?_, k + 1, rfl, ?_, ?_, rfl, rfl⟩
              · omega
              · omega
              · exact (all_take_succ (by omega) ⟨0, 0, 0⟩).2 ⟨hf, by unfold okAttr; omega⟩
      · try simp only [zq0, zq1, zq2, zq3, zq4, zq5, zq6, zq7, zq8, zq9, zqa, zqb, zqc, zqd, zqe, zqf] at hc3
        refine vc_exit ?_
        refine hK6 _ ?_
        refine vc_seq fun K16 hK16 => ?_
        refine vc_region ?_
        refine vo_assign_pv rfl rfl ?_
        refine vo_nil ?_
        refine hK16 _ ?_
        refine vc_ret ?_
        change retQ _ _ _ _ _
        refine retQ_sel [] (srows := []) (.inr rfl) hC rfl rfl rfl rfl rfl rfl rfl ?_
        refine ⟨?_, rfl⟩
        refine (congrArg (fun b => [bo b]) (?_ : _ = _) : [bo _] = [bo _])
        first
          | (exact bF fun h => absurd (⟨by have := h.1; rw [anms_len]; omega, h.2.1⟩ : OKL (anms list) 8) (by assumption))
          | (refine bF fun h => ?_
             have h1 := h.2.2 _ (getD_mem (show k < list.length by omega) ⟨0, 0, 0⟩)
             unfold okAttr at h1; omega)
          | exact bF fun h => by have := h.1; omega
          | (rw [take_all (by omega)] at hf; exact bT ⟨by omega, by first | exact (‹OKL (anms list) 8›).2 | assumption, hf⟩)


theorem attrAt_sat {nl0 : Option Bool} {list : List AttrM} {name : Int} (hlist : list.length < 1000000000)  : SatAt Try.prog 85 [.pv false (.sl nl0 3 (list.map attrP)), i64 name] [] (fun res rows => res = [i64 (findM name (anms list) 0)] ∧ rows = []) := by
 refine sat_entry_G (rs := [(4, none)]) Try.func85 rfl rfl (Nat.le_of_ble_eq_true rfl) (Nat.le_of_ble_eq_true rfl) (resTs1 trivial) fun C hC => ?_
 rw [Try.ntmps85]
 replace hC : C.nb = 0 := hC
 refine vc_seq fun K1 hK1 => ?_
 refine vc_region ?_
 refine vo_assign_pv rfl rfl ?_
 refine vo_nil ?_
 refine hK1 _ ?_
 refine vc_seq fun K2 hK2 => ?_
 refine vc_seq fun K3 hK3 => ?_
 refine vc_region ?_
 refine vo_assign_pv rfl rfl ?_
 refine vo_nil ?_
 refine hK3 _ ?_
 refine vc_block ?_
 refine vc_stM ?_
 refine vc_loopE [0, 1] [5] [] _ _ (fun mz vs rs => ∃ (k : Nat), mz = list.length - k ∧ (k ≤ list.length) ∧ (findM name (anms list) 0 = findM name ((anms list).drop k) k) ∧ vs = [i64 k] ∧ rs = []) (list.length) rfl rfl (le_len hC rfl) ⟨rfl, rfl, rfl⟩ rfl ⟨0, rfl, Nat.zero_le _, rfl, rfl, rfl⟩ ?_
 rintro mz vs rs - - ⟨k, rfl, hk, hf, rfl, rfl⟩
 refine vc_stM ?_
 refine vc_seq fun K4 hK4 => ?_
 refine vc_seq fun K5 hK5 => ?_
 refine vc_region ?_
 refine vo_move_pv rfl rfl ?_
 refine vo_move_pv rfl rfl ?_
 refine vo_len_pv rfl rfl Try.underlying63 ?_
 refine vo_binI rfl rfl rfl rfl trivial ?_
 refine vo_nil ?_
 refine hK5 _ ?_
 refine vc_cond rfl (fun hc1 => ?_) (fun hc1 => ?_)
 ·try simp only [zq0, zq1, zq2, zq3, zq4, zq5, zq6, zq7, zq8, zq9, zqa, zqb, zqc, zqd, zqe, zqf] at hc1
  refine vc_skip ?_
  refine hK4 _ ?_
  refine vc_seq fun K6 hK6 => ?_
  refine vc_block ?_
  refine vc_seq fun K7 hK7 => ?_
  refine vc_region ?_
  refine vo_move_pv rfl rfl ?_
  refine vo_move_pv rfl rfl ?_
  refine vo_index_pv (.agg [(.int .i64 0), (.int .i64 0), (.int .i64 0)]) rfl rfl rfl E63.und inf37 sz37 sd sd ?_
  simp only [Int.toNat_natCast, Int.toNat_zero, getD_ints, getD_intss, getD_bools, getD_bytes, PV.cells, getD_ops, getD_pairs, getD_insts, getD_attrs, getD_attrss, getD_objs]
  refine vo_fieldAddr_adr rfl rfl Try.underlying37 rfl inf3 (by rw [sz3]; decide) ?_
  refine vo_load_adr rfl rfl Try.underlying3 rfl ?_
  refine vo_move_pv rfl rfl ?_
  refine vo_binI rfl rfl rfl rfl trivial ?_
  refine vo_nil ?_
  refine hK7 _ ?_
  refine vc_cond rfl (fun hc2 => ?_) (fun hc2 => ?_)
  ·try simp only [zq0, zq1, zq2, zq3, zq4, zq5, zq6, zq7, zq8, zq9, zqa, zqb, zqc, zqd, zqe, zqf] at hc2
   refine vc_seq fun K8 hK8 => ?_
   refine vc_region ?_
   refine vo_move_pv rfl rfl ?_
   refine vo_assign_pv rfl rfl ?_
   refine vo_nil ?_
   refine hK8 _ ?_
   refine vc_ret ?_
   change retQ _ _ _ _ _
   refine retQ_sel [] (srows := []) (.inr rfl) hC rfl rfl rfl rfl rfl rfl rfl ?_
   refine ⟨?_, rfl⟩
   refine (congrArg (fun b => [i64 b]) (?_ : _ = _) : [i64 _] = [i64 _])
   rw [hf, findM_anms _ _ _ (by omega), if_pos (by omega)]
  ·try simp only [zq0, zq1, zq2, zq3, zq4, zq5, zq6, zq7, zq8, zq9, zqa, zqb, zqc, zqd, zqe, zqf] at hc2
   refine vc_skip ?_
   refine hK6 _ ?_
   refine vc_region ?_
   refine vo_move_pv rfl rfl ?_
   refine vo_binI rfl rfl rfl rfl sd ?_
   refine vo_assign_pv rfl rfl ?_
   refine vo_nil ?_
   change againE _ _ _ _ _ _ _ _ _ _
   refine againE_mk rfl rfl rfl rfl rfl rfl ⟨_, ?_, k + 1, rfl, ?_, ?_, rfl, rfl⟩
   ·omega
   ·omega
   ·rw [hf, findM_anms _ _ _ (by omega), if_neg (by omega)]; rfl
 ·try simp only [zq0, zq1, zq2, zq3, zq4, zq5, zq6, zq7, zq8, zq9, zqa, zqb, zqc, zqd, zqe, zqf] at hc1
  refine vc_exit ?_
  refine hK2 _ ?_
  refine vc_seq fun K9 hK9 => ?_
  refine vc_region ?_
  refine vo_assign_pv rfl rfl ?_
  refine vo_nil ?_
  refine hK9 _ ?_
  refine vc_ret ?_
  change retQ _ _ _ _ _
  refine retQ_sel [] (srows := []) (.inr rfl) hC rfl rfl rfl rfl rfl rfl rfl ?_
  refine ⟨?_, rfl⟩
  refine (congrArg (fun b => [i64 b]) (?_ : _ = _) : [i64 _] = [i64 _])
  rw [hf, show k = (anms list).length by rw [anms_len]; omega, List.drop_length]; rfl


theorem validAttrs_sat {nl0 : Option Bool} {list : List AttrM} (hlist : list.length < 1000000000)  : SatAt Try.prog 81 [.pv false (.sl nl0 3 (list.map attrP))] [] (fun res rows => res = [bo (decide (AAttrs list))] ∧ rows = []) := by
  refine sat_entry_G (rs := [(2, none)]) Try.func81 rfl rfl (Nat.le_of_ble_eq_true rfl) (Nat.le_of_ble_eq_true rfl) (resTs1 trivial) fun C hC => ?_
  rw [Try.ntmps81]
  replace hC : C.nb = 0 := hC
  refine vc_seq fun K1 hK1 => ?_
  refine vc_region ?_
  refine vo_assign_pv rfl rfl ?_
  refine vo_nil ?_
  refine hK1 _ ?_
  refine vc_seq fun K2 hK2 => ?_
  refine vc_seq fun K3 hK3 => ?_
  refine vc_region ?_
  refine vo_assign_pv rfl rfl ?_
  refine vo_nil ?_
  refine hK3 _ ?_
  refine vc_block ?_
  refine vc_stM ?_
  refine vc_loopE [0] [3] [] _ _ (fun mz vs rs => ∃ (k : Nat), mz = list.length - k ∧ (k ≤ list.length) ∧ ((anms (list.take k)).Nodup ∧ ∀ a ∈ list.take k, okAttr a) ∧ vs = [i64 k] ∧ rs = []) (list.length) rfl rfl (le_len hC rfl) ⟨rfl, rfl, rfl⟩ rfl ⟨0, rfl, Nat.zero_le _, (by simp [anms]), rfl, rfl⟩ ?_
  rintro mz vs rs - - ⟨k, rfl, hk, hf, rfl, rfl⟩
  refine vc_stM ?_
  refine vc_seq fun K4 hK4 => ?_
  refine vc_seq fun K5 hK5 => ?_
  refine vc_region ?_
  refine vo_move_pv rfl rfl ?_
  refine vo_move_pv rfl rfl ?_
  refine vo_len_pv rfl rfl Try.underlying63 ?_
  refine vo_binI rfl rfl rfl rfl trivial ?_
  refine vo_nil ?_
  refine hK5 _ ?_
  refine vc_cond rfl (fun hc1 => ?_) (fun hc1 => ?_)
  · try simp only [zq0, zq1, zq2, zq3, zq4, zq5, zq6, zq7, zq8, zq9, zqa, zqb, zqc, zqd, zqe, zqf] at hc1
    refine vc_skip ?_
    refine hK4 _ ?_
    refine vc_seq fun K6 hK6 => ?_
    refine vc_block ?_
    refine vc_seq fun K7 hK7 => ?_
    refine vc_draw (by kernel_rfl) ?_
    change VD _ _ _ 37 _ _ _
    refine vd_light 0 rfl rfl rfl (by kernel_rfl) (by kernel_rfl) (by kernel_rfl) (wnt_none rfl) (lt_move_pv rfl) ?_
    refine vd_light 1 rfl rfl rfl (by kernel_rfl) (by kernel_rfl) (by kernel_rfl) (wnt_none rfl) (lt_move_pv rfl) ?_
    refine vd_light 2 rfl rfl rfl (by kernel_rfl) (by kernel_rfl) (by kernel_rfl) (wnt_none rfl) (lt_slice_pv rfl rfl rfl E63.und inf37 sz37 sd sd sd) ?_
    simp only [Int.toNat_natCast, Int.toNat_zero, List.drop_zero, Nat.sub_zero, ← List.map_drop, ← List.map_take]
    refine vd_light 3 rfl rfl rfl (by kernel_rfl) (by kernel_rfl) (by kernel_rfl) (wnt_none rfl) (lt_move_pv rfl) ?_
    refine vd_light 4 rfl rfl rfl (by kernel_rfl) (by kernel_rfl) (by kernel_rfl) (wnt_none rfl) (lt_move_pv rfl) ?_
    refine vd_light 5 rfl rfl rfl (by kernel_rfl) (by kernel_rfl) (by kernel_rfl) (wnt_none rfl) (lt_index_pv (.agg [(.int .i64 0), (.int .i64 0), (.int .i64 0)]) rfl rfl E63.und inf37 sz37 sd sd) ?_
    simp only [Int.toNat_natCast, Int.toNat_zero, getD_ints, getD_intss, getD_bools, getD_bytes, PV.cells, getD_ops, getD_pairs, getD_insts, getD_attrs, getD_attrss, getD_objs]
    refine vd_light 6 rfl rfl rfl (by kernel_rfl) (by kernel_rfl) (by kernel_rfl) (wnt_none rfl) (lt_fieldAddr_adr rfl Try.underlying37 rfl inf3 (by rw [sz3]; decide)) ?_
    refine vd_light 7 rfl rfl rfl (by kernel_rfl) (by kernel_rfl) (by kernel_rfl) (wnt_none rfl) (lt_load_adr rfl Try.underlying3 rfl) ?_
    refine vd_call 8 rfl (by kernel_rfl) (wnt_none rfl) Try.func85 rfl rfl rfl rfl (attrAt_sat (list := list.take k) (by simp; omega)) ?_
    rintro _ _ ⟨rfl, rfl⟩
    refine ⟨rfl, rfl, .inl rfl, ?_⟩
    refine vd_stM ?_
    refine vd_light 9 rfl rfl rfl (by kernel_rfl) (by kernel_rfl) (by kernel_rfl) (wnt_none rfl) (lt_binI rfl rfl rfl trivial) ?_
    refine vd_light 10 rfl rfl rfl (by kernel_rfl) (by kernel_rfl) (by kernel_rfl) (wnt_none rfl) (lt_move_pv rfl) ?_
    refine vd_split 20 rfl (fun hg2 => ?_) (fun hg2 => ?_)
    · try simp only [zq0, zq1, zq2, zq3, zq4, zq5, zq6, zq7, zq8, zq9, zqa, zqb, zqc, zqd, zqe, zqf] at hg2
      refine vd_skip 11 rfl rfl rfl (by kernel_rfl) (by kernel_rfl) (by kernel_rfl) (wnt_off rfl rfl rfl rfl rfl) ?_
      refine vd_skip 12 rfl rfl rfl (by kernel_rfl) (by kernel_rfl) (by kernel_rfl) (wnt_off rfl rfl rfl rfl rfl) ?_
      refine vd_skip 13 rfl rfl rfl (by kernel_rfl) (by kernel_rfl) (by kernel_rfl) (wnt_off rfl rfl rfl rfl rfl) ?_
      refine vd_skip 14 rfl rfl rfl (by kernel_rfl) (by kernel_rfl) (by kernel_rfl) (wnt_off rfl rfl rfl rfl rfl) ?_
      refine vd_skip 15 rfl rfl rfl (by kernel_rfl) (by kernel_rfl) (by kernel_rfl) (wnt_off rfl rfl rfl rfl rfl) ?_
      refine vd_skip 16 rfl rfl rfl (by kernel_rfl) (by kernel_rfl) (by kernel_rfl) (wnt_off rfl rfl rfl rfl rfl) ?_
      refine vd_skip 17 rfl rfl rfl (by kernel_rfl) (by kernel_rfl) (by kernel_rfl) (wnt_off rfl rfl rfl rfl rfl) ?_
      refine vd_light 18 rfl rfl rfl (by kernel_rfl) (by kernel_rfl) (by kernel_rfl) (wnt_none rfl) (lt_pick_t rfl) ?_
      refine vd_light 19 rfl rfl rfl (by kernel_rfl) (by kernel_rfl) (by kernel_rfl) (wnt_none rfl) (lt_move_pv rfl) ?_
      refine vd_skip 20 rfl rfl rfl (by kernel_rfl) (by kernel_rfl) (by kernel_rfl) (wnt_off rfl rfl rfl rfl rfl) ?_
      refine vd_skip 21 rfl rfl rfl (by kernel_rfl) (by kernel_rfl) (by kernel_rfl) (wnt_off rfl rfl rfl rfl rfl) ?_
      refine vd_skip 22 rfl rfl rfl (by kernel_rfl) (by kernel_rfl) (by kernel_rfl) (wnt_off rfl rfl rfl rfl rfl) ?_
      refine vd_skip 23 rfl rfl rfl (by kernel_rfl) (by kernel_rfl) (by kernel_rfl) (wnt_off rfl rfl rfl rfl rfl) ?_
      refine vd_skip 24 rfl rfl rfl (by kernel_rfl) (by kernel_rfl) (by kernel_rfl) (wnt_off rfl rfl rfl rfl rfl) ?_
      refine vd_skip 25 rfl rfl rfl (by kernel_rfl) (by kernel_rfl) (by kernel_rfl) (wnt_off rfl rfl rfl rfl rfl) ?_
      refine vd_skip 26 rfl rfl rfl (by kernel_rfl) (by kernel_rfl) (by kernel_rfl) (wnt_off rfl rfl rfl rfl rfl) ?_
      refine vd_light 27 rfl rfl rfl (by kernel_rfl) (by kernel_rfl) (by kernel_rfl) (wnt_none rfl) (lt_pick_t rfl) ?_
      refine vd_light 28 rfl rfl rfl (by kernel_rfl) (by kernel_rfl) (by kernel_rfl) (wnt_none rfl) (lt_move_pv rfl) ?_
      refine vd_skip 29 rfl rfl rfl (by kernel_rfl) (by kernel_rfl) (by kernel_rfl) (wnt_off rfl rfl rfl rfl rfl) ?_
      refine vd_skip 30 rfl rfl rfl (by kernel_rfl) (by kernel_rfl) (by kernel_rfl) (wnt_off rfl rfl rfl rfl rfl) ?_
      refine vd_skip 31 rfl rfl rfl (by kernel_rfl) (by kernel_rfl) (by kernel_rfl) (wnt_off rfl rfl rfl rfl rfl) ?_
      refine vd_skip 32 rfl rfl rfl (by kernel_rfl) (by kernel_rfl) (by kernel_rfl) (wnt_off rfl rfl rfl rfl rfl) ?_
      refine vd_skip 33 rfl rfl rfl (by kernel_rfl) (by kernel_rfl) (by kernel_rfl) (wnt_off rfl rfl rfl rfl rfl) ?_
      refine vd_skip 34 rfl rfl rfl (by kernel_rfl) (by kernel_rfl) (by kernel_rfl) (wnt_off rfl rfl rfl rfl rfl) ?_
      refine vd_skip 35 rfl rfl rfl (by kernel_rfl) (by kernel_rfl) (by kernel_rfl) (wnt_off rfl rfl rfl rfl rfl) ?_
      refine vd_light 36 rfl rfl rfl (by kernel_rfl) (by kernel_rfl) (by kernel_rfl) (wnt_none rfl) (lt_pick_t rfl) ?_
      refine vd_nil (by kernel_rfl) ?_
      refine hK7 _ ?_
      refine vc_cond_t rfl ?_
      refine vc_seq fun K8 hK8 => ?_
      refine vc_region ?_
      refine vo_assign_pv rfl rfl ?_
      refine vo_nil ?_
      refine hK8 _ ?_
      refine vc_ret ?_
      change retQ _ _ _ _ _
      refine retQ_sel [] (srows := []) (.inr rfl) hC rfl rfl rfl rfl rfl rfl rfl ?_
      refine ⟨?_, rfl⟩
      refine (congrArg (fun b => [bo b]) (?_ : _ = _) : [bo _] = [bo _])
      first
        | (exact bF fun h => ((nodup_anms_succ (by omega)).1 (nodup_anms_take (k+1) h.2.1)).2 ((findM_mem _ _ 0 (by omega)).1 (by omega)))
        | (refine bF fun h => ?_
           have h1 := h.2.2 _ (getD_mem (show k < list.length by omega) ⟨0, 0, 0⟩)
           unfold okAttr at h1; omega)
        | (rw [take_all (by omega)] at hf; exact decide_eq_decide.2 ⟨fun h => ⟨by simp at h; omega, hf.1, hf.2⟩, fun h => by have := h.1; simp; omega⟩)
    · try simp only [zq0, zq1, zq2, zq3, zq4, zq5, zq6, zq7, zq8, zq9, zqa, zqb, zqc, zqd, zqe, zqf] at hg2
      refine vd_light 11 rfl rfl rfl (by kernel_rfl) (by kernel_rfl) (by kernel_rfl) (wnt_on rfl rfl rfl rfl) (lt_move_pv rfl) ?_
      refine vd_light 12 rfl rfl rfl (by kernel_rfl) (by kernel_rfl) (by kernel_rfl) (wnt_on rfl rfl rfl rfl) (lt_move_pv rfl) ?_
      refine vd_light 13 rfl rfl rfl (by kernel_rfl) (by kernel_rfl) (by kernel_rfl) (wnt_on rfl rfl rfl rfl) (lt_index_pv (.agg [(.int .i64 0), (.int .i64 0), (.int .i64 0)]) rfl rfl E63.und inf37 sz37 sd sd) ?_
      simp only [Int.toNat_natCast, Int.toNat_zero, getD_ints, getD_intss, getD_bools, getD_bytes, PV.cells, getD_ops, getD_pairs, getD_insts, getD_attrs, getD_attrss, getD_objs]
      refine vd_light 14 rfl rfl rfl (by kernel_rfl) (by kernel_rfl) (by kernel_rfl) (wnt_on rfl rfl rfl rfl) (lt_fieldAddr_adr rfl Try.underlying37 rfl inf3 (by rw [sz3]; decide)) ?_
      refine vd_light 15 rfl rfl rfl (by kernel_rfl) (by kernel_rfl) (by kernel_rfl) (wnt_on rfl rfl rfl rfl) (lt_load_adr rfl Try.underlying3 rfl) ?_
      refine vd_call 16 rfl (by kernel_rfl) (wnt_on rfl rfl rfl rfl) Try.func35 rfl rfl rfl rfl inRange_sat ?_
      rintro _ _ ⟨rfl, rfl⟩
      refine ⟨rfl, rfl, .inl rfl, ?_⟩
      refine vd_stM ?_
      refine vd_light 17 rfl rfl rfl (by kernel_rfl) (by kernel_rfl) (by kernel_rfl) (wnt_on rfl rfl rfl rfl) (lt_not rfl) ?_
      refine vd_light 18 rfl rfl rfl (by kernel_rfl) (by kernel_rfl) (by kernel_rfl) (wnt_none rfl) (lt_pick_f rfl) ?_
      refine vd_light 19 rfl rfl rfl (by kernel_rfl) (by kernel_rfl) (by kernel_rfl) (wnt_none rfl) (lt_move_pv rfl) ?_
      refine vd_split 29 rfl (fun hg3 => ?_) (fun hg3 => ?_)
      · try simp only [zq0, zq1, zq2, zq3, zq4, zq5, zq6, zq7, zq8, zq9, zqa, zqb, zqc, zqd, zqe, zqf] at hg3
        refine vd_skip 20 rfl rfl rfl (by kernel_rfl) (by kernel_rfl) (by kernel_rfl) (wnt_off rfl rfl rfl rfl rfl) ?_
        refine vd_skip 21 rfl rfl rfl (by kernel_rfl) (by kernel_rfl) (by kernel_rfl) (wnt_off rfl rfl rfl rfl rfl) ?_
        refine vd_skip 22 rfl rfl rfl (by kernel_rfl) (by kernel_rfl) (by kernel_rfl) (wnt_off rfl rfl rfl rfl rfl) ?_
        refine vd_skip 23 rfl rfl rfl (by kernel_rfl) (by kernel_rfl) (by kernel_rfl) (wnt_off rfl rfl rfl rfl rfl) ?_
        refine vd_skip 24 rfl rfl rfl (by kernel_rfl) (by kernel_rfl) (by kernel_rfl) (wnt_off rfl rfl rfl rfl rfl) ?_
        refine vd_skip 25 rfl rfl rfl (by kernel_rfl) (by kernel_rfl) (by kernel_rfl) (wnt_off rfl rfl rfl rfl rfl) ?_
        refine vd_skip 26 rfl rfl rfl (by kernel_rfl) (by kernel_rfl) (by kernel_rfl) (wnt_off rfl rfl rfl rfl rfl) ?_
        refine vd_light 27 rfl rfl rfl (by kernel_rfl) (by kernel_rfl) (by kernel_rfl) (wnt_none rfl) (lt_pick_t rfl) ?_
        refine vd_light 28 rfl rfl rfl (by kernel_rfl) (by kernel_rfl) (by kernel_rfl) (wnt_none rfl) (lt_move_pv rfl) ?_
        refine vd_skip 29 rfl rfl rfl (by kernel_rfl) (by kernel_rfl) (by kernel_rfl) (wnt_off rfl rfl rfl rfl rfl) ?_
        refine vd_skip 30 rfl rfl rfl (by kernel_rfl) (by kernel_rfl) (by kernel_rfl) (wnt_off rfl rfl rfl rfl rfl) ?_
        refine vd_skip 31 rfl rfl rfl (by kernel_rfl) (by kernel_rfl) (by kernel_rfl) (wnt_off rfl rfl rfl rfl rfl) ?_
        refine vd_skip 32 rfl rfl rfl (by kernel_rfl) (by kernel_rfl) (by kernel_rfl) (wnt_off rfl rfl rfl rfl rfl) ?_
        refine vd_skip 33 rfl rfl rfl (by kernel_rfl) (by kernel_rfl) (by kernel_rfl) (wnt_off rfl rfl rfl rfl rfl) ?_
        refine vd_skip 34 rfl rfl rfl (by kernel_rfl) (by kernel_rfl) (by kernel_rfl) (wnt_off rfl rfl rfl rfl rfl) ?_
        refine vd_skip 35 rfl rfl rfl (by kernel_rfl) (by kernel_rfl) (by kernel_rfl) (wnt_off rfl rfl rfl rfl rfl) ?_
        refine vd_light 36 rfl rfl rfl (by kernel_rfl) (by kernel_rfl) (by kernel_rfl) (wnt_none rfl) (lt_pick_t rfl) ?_
        refine vd_nil (by kernel_rfl) ?_
        refine hK7 _ ?_
        refine vc_cond_t rfl ?_
        refine vc_seq fun K9 hK9 => ?_
        refine vc_region ?_
        refine vo_assign_pv rfl rfl ?_
        refine vo_nil ?_
        refine hK9 _ ?_
        refine vc_ret ?_
        change retQ _ _ _ _ _
        refine retQ_sel [] (srows := []) (.inr rfl) hC rfl rfl rfl rfl rfl rfl rfl ?_
        refine ⟨?_, rfl⟩
        refine (congrArg (fun b => [bo b]) (?_ : _ = _) : [bo _] = [bo _])
        first
          | (exact bF fun h => ((nodup_anms_succ (by omega)).1 (nodup_anms_take (k+1) h.2.1)).2 ((findM_mem _ _ 0 (by omega)).1 (by omega)))
          | (refine bF fun h => ?_
             have h1 := h.2.2 _ (getD_mem (show k < list.length by omega) ⟨0, 0, 0⟩)
             unfold okAttr at h1; omega)
          | (rw [take_all (by omega)] at hf; exact decide_eq_decide.2 ⟨fun h => ⟨by simp at h; omega, hf.1, hf.2⟩, fun h => by have := h.1; simp; omega⟩)
      · try simp only [zq0, zq1, zq2, zq3, zq4, zq5, zq6, zq7, zq8, zq9, zqa, zqb, zqc, zqd, zqe, zqf] at hg3
        refine vd_light 20 rfl rfl rfl (by kernel_rfl) (by kernel_rfl) (by kernel_rfl) (wnt_on rfl rfl rfl rfl) (lt_move_pv rfl) ?_
        refine vd_light 21 rfl rfl rfl (by kernel_rfl) (by kernel_rfl) (by kernel_rfl) (wnt_on rfl rfl rfl rfl) (lt_move_pv rfl) ?_
        refine vd_light 22 rfl rfl rfl (by kernel_rfl) (by kernel_rfl) (by kernel_rfl) (wnt_on rfl rfl rfl rfl) (lt_index_pv (.agg [(.int .i64 0), (.int .i64 0), (.int .i64 0)]) rfl rfl E63.und inf37 sz37 sd sd) ?_
        simp only [Int.toNat_natCast, Int.toNat_zero, getD_ints, getD_intss, getD_bools, getD_bytes, PV.cells, getD_ops, getD_pairs, getD_insts, getD_attrs, getD_attrss, getD_objs]
        refine vd_light 23 rfl rfl rfl (by kernel_rfl) (by kernel_rfl) (by kernel_rfl) (wnt_on rfl rfl rfl rfl) (lt_fieldAddr_adr rfl Try.underlying37 rfl inf3 (by rw [sz3]; decide)) ?_
        refine vd_light 24 rfl rfl rfl (by kernel_rfl) (by kernel_rfl) (by kernel_rfl) (wnt_on rfl rfl rfl rfl) (lt_load_adr rfl Try.underlying3 rfl) ?_
        refine vd_call 25 rfl (by kernel_rfl) (wnt_on rfl rfl rfl rfl) Try.func35 rfl rfl rfl rfl inRange_sat ?_
        rintro _ _ ⟨rfl, rfl⟩
        refine ⟨rfl, rfl, .inl rfl, ?_⟩
        refine vd_stM ?_
        refine vd_light 26 rfl rfl rfl (by kernel_rfl) (by kernel_rfl) (by kernel_rfl) (wnt_on rfl rfl rfl rfl) (lt_not rfl) ?_
        refine vd_light 27 rfl rfl rfl (by kernel_rfl) (by kernel_rfl) (by kernel_rfl) (wnt_none rfl) (lt_pick_f rfl) ?_
        refine vd_light 28 rfl rfl rfl (by kernel_rfl) (by kernel_rfl) (by kernel_rfl) (wnt_none rfl) (lt_move_pv rfl) ?_
        refine vd_split 38 rfl (fun hg4 => ?_) (fun hg4 => ?_)
        · try simp only [zq0, zq1, zq2, zq3, zq4, zq5, zq6, zq7, zq8, zq9, zqa, zqb, zqc, zqd, zqe, zqf] at hg4
          refine vd_skip 29 rfl rfl rfl (by kernel_rfl) (by kernel_rfl) (by kernel_rfl) (wnt_off rfl rfl rfl rfl rfl) ?_
          refine vd_skip 30 rfl rfl rfl (by kernel_rfl) (by kernel_rfl) (by kernel_rfl) (wnt_off rfl rfl rfl rfl rfl) ?_
          refine vd_skip 31 rfl rfl rfl (by kernel_rfl) (by kernel_rfl) (by kernel_rfl) (wnt_off rfl rfl rfl rfl rfl) ?_
          refine vd_skip 32 rfl rfl rfl (by kernel_rfl) (by kernel_rfl) (by kernel_rfl) (wnt_off rfl rfl rfl rfl rfl) ?_
          refine vd_skip 33 rfl rfl rfl (by kernel_rfl) (by kernel_rfl) (by kernel_rfl) (wnt_off rfl rfl rfl rfl rfl) ?_
          refine vd_skip 34 rfl rfl rfl (by kernel_rfl) (by kernel_rfl) (by kernel_rfl) (wnt_off rfl rfl rfl rfl rfl) ?_
          refine vd_skip 35 rfl rfl rfl (by kernel_rfl) (by kernel_rfl) (by kernel_rfl) (wnt_off rfl rfl rfl rfl rfl) ?_
          refine vd_light 36 rfl rfl rfl (by kernel_rfl) (by kernel_rfl) (by kernel_rfl) (wnt_none rfl) (lt_pick_t rfl) ?_
          refine vd_nil (by kernel_rfl) ?_
          refine hK7 _ ?_
          refine vc_cond_t rfl ?_
          refine vc_seq fun K10 hK10 => ?_
          refine vc_region ?_
          refine vo_assign_pv rfl rfl ?_
          refine vo_nil ?_
          refine hK10 _ ?_
          refine vc_ret ?_
          change retQ _ _ _ _ _
          refine retQ_sel [] (srows := []) (.inr rfl) hC rfl rfl rfl rfl rfl rfl rfl ?_
          refine ⟨?_, rfl⟩
          refine (congrArg (fun b => [bo b]) (?_ : _ = _) : [bo _] = [bo _])
          first
            | (exact bF fun h => ((nodup_anms_succ (by omega)).1 (nodup_anms_take (k+1) h.2.1)).2 ((findM_mem _ _ 0 (by omega)).1 (by omega)))
            | (refine bF fun h => ?_
               have h1 := h.2.2 _ (getD_mem (show k < list.length by omega) ⟨0, 0, 0⟩)
               unfold okAttr at h1; omega)
            | (rw [take_all (by omega)] at hf; exact decide_eq_decide.2 ⟨fun h => ⟨by simp at h; omega, hf.1, hf.2⟩, fun h => by have := h.1; simp; omega⟩)
        · try simp only [zq0, zq1, zq2, zq3, zq4, zq5, zq6, zq7, zq8, zq9, zqa, zqb, zqc, zqd, zqe, zqf] at hg4
          refine vd_light 29 rfl rfl rfl (by kernel_rfl) (by kernel_rfl) (by kernel_rfl) (wnt_on rfl rfl rfl rfl) (lt_move_pv rfl) ?_
          refine vd_light 30 rfl rfl rfl (by kernel_rfl) (by kernel_rfl) (by kernel_rfl) (wnt_on rfl rfl rfl rfl) (lt_move_pv rfl) ?_
          refine vd_light 31 rfl rfl rfl (by kernel_rfl) (by kernel_rfl) (by kernel_rfl) (wnt_on rfl rfl rfl rfl) (lt_index_pv (.agg [(.int .i64 0), (.int .i64 0), (.int .i64 0)]) rfl rfl E63.und inf37 sz37 sd sd) ?_
          simp only [Int.toNat_natCast, Int.toNat_zero, getD_ints, getD_intss, getD_bools, getD_bytes, PV.cells, getD_ops, getD_pairs, getD_insts, getD_attrs, getD_attrss, getD_objs]
          refine vd_light 32 rfl rfl rfl (by kernel_rfl) (by kernel_rfl) (by kernel_rfl) (wnt_on rfl rfl rfl rfl) (lt_fieldAddr_adr rfl Try.underlying37 rfl inf3 (by rw [sz3]; decide)) ?_
          refine vd_light 33 rfl rfl rfl (by kernel_rfl) (by kernel_rfl) (by kernel_rfl) (wnt_on rfl rfl rfl rfl) (lt_load_adr rfl Try.underlying3 rfl) ?_
          refine vd_call 34 rfl (by kernel_rfl) (wnt_on rfl rfl rfl rfl) Try.func35 rfl rfl rfl rfl inRange_sat ?_
          rintro _ _ ⟨rfl, rfl⟩
          refine ⟨rfl, rfl, .inl rfl, ?_⟩
          refine vd_stM ?_
          refine vd_light 35 rfl rfl rfl (by kernel_rfl) (by kernel_rfl) (by kernel_rfl) (wnt_on rfl rfl rfl rfl) (lt_not rfl) ?_
          refine vd_light 36 rfl rfl rfl (by kernel_rfl) (by kernel_rfl) (by kernel_rfl) (wnt_none rfl) (lt_pick_f rfl) ?_
          refine vd_nil (by kernel_rfl) ?_
          refine hK7 _ ?_
          refine vc_cond rfl (fun hc5 => ?_) (fun hc5 => ?_)
          · try simp only [zq0, zq1, zq2, zq3, zq4, zq5, zq6, zq7, zq8, zq9, zqa, zqb, zqc, zqd, zqe, zqf] at hc5
            refine vc_seq fun K11 hK11 => ?_
            refine vc_region ?_
            refine vo_assign_pv rfl rfl ?_
            refine vo_nil ?_
            refine hK11 _ ?_
            refine vc_ret ?_
            change retQ _ _ _ _ _
            refine retQ_sel [] (srows := []) (.inr rfl) hC rfl rfl rfl rfl rfl rfl rfl ?_
            refine ⟨?_, rfl⟩
            refine (congrArg (fun b => [bo b]) (?_ : _ = _) : [bo _] = [bo _])
            first
              | (exact bF fun h => ((nodup_anms_succ (by omega)).1 (nodup_anms_take (k+1) h.2.1)).2 ((findM_mem _ _ 0 (by omega)).1 (by omega)))
              | (refine bF fun h => ?_
                 have h1 := h.2.2 _ (getD_mem (show k < list.length by omega) ⟨0, 0, 0⟩)
                 unfold okAttr at h1; omega)
              | (rw [take_all (by omega)] at hf; exact decide_eq_decide.2 ⟨fun h => ⟨by simp at h; omega, hf.1, hf.2⟩, fun h => by have := h.1; simp; omega⟩)
          · try simp only [zq0, zq1, zq2, zq3, zq4, zq5, zq6, zq7, zq8, zq9, zqa, zqb, zqc, zqd, zqe, zqf] at hc5
            refine vc_skip ?_
            refine hK6 _ ?_
            refine vc_region ?_
            refine vo_move_pv rfl rfl ?_
            refine vo_binI rfl rfl rfl rfl sd ?_
            refine vo_assign_pv rfl rfl ?_
            refine vo_nil ?_
            change againE _ _ _ _ _ _ _ _ _ _
            refine againE_mk rfl rfl rfl rfl rfl rfl ⟨_, ?_, k + 1, rfl, ?_, ?_, rfl, rfl⟩
            · omega
            · omega
            · exact ⟨(nodup_anms_succ (by omega)).2 ⟨hf.1, (findM_not _ _ 0 (by omega)).1 (by omega)⟩, (all_take_succ (by omega) ⟨0, 0, 0⟩).2 ⟨hf.2, by unfold okAttr; omega⟩⟩
  · try simp only [zq0, zq1, zq2, zq3, zq4, zq5, zq6, zq7, zq8, zq9, zqa, zqb, zqc, zqd, zqe, zqf] at hc1
    refine vc_exit ?_
    refine hK2 _ ?_
    refine vc_seq fun K12 hK12 => ?_
    refine vc_region ?_
    refine vo_move_pv rfl rfl ?_
    refine vo_len_pv rfl rfl Try.underlying63 ?_
    refine vo_binI rfl rfl rfl rfl trivial ?_
    refine vo_assign_pv rfl rfl ?_
    refine vo_nil ?_
    refine hK12 _ ?_
    refine vc_ret ?_
    change retQ _ _ _ _ _
    refine retQ_sel [] (srows := []) (.inr rfl) hC rfl rfl rfl rfl rfl rfl rfl ?_
    refine ⟨?_, rfl⟩
    refine (congrArg (fun b => [bo b]) (?_ : _ = _) : [bo _] = [bo _])
    first
      | (exact bF fun h => ((nodup_anms_succ (by omega)).1 (nodup_anms_take (k+1) h.2.1)).2 ((findM_mem _ _ 0 (by omega)).1 (by omega)))
      | (refine bF fun h => ?_
         have h1 := h.2.2 _ (getD_mem (show k < list.length by omega) ⟨0, 0, 0⟩)
         unfold okAttr at h1; omega)
      | (rw [take_all (by omega)] at hf; exact decide_eq_decide.2 ⟨fun h => ⟨by simp at h; omega, hf.1, hf.2⟩, fun h => by have := h.1; simp; omega⟩)


theorem validPairs_sat {nl0 : Option Bool} {list : List (Int × Int)} (hlist : list.length < 1000000000)  : SatAt Try.prog 83 [.pv false (.sl nl0 2 (list.map pairP))] [] (fun res rows => res = [bo (decide (∀ p ∈ list, okPair p))] ∧ rows = []) := by
  refine sat_entry_G (rs := [(2, none)]) Try.func83 rfl rfl (Nat.le_of_ble_eq_true rfl) (Nat.le_of_ble_eq_true rfl) (resTs1 trivial) fun C hC => ?_
  rw [Try.ntmps83]
  replace hC : C.nb = 0 := hC
  refine vc_seq fun K1 hK1 => ?_
  refine vc_region ?_
  refine vo_assign_pv rfl rfl ?_
  refine vo_nil ?_
  refine hK1 _ ?_
  refine vc_seq fun K2 hK2 => ?_
  refine vc_seq fun K3 hK3 => ?_
  refine vc_region ?_
  refine vo_assign_pv rfl rfl ?_
  refine vo_nil ?_
  refine hK3 _ ?_
  refine vc_block ?_
  refine vc_stM ?_
  refine vc_loopE [0] [3] [] _ _ (fun mz vs rs => ∃ (k : Nat), mz = list.length - k ∧ (k ≤ list.length) ∧ (∀ p ∈ list.take k, okPair p) ∧ vs = [i64 k] ∧ rs = []) (list.length) rfl rfl (le_len hC rfl) ⟨rfl, rfl, rfl⟩ rfl ⟨0, rfl, Nat.zero_le _, (by simp), rfl, rfl⟩ ?_
  rintro mz vs rs - - ⟨k, rfl, hk, hf, rfl, rfl⟩
  refine vc_stM ?_
  refine vc_seq fun K4 hK4 => ?_
  refine vc_seq fun K5 hK5 => ?_
  refine vc_region ?_
  refine vo_move_pv rfl rfl ?_
  refine vo_move_pv rfl rfl ?_
  refine vo_len_pv rfl rfl Try.underlying60 ?_
  refine vo_binI rfl rfl rfl rfl trivial ?_
  refine vo_nil ?_
  refine hK5 _ ?_
  refine vc_cond rfl (fun hc1 => ?_) (fun hc1 => ?_)
  · try simp only [zq0, zq1, zq2, zq3, zq4, zq5, zq6, zq7, zq8, zq9, zqa, zqb, zqc, zqd, zqe, zqf] at hc1
    refine vc_skip ?_
    refine hK4 _ ?_
    refine vc_seq fun K6 hK6 => ?_
    refine vc_block ?_
    refine vc_seq fun K7 hK7 => ?_
    refine vc_region ?_
    refine vo_move_pv rfl rfl ?_
    refine vo_move_pv rfl rfl ?_
    refine vo_index_pv (.agg [(.int .i64 0), (.int .i64 0)]) rfl rfl rfl E60.und inf123 sz123 sd sd ?_
    simp only [Int.toNat_natCast, Int.toNat_zero, getD_ints, getD_intss, getD_bools, getD_bytes, PV.cells, getD_ops, getD_pairs, getD_insts, getD_attrs, getD_attrss, getD_objs]
    refine vo_fieldAddr_adr rfl rfl Try.underlying123 rfl inf3 (by rw [sz3]; decide) ?_
    refine vo_load_adr rfl rfl Try.underlying3 rfl ?_
    refine vo_call0 Try.func35 rfl rfl rfl rfl inRange_sat ?_
    rintro _ _ ⟨rfl, rfl⟩
    refine ⟨rfl, rfl, .inl rfl, ?_⟩
    refine vo_stM ?_
    refine vo_not rfl rfl ?_
    refine vo_move_pv rfl rfl ?_
    refine vo_split 17 rfl (fun hg2 => ?_) (fun hg2 => ?_)
    · try simp only [zq0, zq1, zq2, zq3, zq4, zq5, zq6, zq7, zq8, zq9, zqa, zqb, zqc, zqd, zqe, zqf] at hg2
      refine vo_guard_off rfl rfl rfl rfl rfl ?_
      refine vo_guard_off rfl rfl rfl rfl rfl ?_
      refine vo_guard_off rfl rfl rfl rfl rfl ?_
      refine vo_guard_off rfl rfl rfl rfl rfl ?_
      refine vo_guard_off rfl rfl rfl rfl rfl ?_
      refine vo_guard_off rfl rfl rfl rfl rfl ?_
      refine vo_guard_off rfl rfl rfl rfl rfl ?_
      refine vo_pick_t rfl rfl ?_
      refine vo_nil ?_
      refine hK7 _ ?_
      refine vc_cond_t rfl ?_
      refine vc_seq fun K8 hK8 => ?_
      refine vc_region ?_
      refine vo_assign_pv rfl rfl ?_
      refine vo_nil ?_
      refine hK8 _ ?_
      refine vc_ret ?_
      change retQ _ _ _ _ _
      refine retQ_sel [] (srows := []) (.inr rfl) hC rfl rfl rfl rfl rfl rfl rfl ?_
      refine ⟨?_, rfl⟩
      refine (congrArg (fun b => [bo b]) (?_ : _ = _) : [bo _] = [bo _])
      first
        | (refine bF fun h => ?_
           have h1 := h _ (getD_mem (show k < list.length by omega) (0, 0))
           unfold okPair at h1; omega)
        | (rw [take_all (by omega)] at hf; exact bT hf)
    · try simp only [zq0, zq1, zq2, zq3, zq4, zq5, zq6, zq7, zq8, zq9, zqa, zqb, zqc, zqd, zqe, zqf] at hg2
      refine vo_guard_on rfl rfl rfl ?_
      refine vo_move_pv rfl rfl ?_
      refine vo_guard_on rfl rfl rfl ?_
      refine vo_move_pv rfl rfl ?_
      refine vo_guard_on rfl rfl rfl ?_
      refine vo_index_pv (.agg [(.int .i64 0), (.int .i64 0)]) rfl rfl rfl E60.und inf123 sz123 sd sd ?_
      simp only [Int.toNat_natCast, Int.toNat_zero, getD_ints, getD_intss, getD_bools, getD_bytes, PV.cells, getD_ops, getD_pairs, getD_insts, getD_attrs, getD_attrss, getD_objs]
      refine vo_guard_on rfl rfl rfl ?_
      refine vo_fieldAddr_adr rfl rfl Try.underlying123 rfl inf3 (by rw [sz3]; decide) ?_
      refine vo_guard_on rfl rfl rfl ?_
      refine vo_load_adr rfl rfl Try.underlying3 rfl ?_
      refine vo_guard_on rfl rfl rfl ?_
      refine vo_call0 Try.func35 rfl rfl rfl rfl inRange_sat ?_
      rintro _ _ ⟨rfl, rfl⟩
      refine ⟨rfl, rfl, .inl rfl, ?_⟩
      refine vo_stM ?_
      refine vo_guard_on rfl rfl rfl ?_
      refine vo_not rfl rfl ?_
      refine vo_pick_f rfl rfl ?_
      refine vo_nil ?_
      refine hK7 _ ?_
      refine vc_cond rfl (fun hc3 => ?_) (fun hc3 => ?_)
      · try simp only [zq0, zq1, zq2, zq3, zq4, zq5, zq6, zq7, zq8, zq9, zqa, zqb, zqc, zqd, zqe, zqf] at hc3
        refine vc_seq fun K9 hK9 => ?_
        refine vc_region ?_
        refine vo_assign_pv rfl rfl ?_
        refine vo_nil ?_
        refine hK9 _ ?_
        refine vc_ret ?_
        change retQ _ _ _ _ _
        refine retQ_sel [] (srows := []) (.inr rfl) hC rfl rfl rfl rfl rfl rfl rfl ?_
        refine ⟨?_, rfl⟩
        refine (congrArg (fun b => [bo b]) (?_ : _ = _) : [bo _] = [bo _])
        first
          | (refine bF fun h => ?_
             have h1 := h _ (getD_mem (show k < list.length by omega) (0, 0))
             unfold okPair at h1; omega)
          | (rw [take_all (by omega)] at hf; exact bT hf)
      · try simp only [zq0, zq1, zq2, zq3, zq4, zq5, zq6, zq7, zq8, zq9, zqa, zqb, zqc, zqd, zqe, zqf] at hc3
        refine vc_skip ?_
        refine hK6 _ ?_
        refine vc_region ?_
        refine vo_move_pv rfl rfl ?_
        refine vo_binI rfl rfl rfl rfl sd ?_
        refine vo_assign_pv rfl rfl ?_
        refine vo_nil ?_
        change againE _ _ _ _ _ _ _ _ _ _
        refine againE_mk rfl rfl rfl rfl rfl rfl ⟨_, ?_, k + 1, rfl, ?_, ?_, rfl, rfl⟩
        · omega
        · omega
        · exact (all_take_succ (by omega) (0, 0)).2 ⟨hf, by unfold okPair; omega⟩
  · try simp only [zq0, zq1, zq2, zq3, zq4, zq5, zq6, zq7, zq8, zq9, zqa, zqb, zqc, zqd, zqe, zqf] at hc1
    refine vc_exit ?_
    refine hK2 _ ?_
    refine vc_seq fun K10 hK10 => ?_
    refine vc_region ?_
    refine vo_assign_pv rfl rfl ?_
    refine vo_nil ?_
    refine hK10 _ ?_
    refine vc_ret ?_
    change retQ _ _ _ _ _
    refine retQ_sel [] (srows := []) (.inr rfl) hC rfl rfl rfl rfl rfl rfl rfl ?_
    refine ⟨?_, rfl⟩
    refine (congrArg (fun b => [bo b]) (?_ : _ = _) : [bo _] = [bo _])
    first
      | (refine bF fun h => ?_
         have h1 := h _ (getD_mem (show k < list.length by omega) (0, 0))
         unfold okPair at h1; omega)
      | (rw [take_all (by omega)] at hf; exact bT hf)

end Go.Vl

namespace Go.Vl
set_option linter.unusedVariables false
set_option linter.unusedSimpArgs false
open Go.Proofs

theorem implValidWorld_sat {w : WorldM}  (hw : SW w) : SatAt Try.prog 24 [.pv false (worldP w)] [] (fun res rows => res = [bo (decide (VWorld w))] ∧ rows = []) := by
  obtain ⟨⟨b1, b2⟩, ⟨a1, a2⟩, o1, o2⟩ := hw
  refine sat_entry_G (rs := [(2, none)]) Try.func24 rfl rfl (Nat.le_of_ble_eq_true rfl) (Nat.le_of_ble_eq_true rfl) (resTs1 trivial) fun C hC => ?_
  rw [Try.ntmps24]
  replace hC : C.nb = 0 := hC
  refine vc_seq fun K1 hK1 => ?_
  refine vc_region ?_
  refine vo_box rfl rfl ?_
  refine vo_stM ?_
  refine vo_assign_pv rfl rfl ?_
  refine vo_nil ?_
  refine hK1 _ ?_
  refine vc_seq fun K2 hK2 => ?_
  refine vc_seq fun K3 hK3 => ?_
  refine vc_region ?_
  refine vo_fieldAddr_ptr rfl rfl Try.underlying33 rfl inf22 (by rw [sz22]; decide) ?_
  try simp only [Nat.zero_add]
  refine vo_load_var rfl rfl rfl Try.underlying22 rfl rfl ?_
  refine vo_call0 Try.func67 rfl rfl rfl rfl (implAllOrders_sat (by omega) (fun l hl => by have := b2 l hl; omega)) ?_
  rintro _ _ ⟨rfl, rfl⟩
  refine ⟨rfl, rfl, .inl rfl, ?_⟩
  refine vo_stM ?_
  refine vo_not rfl rfl ?_
  refine vo_move_pv rfl rfl ?_
  refine vo_split 11 rfl (fun hg1 => ?_) (fun hg1 => ?_)
  · try simp only [zq0, zq1, zq2, zq3, zq4, zq5, zq6, zq7, zq8, zq9, zqa, zqb, zqc, zqd, zqe, zqf] at hg1
    refine vo_guard_off rfl rfl rfl rfl rfl ?_
    refine vo_guard_off rfl rfl rfl rfl rfl ?_
    refine vo_guard_off rfl rfl rfl rfl rfl ?_
    refine vo_guard_off rfl rfl rfl rfl rfl ?_
    refine vo_guard_off rfl rfl rfl rfl rfl ?_
    refine vo_guard_off rfl rfl rfl rfl rfl ?_
    refine vo_guard_off rfl rfl rfl rfl rfl ?_
    refine vo_pick_t rfl rfl ?_
    refine vo_move_pv rfl rfl ?_
    refine vo_guard_off rfl rfl rfl rfl rfl ?_
    refine vo_guard_off rfl rfl rfl rfl rfl ?_
    refine vo_guard_off rfl rfl rfl rfl rfl ?_
    refine vo_guard_off rfl rfl rfl rfl rfl ?_
    refine vo_pick_t rfl rfl ?_
    refine vo_nil ?_
    refine hK3 _ ?_
    refine vc_cond_t rfl ?_
    refine vc_seq fun K4 hK4 => ?_
    refine vc_region ?_
    refine vo_assign_pv rfl rfl ?_
    refine vo_nil ?_
    refine hK4 _ ?_
    refine vc_ret ?_
    change retQ _ _ _ _ _
    refine retQ_sel [] (srows := []) (.inr rfl) hC rfl rfl rfl rfl rfl rfl rfl ?_
    refine ⟨?_, rfl⟩
    refine (congrArg (fun b => [bo b]) (?_ : _ = _) : [bo _] = [bo _])
    first
      | (refine bF fun h0 => ?_
         have h1 := h0.2.1; have h2 := h0.2.2.1
         first
           | omega
           | exact absurd h0.1 (by assumption)
           | exact absurd h0.1.1 (by assumption)
           | exact absurd h0.1.2 (by assumption)
           | exact absurd (h0.2.2.2.1 _ (getD_mem (show k < w.attrs.length by omega) [])) (by assumption)
           | (have h3 := h0.2.2.2.2 _ (getD_mem (show k < w.objs.length by omega) ⟨0, []⟩)
              unfold okObj at h3
              have h4 := h3.2.1
              first
                | omega
                | exact absurd h3.2.2 (by assumption)
                | exact absurd h3.2.2.2 (by assumption)
                | exact absurd (⟨by omega, h3.2.2.1⟩ : (w.objs.getD k ⟨0, []⟩).pairs.length ≤ 40 ∧ (nms (w.objs.getD k ⟨0, []⟩).pairs).Nodup) (by assumption)))
      | (rw [take_all (by omega)] at hf2
         rw [take_all (by omega)] at hf
         exact bT ⟨by first | assumption | exact ⟨hg1, hg2⟩, by omega, by omega, hf, hf2⟩)
  · try simp only [zq0, zq1, zq2, zq3, zq4, zq5, zq6, zq7, zq8, zq9, zqa, zqb, zqc, zqd, zqe, zqf] at hg1
    refine vo_guard_on rfl rfl rfl ?_
    refine vo_fieldAddr_ptr rfl rfl Try.underlying33 rfl inf30 (by rw [sz30]; decide) ?_
    try simp only [Nat.zero_add]
    refine vo_guard_on rfl rfl rfl ?_
    refine vo_load_var rfl rfl rfl Try.underlying30 rfl rfl ?_
    refine vo_guard_on rfl rfl rfl ?_
    refine vo_len_pv rfl rfl Try.underlying30 ?_
    refine vo_guard_on rfl rfl rfl ?_
    refine vo_fieldAddr_ptr rfl rfl Try.underlying33 rfl inf22 (by rw [sz22]; decide) ?_
    try simp only [Nat.zero_add]
    refine vo_guard_on rfl rfl rfl ?_
    refine vo_load_var rfl rfl rfl Try.underlying22 rfl rfl ?_
    refine vo_guard_on rfl rfl rfl ?_
    refine vo_len_pv rfl rfl Try.underlying22 ?_
    refine vo_guard_on rfl rfl rfl ?_
    refine vo_binI rfl rfl rfl rfl trivial ?_
    refine vo_pick_f rfl rfl ?_
    refine vo_move_pv rfl rfl ?_
    refine vo_split 20 rfl (fun hg2 => ?_) (fun hg2 => ?_)
    · try simp only [zq0, zq1, zq2, zq3, zq4, zq5, zq6, zq7, zq8, zq9, zqa, zqb, zqc, zqd, zqe, zqf] at hg2
      refine vo_guard_off rfl rfl rfl rfl rfl ?_
      refine vo_guard_off rfl rfl rfl rfl rfl ?_
      refine vo_guard_off rfl rfl rfl rfl rfl ?_
      refine vo_guard_off rfl rfl rfl rfl rfl ?_
      refine vo_pick_t rfl rfl ?_
      refine vo_nil ?_
      refine hK3 _ ?_
      refine vc_cond_t rfl ?_
      refine vc_seq fun K5 hK5 => ?_
      refine vc_region ?_
      refine vo_assign_pv rfl rfl ?_
      refine vo_nil ?_
      refine hK5 _ ?_
      refine vc_ret ?_
      change retQ _ _ _ _ _
      refine retQ_sel [] (srows := []) (.inr rfl) hC rfl rfl rfl rfl rfl rfl rfl ?_
      refine ⟨?_, rfl⟩
      refine (congrArg (fun b => [bo b]) (?_ : _ = _) : [bo _] = [bo _])
      first
        | (refine bF fun h0 => ?_
           have h1 := h0.2.1; have h2 := h0.2.2.1
           first
             | omega
             | exact absurd h0.1 (by assumption)
             | exact absurd h0.1.1 (by assumption)
             | exact absurd h0.1.2 (by assumption)
             | exact absurd (h0.2.2.2.1 _ (getD_mem (show k < w.attrs.length by omega) [])) (by assumption)
             | (have h3 := h0.2.2.2.2 _ (getD_mem (show k < w.objs.length by omega) ⟨0, []⟩)
                unfold okObj at h3
                have h4 := h3.2.1
                first
                  | omega
                  | exact absurd h3.2.2 (by assumption)
                  | exact absurd h3.2.2.2 (by assumption)
                  | exact absurd (⟨by omega, h3.2.2.1⟩ : (w.objs.getD k ⟨0, []⟩).pairs.length ≤ 40 ∧ (nms (w.objs.getD k ⟨0, []⟩).pairs).Nodup) (by assumption)))
        | (rw [take_all (by omega)] at hf2
           rw [take_all (by omega)] at hf
           exact bT ⟨by first | assumption | exact ⟨hg1, hg2⟩, by omega, by omega, hf, hf2⟩)
    · try simp only [zq0, zq1, zq2, zq3, zq4, zq5, zq6, zq7, zq8, zq9, zqa, zqb, zqc, zqd, zqe, zqf] at hg2
      refine vo_guard_on rfl rfl rfl ?_
      refine vo_fieldAddr_ptr rfl rfl Try.underlying33 rfl inf31 (by rw [sz31]; decide) ?_
      try simp only [Nat.zero_add]
      refine vo_guard_on rfl rfl rfl ?_
      refine vo_load_var rfl rfl rfl Try.underlying31 rfl rfl ?_
      refine vo_guard_on rfl rfl rfl ?_
      refine vo_len_pv rfl rfl Try.underlying31 ?_
      refine vo_guard_on rfl rfl rfl ?_
      refine vo_binI rfl rfl rfl rfl trivial ?_
      refine vo_pick_f rfl rfl ?_
      refine vo_nil ?_
      refine hK3 _ ?_
      refine vc_cond rfl (fun hc3 => ?_) (fun hc3 => ?_)
      · try simp only [zq0, zq1, zq2, zq3, zq4, zq5, zq6, zq7, zq8, zq9, zqa, zqb, zqc, zqd, zqe, zqf] at hc3
        refine vc_seq fun K6 hK6 => ?_
        refine vc_region ?_
        refine vo_assign_pv rfl rfl ?_
        refine vo_nil ?_
        refine hK6 _ ?_
        refine vc_ret ?_
        change retQ _ _ _ _ _
        refine retQ_sel [] (srows := []) (.inr rfl) hC rfl rfl rfl rfl rfl rfl rfl ?_
        refine ⟨?_, rfl⟩
        refine (congrArg (fun b => [bo b]) (?_ : _ = _) : [bo _] = [bo _])
        first
          | (refine bF fun h0 => ?_
             have h1 := h0.2.1; have h2 := h0.2.2.1
             first
               | omega
               | exact absurd h0.1 (by assumption)
               | exact absurd h0.1.1 (by assumption)
               | exact absurd h0.1.2 (by assumption)
               | exact absurd (h0.2.2.2.1 _ (getD_mem (show k < w.attrs.length by omega) [])) (by assumption)
               | (have h3 := h0.2.2.2.2 _ (getD_mem (show k < w.objs.length by omega) ⟨0, []⟩)
                  unfold okObj at h3
                  have h4 := h3.2.1
                  first
                    | omega
                    | exact absurd h3.2.2 (by assumption)
                    | exact absurd h3.2.2.2 (by assumption)
                    | exact absurd (⟨by omega, h3.2.2.1⟩ : (w.objs.getD k ⟨0, []⟩).pairs.length ≤ 40 ∧ (nms (w.objs.getD k ⟨0, []⟩).pairs).Nodup) (by assumption)))
          | (rw [take_all (by omega)] at hf2
             rw [take_all (by omega)] at hf
             exact bT ⟨by first | assumption | exact ⟨hg1, hg2⟩, by omega, by omega, hf, hf2⟩)
      · try simp only [zq0, zq1, zq2, zq3, zq4, zq5, zq6, zq7, zq8, zq9, zqa, zqb, zqc, zqd, zqe, zqf] at hc3
        refine vc_skip ?_
        refine hK2 _ ?_
        refine vc_seq fun K7 hK7 => ?_
        refine vc_seq fun K8 hK8 => ?_
        refine vc_region ?_
        refine vo_fieldAddr_ptr rfl rfl Try.underlying33 rfl inf30 (by rw [sz30]; decide) ?_
        try simp only [Nat.zero_add]
        refine vo_load_var rfl rfl rfl Try.underlying30 rfl rfl ?_
        refine vo_len_pv rfl rfl Try.underlying30 ?_
        refine vo_move_pv rfl rfl ?_
        refine vo_nil ?_
        refine hK8 _ ?_
        refine vc_block ?_
        refine vc_stM ?_
        refine vc_loopE [1, 27, 28] [29] [] _ _ (fun mz vs rs => ∃ (k : Nat), mz = w.attrs.length - k ∧ (k ≤ w.attrs.length) ∧ (∀ l ∈ w.attrs.take k, AAttrs l) ∧ vs = [i64 k] ∧ rs = []) (w.attrs.length) rfl rfl (le_len hC rfl) ⟨rfl, rfl, rfl⟩ rfl ⟨0, rfl, Nat.zero_le _, (by simp), rfl, rfl⟩ ?_
        rintro mz vs rs - - ⟨k, rfl, hk, hf, rfl, rfl⟩
        refine vc_stM ?_
        have hak := (getD_all (p := fun l : List AttrM => l.length ≤ 2000000) a2 [] (by simp) k)
        refine vc_seq fun K9 hK9 => ?_
        refine vc_region ?_
        refine vo_binI rfl rfl rfl rfl trivial ?_
        refine vo_nil ?_
        refine hK9 _ ?_
        refine vc_seq fun K10 hK10 => ?_
        refine vc_cond rfl (fun hc4 => ?_) (fun hc4 => ?_)
        · try simp only [zq0, zq1, zq2, zq3, zq4, zq5, zq6, zq7, zq8, zq9, zqa, zqb, zqc, zqd, zqe, zqf] at hc4
          refine vc_skip ?_
          refine hK10 _ ?_
          refine vc_seq fun K11 hK11 => ?_
          refine vc_block ?_
          refine vc_seq fun K12 hK12 => ?_
          refine vc_region ?_
          refine vo_index_pv (.sl none 3 []) rfl rfl rfl E30.und inf63 sz63 sd sd ?_
          simp only [Int.toNat_natCast, Int.toNat_zero, getD_ints, getD_intss, getD_bools, getD_bytes, PV.cells, getD_ops, getD_pairs, getD_insts, getD_attrs, getD_attrss, getD_objs]
          refine vo_load_adr rfl rfl Try.underlying63 rfl ?_
          refine vo_assign_pv rfl rfl ?_
          refine vo_nil ?_
          refine hK12 _ ?_
          refine vc_seq fun K13 hK13 => ?_
          refine vc_region ?_
          refine vo_move_pv rfl rfl ?_
          refine vo_call0 Try.func68 rfl rfl rfl rfl (areAttrs_sat (by omega)) ?_
          rintro _ _ ⟨rfl, rfl⟩
          refine ⟨rfl, rfl, .inl rfl, ?_⟩
          refine vo_stM ?_
          refine vo_not rfl rfl ?_
          refine vo_nil ?_
          refine hK13 _ ?_
          refine vc_cond rfl (fun hc5 => ?_) (fun hc5 => ?_)
          · try simp only [zq0, zq1, zq2, zq3, zq4, zq5, zq6, zq7, zq8, zq9, zqa, zqb, zqc, zqd, zqe, zqf] at hc5
            refine vc_seq fun K14 hK14 => ?_
            refine vc_region ?_
            refine vo_assign_pv rfl rfl ?_
            refine vo_nil ?_
            refine hK14 _ ?_
            refine vc_ret ?_
            change retQ _ _ _ _ _
            refine retQ_sel [] (srows := []) (.inr rfl) hC rfl rfl rfl rfl rfl rfl rfl ?_
            refine ⟨?_, rfl⟩
            refine (congrArg (fun b => [bo b]) (?_ : _ = _) : [bo _] = [bo _])
            first
              | (refine bF fun h0 => ?_
                 have h1 := h0.2.1; have h2 := h0.2.2.1
                 first
                   | omega
                   | exact absurd h0.1 (by assumption)
                   | exact absurd h0.1.1 (by assumption)
                   | exact absurd h0.1.2 (by assumption)
                   | exact absurd (h0.2.2.2.1 _ (getD_mem (show k < w.attrs.length by omega) [])) (by assumption)
                   | (have h3 := h0.2.2.2.2 _ (getD_mem (show k < w.objs.length by omega) ⟨0, []⟩)
                      unfold okObj at h3
                      have h4 := h3.2.1
                      first
                        | omega
                        | exact absurd h3.2.2 (by assumption)
                        | exact absurd h3.2.2.2 (by assumption)
                        | exact absurd (⟨by omega, h3.2.2.1⟩ : (w.objs.getD k ⟨0, []⟩).pairs.length ≤ 40 ∧ (nms (w.objs.getD k ⟨0, []⟩).pairs).Nodup) (by assumption)))
              | (rw [take_all (by omega)] at hf2
                 rw [take_all (by omega)] at hf
                 exact bT ⟨by first | assumption | exact ⟨hg1, hg2⟩, by omega, by omega, hf, hf2⟩)
          · try simp only [zq0, zq1, zq2, zq3, zq4, zq5, zq6, zq7, zq8, zq9, zqa, zqb, zqc, zqd, zqe, zqf] at hc5
            refine vc_skip ?_
            refine hK11 _ ?_
            refine vc_region ?_
            refine vo_binI rfl rfl rfl rfl sd ?_
            refine vo_move_pv rfl rfl ?_
            refine vo_nil ?_
            change againE _ _ _ _ _ _ _ _ _ _
            refine againE_mk rfl rfl rfl rfl rfl rfl ⟨_, ?_, k + 1, rfl, ?_, ?_, rfl, rfl⟩
            · omega
            · omega
            · exact (all_take_succ (by omega) []).2 ⟨hf, by assumption⟩
        · try simp only [zq0, zq1, zq2, zq3, zq4, zq5, zq6, zq7, zq8, zq9, zqa, zqb, zqc, zqd, zqe, zqf] at hc4
          refine vc_exit ?_
          refine hK7 _ ?_
          refine vc_seq fun K15 hK15 => ?_
          refine vc_seq fun K16 hK16 => ?_
          refine vc_region ?_
          refine vo_fieldAddr_ptr rfl rfl Try.underlying33 rfl inf31 (by rw [sz31]; decide) ?_
          try simp only [Nat.zero_add]
          refine vo_load_var rfl rfl rfl Try.underlying31 rfl rfl ?_
          refine vo_len_pv rfl rfl Try.underlying31 ?_
          refine vo_move_pv rfl rfl ?_
          refine vo_nil ?_
          refine hK16 _ ?_
          refine vc_block ?_
          refine vc_stM ?_
          refine vc_loopE [1, 38, 39] [40] [] _ _ (fun mz vs rs => ∃ (k : Nat), mz = w.objs.length - k ∧ (k ≤ w.objs.length) ∧ (∀ o ∈ w.objs.take k, okObj w.bases.length o) ∧ vs = [i64 k] ∧ rs = []) (w.objs.length) rfl rfl (le_len hC rfl) ⟨rfl, rfl, rfl⟩ rfl ⟨0, rfl, Nat.zero_le _, (by simp), rfl, rfl⟩ ?_
          rintro mz vs rs - - ⟨k, rfl, hk, hf2, rfl, rfl⟩
          refine vc_stM ?_
          have hok := getD_all o2 ⟨0, []⟩ SO_zero k
          unfold SO at hok
          refine vc_seq fun K17 hK17 => ?_
          refine vc_region ?_
          refine vo_binI rfl rfl rfl rfl trivial ?_
          refine vo_nil ?_
          refine hK17 _ ?_
          refine vc_seq fun K18 hK18 => ?_
          refine vc_cond rfl (fun hc6 => ?_) (fun hc6 => ?_)
          · try simp only [zq0, zq1, zq2, zq3, zq4, zq5, zq6, zq7, zq8, zq9, zqa, zqb, zqc, zqd, zqe, zqf] at hc6
            refine vc_skip ?_
            refine hK18 _ ?_
            refine vc_seq fun K19 hK19 => ?_
            refine vc_block ?_
            refine vc_seq fun K20 hK20 => ?_
            refine vc_region ?_
            refine vo_index_pv (.agg [(.int .i64 0), (.sl none 2 [])]) rfl rfl rfl E31.und inf62 sz62 sd sd ?_
            simp only [Int.toNat_natCast, Int.toNat_zero, getD_ints, getD_intss, getD_bools, getD_bytes, PV.cells, getD_ops, getD_pairs, getD_insts, getD_attrs, getD_attrss, getD_objs]
            refine vo_load_adrS rfl rfl Try.underlying62 rfl inf62 sz62 rfl ?_
            refine vo_st (by (try simp only [St.put, PV.cells, PV.scal, List.drop_succ_cons, List.drop_zero, List.take_succ_cons, List.take_zero, List.map_cons, List.map_nil, Bool.or_true, Bool.or_false, Bool.false_or, Bool.true_or, opP, pairP, instP, heapP]); exact eq_refl _) ?_
            refine vo_alloc Z62 rfl ?_
            refine vo_stM ?_
            refine vo_store_varS rfl rfl rfl inf62 sz62 rfl ?_
            refine vo_stM ?_
            refine vo_nil ?_
            refine hK20 _ ?_
            refine vc_seq fun K21 hK21 => ?_
            refine vc_region ?_
            refine vo_fieldAddr_ptr rfl rfl Try.underlying62 rfl inf3 (by rw [sz3]; decide) ?_
            try simp only [Nat.zero_add]
            refine vo_load_var rfl rfl rfl Try.underlying3 rfl rfl ?_
            refine vo_fieldAddr_ptr rfl rfl Try.underlying33 rfl inf22 (by rw [sz22]; decide) ?_
            try simp only [Nat.zero_add]
            refine vo_load_var rfl rfl rfl Try.underlying22 rfl rfl ?_
            refine vo_len_pv rfl rfl Try.underlying22 ?_
            refine vo_binI rfl rfl rfl rfl sd ?_
            refine vo_call0 Try.func69 rfl rfl rfl rfl isUpTo_sat ?_
            rintro _ _ ⟨rfl, rfl⟩
            refine ⟨rfl, rfl, .inl rfl, ?_⟩
            refine vo_stM ?_
            refine vo_not rfl rfl ?_
            refine vo_move_pv rfl rfl ?_
            refine vo_split 52 rfl (fun hg7 => ?_) (fun hg7 => ?_)
            · try simp only [zq0, zq1, zq2, zq3, zq4, zq5, zq6, zq7, zq8, zq9, zqa, zqb, zqc, zqd, zqe, zqf] at hg7
              refine vo_guard_off rfl rfl rfl rfl rfl ?_
              refine vo_guard_off rfl rfl rfl rfl rfl ?_
              refine vo_guard_off rfl rfl rfl rfl rfl ?_
              refine vo_guard_off rfl rfl rfl rfl rfl ?_
              refine vo_pick_t rfl rfl ?_
              refine vo_move_pv rfl rfl ?_
              refine vo_guard_off rfl rfl rfl rfl rfl ?_
              refine vo_guard_off rfl rfl rfl rfl rfl ?_
              refine vo_guard_off rfl rfl rfl rfl rfl ?_
              refine vo_guard_off rfl rfl rfl rfl rfl ?_
              refine vo_pick_t rfl rfl ?_
              refine vo_nil ?_
              refine hK21 _ ?_
              refine vc_cond_t rfl ?_
              refine vc_seq fun K22 hK22 => ?_
              refine vc_region ?_
              refine vo_assign_pv rfl rfl ?_
              refine vo_nil ?_
              refine hK22 _ ?_
              refine vc_ret ?_
              change retQ _ _ _ _ _
              refine retQ_sel [] (srows := []) (.inr rfl) hC rfl rfl rfl rfl rfl rfl rfl ?_
              refine ⟨?_, rfl⟩
              refine (congrArg (fun b => [bo b]) (?_ : _ = _) : [bo _] = [bo _])
              first
                | (refine bF fun h0 => ?_
                   have h1 := h0.2.1; have h2 := h0.2.2.1
                   first
                     | omega
                     | exact absurd h0.1 (by assumption)
                     | exact absurd h0.1.1 (by assumption)
                     | exact absurd h0.1.2 (by assumption)
                     | exact absurd (h0.2.2.2.1 _ (getD_mem (show k < w.attrs.length by omega) [])) (by assumption)
                     | (have h3 := h0.2.2.2.2 _ (getD_mem (show k < w.objs.length by omega) ⟨0, []⟩)
                        unfold okObj at h3
                        have h4 := h3.2.1
                        first
                          | omega
                          | exact absurd h3.2.2 (by assumption)
                          | exact absurd h3.2.2.2 (by assumption)
                          | exact absurd (⟨by omega, h3.2.2.1⟩ : (w.objs.getD k ⟨0, []⟩).pairs.length ≤ 40 ∧ (nms (w.objs.getD k ⟨0, []⟩).pairs).Nodup) (by assumption)))
                | (rw [take_all (by omega)] at hf2
                   rw [take_all (by omega)] at hf
                   exact bT ⟨by first | assumption | exact ⟨hg1, hg2⟩, by omega, by omega, hf, hf2⟩)
            · try simp only [zq0, zq1, zq2, zq3, zq4, zq5, zq6, zq7, zq8, zq9, zqa, zqb, zqc, zqd, zqe, zqf] at hg7
              refine vo_guard_on rfl rfl rfl ?_
              refine vo_fieldAddr_ptr rfl rfl Try.underlying62 rfl inf60 (by rw [sz60]; decide) ?_
              try simp only [Nat.zero_add]
              refine vo_guard_on rfl rfl rfl ?_
              refine vo_load_var rfl rfl rfl Try.underlying60 rfl rfl ?_
              refine vo_guard_on rfl rfl rfl ?_
              refine vo_len_pv rfl rfl Try.underlying60 ?_
              refine vo_guard_on rfl rfl rfl ?_
              refine vo_binI rfl rfl rfl rfl trivial ?_
              refine vo_pick_f rfl rfl ?_
              refine vo_move_pv rfl rfl ?_
              refine vo_split 58 rfl (fun hg8 => ?_) (fun hg8 => ?_)
              · try simp only [zq0, zq1, zq2, zq3, zq4, zq5, zq6, zq7, zq8, zq9, zqa, zqb, zqc, zqd, zqe, zqf] at hg8
                refine vo_guard_off rfl rfl rfl rfl rfl ?_
                refine vo_guard_off rfl rfl rfl rfl rfl ?_
                refine vo_guard_off rfl rfl rfl rfl rfl ?_
                refine vo_guard_off rfl rfl rfl rfl rfl ?_
                refine vo_pick_t rfl rfl ?_
                refine vo_nil ?_
                refine hK21 _ ?_
                refine vc_cond_t rfl ?_
                refine vc_seq fun K23 hK23 => ?_
                refine vc_region ?_
                refine vo_assign_pv rfl rfl ?_
                refine vo_nil ?_
                refine hK23 _ ?_
                refine vc_ret ?_
                change retQ _ _ _ _ _
                refine retQ_sel [] (srows := []) (.inr rfl) hC rfl rfl rfl rfl rfl rfl rfl ?_
                refine ⟨?_, rfl⟩
                refine (congrArg (fun b => [bo b]) (?_ : _ = _) : [bo _] = [bo _])
                first
                  | (refine bF fun h0 => ?_
                     have h1 := h0.2.1; have h2 := h0.2.2.1
                     first
                       | omega
                       | exact absurd h0.1 (by assumption)
                       | exact absurd h0.1.1 (by assumption)
                       | exact absurd h0.1.2 (by assumption)
                       | exact absurd (h0.2.2.2.1 _ (getD_mem (show k < w.attrs.length by omega) [])) (by assumption)
                       | (have h3 := h0.2.2.2.2 _ (getD_mem (show k < w.objs.length by omega) ⟨0, []⟩)
                          unfold okObj at h3
                          have h4 := h3.2.1
                          first
                            | omega
                            | exact absurd h3.2.2 (by assumption)
                            | exact absurd h3.2.2.2 (by assumption)
                            | exact absurd (⟨by omega, h3.2.2.1⟩ : (w.objs.getD k ⟨0, []⟩).pairs.length ≤ 40 ∧ (nms (w.objs.getD k ⟨0, []⟩).pairs).Nodup) (by assumption)))
                  | (rw [take_all (by omega)] at hf2
                     rw [take_all (by omega)] at hf
                     exact bT ⟨by first | assumption | exact ⟨hg1, hg2⟩, by omega, by omega, hf, hf2⟩)
              · try simp only [zq0, zq1, zq2, zq3, zq4, zq5, zq6, zq7, zq8, zq9, zqa, zqb, zqc, zqd, zqe, zqf] at hg8
                refine vo_guard_on rfl rfl rfl ?_
                refine vo_fieldAddr_ptr rfl rfl Try.underlying62 rfl inf60 (by rw [sz60]; decide) ?_
                try simp only [Nat.zero_add]
                refine vo_guard_on rfl rfl rfl ?_
                refine vo_load_var rfl rfl rfl Try.underlying60 rfl rfl ?_
                refine vo_guard_on rfl rfl rfl ?_
                refine vo_call0 Try.func70 rfl rfl rfl rfl (areOwn_sat (by omega)) ?_
                rintro _ _ ⟨rfl, rfl⟩
                refine ⟨rfl, rfl, .inl rfl, ?_⟩
                refine vo_stM ?_
                refine vo_guard_on rfl rfl rfl ?_
                refine vo_not rfl rfl ?_
                refine vo_pick_f rfl rfl ?_
                refine vo_nil ?_
                refine hK21 _ ?_
                refine vc_cond rfl (fun hc9 => ?_) (fun hc9 => ?_)
                · try simp only [zq0, zq1, zq2, zq3, zq4, zq5, zq6, zq7, zq8, zq9, zqa, zqb, zqc, zqd, zqe, zqf] at hc9
                  refine vc_seq fun K24 hK24 => ?_
                  refine vc_region ?_
                  refine vo_assign_pv rfl rfl ?_
                  refine vo_nil ?_
                  refine hK24 _ ?_
                  refine vc_ret ?_
                  change retQ _ _ _ _ _
                  refine retQ_sel [] (srows := []) (.inr rfl) hC rfl rfl rfl rfl rfl rfl rfl ?_
                  refine ⟨?_, rfl⟩
                  refine (congrArg (fun b => [bo b]) (?_ : _ = _) : [bo _] = [bo _])
                  first
                    | (refine bF fun h0 => ?_
                       have h1 := h0.2.1; have h2 := h0.2.2.1
                       first
                         | omega
                         | exact absurd h0.1 (by assumption)
                         | exact absurd h0.1.1 (by assumption)
                         | exact absurd h0.1.2 (by assumption)
                         | exact absurd (h0.2.2.2.1 _ (getD_mem (show k < w.attrs.length by omega) [])) (by assumption)
                         | (have h3 := h0.2.2.2.2 _ (getD_mem (show k < w.objs.length by omega) ⟨0, []⟩)
                            unfold okObj at h3
                            have h4 := h3.2.1
                            first
                              | omega
                              | exact absurd h3.2.2 (by assumption)
                              | exact absurd h3.2.2.2 (by assumption)
                              | exact absurd (⟨by omega, h3.2.2.1⟩ : (w.objs.getD k ⟨0, []⟩).pairs.length ≤ 40 ∧ (nms (w.objs.getD k ⟨0, []⟩).pairs).Nodup) (by assumption)))
                    | (rw [take_all (by omega)] at hf2
                       rw [take_all (by omega)] at hf
                       exact bT ⟨by first | assumption | exact ⟨hg1, hg2⟩, by omega, by omega, hf, hf2⟩)
                · try simp only [zq0, zq1, zq2, zq3, zq4, zq5, zq6, zq7, zq8, zq9, zqa, zqb, zqc, zqd, zqe, zqf] at hc9
                  refine vc_skip ?_
                  refine hK19 _ ?_
                  refine vc_region ?_
                  refine vo_binI rfl rfl rfl rfl sd ?_
                  refine vo_move_pv rfl rfl ?_
                  refine vo_nil ?_
                  change againE _ _ _ _ _ _ _ _ _ _
                  refine againE_mk rfl rfl rfl rfl rfl rfl ⟨_, ?_, k + 1, rfl, ?_, ?_, rfl, rfl⟩
                  · omega
                  · omega
                  · refine (all_take_succ (by omega) ⟨0, []⟩).2 ⟨hf2, ?_⟩
                    unfold okObj; exact ⟨by omega, by omega, by first | assumption | exact ⟨by first | assumption | exact (And.right ‹_ ∧ (nms _).Nodup›), by assumption⟩⟩
          · try simp only [zq0, zq1, zq2, zq3, zq4, zq5, zq6, zq7, zq8, zq9, zqa, zqb, zqc, zqd, zqe, zqf] at hc6
            refine vc_exit ?_
            refine hK15 _ ?_
            refine vc_seq fun K25 hK25 => ?_
            refine vc_region ?_
            refine vo_assign_pv rfl rfl ?_
            refine vo_nil ?_
            refine hK25 _ ?_
            refine vc_ret ?_
            change retQ _ _ _ _ _
            refine retQ_sel [] (srows := []) (.inr rfl) hC rfl rfl rfl rfl rfl rfl rfl ?_
            refine ⟨?_, rfl⟩
            refine (congrArg (fun b => [bo b]) (?_ : _ = _) : [bo _] = [bo _])
            first
              | (refine bF fun h0 => ?_
                 have h1 := h0.2.1; have h2 := h0.2.2.1
                 first
                   | omega
                   | exact absurd h0.1 (by assumption)
                   | exact absurd h0.1.1 (by assumption)
                   | exact absurd h0.1.2 (by assumption)
                   | exact absurd (h0.2.2.2.1 _ (getD_mem (show k < w.attrs.length by omega) [])) (by assumption)
                   | (have h3 := h0.2.2.2.2 _ (getD_mem (show k < w.objs.length by omega) ⟨0, []⟩)
                      unfold okObj at h3
                      have h4 := h3.2.1
                      first
                        | omega
                        | exact absurd h3.2.2 (by assumption)
                        | exact absurd h3.2.2.2 (by assumption)
                        | exact absurd (⟨by omega, h3.2.2.1⟩ : (w.objs.getD k ⟨0, []⟩).pairs.length ≤ 40 ∧ (nms (w.objs.getD k ⟨0, []⟩).pairs).Nodup) (by assumption)))
              | (rw [take_all (by omega)] at hf2
                 rw [take_all (by omega)] at hf
                 exact bT ⟨by first | assumption | exact ⟨hg1, hg2⟩, by omega, by omega, hf, hf2⟩)


theorem specValidWorld0_sat {w : WorldM}  (hw : SW w) : SatAt Try.prog 34 [.pv false (worldP w)] [] (fun res rows => res = [bo (decide (VWorld w))] ∧ rows = []) := by
  obtain ⟨⟨b1, b2⟩, ⟨a1, a2⟩, o1, o2⟩ := hw
  refine sat_entry_G (rs := [(2, none)]) Try.func34 rfl rfl (Nat.le_of_ble_eq_true rfl) (Nat.le_of_ble_eq_true rfl) (resTs1 trivial) fun C hC => ?_
  rw [Try.ntmps34]
  replace hC : C.nb = 0 := hC
  refine vc_seq fun K1 hK1 => ?_
  refine vc_region ?_
  refine vo_box rfl rfl ?_
  refine vo_stM ?_
  refine vo_assign_pv rfl rfl ?_
  refine vo_nil ?_
  refine hK1 _ ?_
  refine vc_seq fun K2 hK2 => ?_
  refine vc_seq fun K3 hK3 => ?_
  refine vc_region ?_
  refine vo_fieldAddr_ptr rfl rfl Try.underlying33 rfl inf22 (by rw [sz22]; decide) ?_
  try simp only [Nat.zero_add]
  refine vo_load_var rfl rfl rfl Try.underlying22 rfl rfl ?_
  refine vo_call0 Try.func79 rfl rfl rfl rfl (specValidBases0_sat (by omega) (fun l hl => by have := b2 l hl; omega)) ?_
  rintro _ _ ⟨rfl, rfl⟩
  refine ⟨rfl, rfl, .inl rfl, ?_⟩
  refine vo_stM ?_
  refine vo_not rfl rfl ?_
  refine vo_move_pv rfl rfl ?_
  refine vo_split 10 rfl (fun hg1 => ?_) (fun hg1 => ?_)
  · try simp only [zq0, zq1, zq2, zq3, zq4, zq5, zq6, zq7, zq8, zq9, zqa, zqb, zqc, zqd, zqe, zqf] at hg1
    refine vo_guard_off rfl rfl rfl rfl rfl ?_
    refine vo_guard_off rfl rfl rfl rfl rfl ?_
    refine vo_guard_off rfl rfl rfl rfl rfl ?_
    refine vo_guard_off rfl rfl rfl rfl rfl ?_
    refine vo_pick_t rfl rfl ?_
    refine vo_move_pv rfl rfl ?_
    refine vo_guard_off rfl rfl rfl rfl rfl ?_
    refine vo_guard_off rfl rfl rfl rfl rfl ?_
    refine vo_guard_off rfl rfl rfl rfl rfl ?_
    refine vo_guard_off rfl rfl rfl rfl rfl ?_
    refine vo_guard_off rfl rfl rfl rfl rfl ?_
    refine vo_guard_off rfl rfl rfl rfl rfl ?_
    refine vo_guard_off rfl rfl rfl rfl rfl ?_
    refine vo_pick_t rfl rfl ?_
    refine vo_move_pv rfl rfl ?_
    refine vo_guard_off rfl rfl rfl rfl rfl ?_
    refine vo_guard_off rfl rfl rfl rfl rfl ?_
    refine vo_guard_off rfl rfl rfl rfl rfl ?_
    refine vo_guard_off rfl rfl rfl rfl rfl ?_
    refine vo_pick_t rfl rfl ?_
    refine vo_nil ?_
    refine hK3 _ ?_
    refine vc_cond_t rfl ?_
    refine vc_seq fun K4 hK4 => ?_
    refine vc_region ?_
    refine vo_assign_pv rfl rfl ?_
    refine vo_nil ?_
    refine hK4 _ ?_
    refine vc_ret ?_
    change retQ _ _ _ _ _
    refine retQ_sel [] (srows := []) (.inr rfl) hC rfl rfl rfl rfl rfl rfl rfl ?_
    refine ⟨?_, rfl⟩
    refine (congrArg (fun b => [bo b]) (?_ : _ = _) : [bo _] = [bo _])
    first
      | (refine bF fun h0 => ?_
         have h1 := h0.2.1; have h2 := h0.2.2.1
         first
           | omega
           | exact absurd h0.1 (by assumption)
           | exact absurd h0.1.1 (by assumption)
           | exact absurd h0.1.2 (by assumption)
           | exact absurd (h0.2.2.2.1 _ (getD_mem (show k < w.attrs.length by omega) [])) (by assumption)
           | (have h3 := h0.2.2.2.2 _ (getD_mem (show k < w.objs.length by omega) ⟨0, []⟩)
              unfold okObj at h3
              have h4 := h3.2.1
              first
                | omega
                | exact absurd h3.2.2 (by assumption)
                | exact absurd h3.2.2.2 (by assumption)
                | exact absurd (⟨by omega, h3.2.2.1⟩ : (w.objs.getD k ⟨0, []⟩).pairs.length ≤ 40 ∧ (nms (w.objs.getD k ⟨0, []⟩).pairs).Nodup) (by assumption)))
      | (rw [take_all (by omega)] at hf2
         rw [take_all (by omega)] at hf
         exact bT ⟨by first | assumption | exact ⟨hg1, hg2⟩, by omega, by omega, hf, hf2⟩)
  · try simp only [zq0, zq1, zq2, zq3, zq4, zq5, zq6, zq7, zq8, zq9, zqa, zqb, zqc, zqd, zqe, zqf] at hg1
    refine vo_guard_on rfl rfl rfl ?_
    refine vo_fieldAddr_ptr rfl rfl Try.underlying33 rfl inf22 (by rw [sz22]; decide) ?_
    try simp only [Nat.zero_add]
    refine vo_guard_on rfl rfl rfl ?_
    refine vo_load_var rfl rfl rfl Try.underlying22 rfl rfl ?_
    refine vo_guard_on rfl rfl rfl ?_
    refine vo_call0 Try.func80 rfl rfl rfl rfl (allOrders_sat (by omega) (fun l hl => by have := b2 l hl; omega) hg1) ?_
    rintro _ _ ⟨rfl, rfl⟩
    refine ⟨rfl, rfl, .inl rfl, ?_⟩
    refine vo_stM ?_
    refine vo_guard_on rfl rfl rfl ?_
    refine vo_not rfl rfl ?_
    refine vo_pick_f rfl rfl ?_
    refine vo_move_pv rfl rfl ?_
    refine vo_split 16 rfl (fun hg2 => ?_) (fun hg2 => ?_)
    · try simp only [zq0, zq1, zq2, zq3, zq4, zq5, zq6, zq7, zq8, zq9, zqa, zqb, zqc, zqd, zqe, zqf] at hg2
      refine vo_guard_off rfl rfl rfl rfl rfl ?_
      refine vo_guard_off rfl rfl rfl rfl rfl ?_
      refine vo_guard_off rfl rfl rfl rfl rfl ?_
      refine vo_guard_off rfl rfl rfl rfl rfl ?_
      refine vo_guard_off rfl rfl rfl rfl rfl ?_
      refine vo_guard_off rfl rfl rfl rfl rfl ?_
      refine vo_guard_off rfl rfl rfl rfl rfl ?_
      refine vo_pick_t rfl rfl ?_
      refine vo_move_pv rfl rfl ?_
      refine vo_guard_off rfl rfl rfl rfl rfl ?_
      refine vo_guard_off rfl rfl rfl rfl rfl ?_
      refine vo_guard_off rfl rfl rfl rfl rfl ?_
      refine vo_guard_off rfl rfl rfl rfl rfl ?_
      refine vo_pick_t rfl rfl ?_
      refine vo_nil ?_
      refine hK3 _ ?_
      refine vc_cond_t rfl ?_
      refine vc_seq fun K5 hK5 => ?_
      refine vc_region ?_
      refine vo_assign_pv rfl rfl ?_
      refine vo_nil ?_
      refine hK5 _ ?_
      refine vc_ret ?_
      change retQ _ _ _ _ _
      refine retQ_sel [] (srows := []) (.inr rfl) hC rfl rfl rfl rfl rfl rfl rfl ?_
      refine ⟨?_, rfl⟩
      refine (congrArg (fun b => [bo b]) (?_ : _ = _) : [bo _] = [bo _])
      first
        | (refine bF fun h0 => ?_
           have h1 := h0.2.1; have h2 := h0.2.2.1
           first
             | omega
             | exact absurd h0.1 (by assumption)
             | exact absurd h0.1.1 (by assumption)
             | exact absurd h0.1.2 (by assumption)
             | exact absurd (h0.2.2.2.1 _ (getD_mem (show k < w.attrs.length by omega) [])) (by assumption)
             | (have h3 := h0.2.2.2.2 _ (getD_mem (show k < w.objs.length by omega) ⟨0, []⟩)
                unfold okObj at h3
                have h4 := h3.2.1
                first
                  | omega
                  | exact absurd h3.2.2 (by assumption)
                  | exact absurd h3.2.2.2 (by assumption)
                  | exact absurd (⟨by omega, h3.2.2.1⟩ : (w.objs.getD k ⟨0, []⟩).pairs.length ≤ 40 ∧ (nms (w.objs.getD k ⟨0, []⟩).pairs).Nodup) (by assumption)))
        | (rw [take_all (by omega)] at hf2
           rw [take_all (by omega)] at hf
           exact bT ⟨by first | assumption | exact ⟨hg1, hg2⟩, by omega, by omega, hf, hf2⟩)
    · try simp only [zq0, zq1, zq2, zq3, zq4, zq5, zq6, zq7, zq8, zq9, zqa, zqb, zqc, zqd, zqe, zqf] at hg2
      refine vo_guard_on rfl rfl rfl ?_
      refine vo_fieldAddr_ptr rfl rfl Try.underlying33 rfl inf30 (by rw [sz30]; decide) ?_
      try simp only [Nat.zero_add]
      refine vo_guard_on rfl rfl rfl ?_
      refine vo_load_var rfl rfl rfl Try.underlying30 rfl rfl ?_
      refine vo_guard_on rfl rfl rfl ?_
      refine vo_len_pv rfl rfl Try.underlying30 ?_
      refine vo_guard_on rfl rfl rfl ?_
      refine vo_fieldAddr_ptr rfl rfl Try.underlying33 rfl inf22 (by rw [sz22]; decide) ?_
      try simp only [Nat.zero_add]
      refine vo_guard_on rfl rfl rfl ?_
      refine vo_load_var rfl rfl rfl Try.underlying22 rfl rfl ?_
      refine vo_guard_on rfl rfl rfl ?_
      refine vo_len_pv rfl rfl Try.underlying22 ?_
      refine vo_guard_on rfl rfl rfl ?_
      refine vo_binI rfl rfl rfl rfl trivial ?_
      refine vo_pick_f rfl rfl ?_
      refine vo_move_pv rfl rfl ?_
      refine vo_split 25 rfl (fun hg3 => ?_) (fun hg3 => ?_)
      · try simp only [zq0, zq1, zq2, zq3, zq4, zq5, zq6, zq7, zq8, zq9, zqa, zqb, zqc, zqd, zqe, zqf] at hg3
        refine vo_guard_off rfl rfl rfl rfl rfl ?_
        refine vo_guard_off rfl rfl rfl rfl rfl ?_
        refine vo_guard_off rfl rfl rfl rfl rfl ?_
        refine vo_guard_off rfl rfl rfl rfl rfl ?_
        refine vo_pick_t rfl rfl ?_
        refine vo_nil ?_
        refine hK3 _ ?_
        refine vc_cond_t rfl ?_
        refine vc_seq fun K6 hK6 => ?_
        refine vc_region ?_
        refine vo_assign_pv rfl rfl ?_
        refine vo_nil ?_
        refine hK6 _ ?_
        refine vc_ret ?_
        change retQ _ _ _ _ _
        refine retQ_sel [] (srows := []) (.inr rfl) hC rfl rfl rfl rfl rfl rfl rfl ?_
        refine ⟨?_, rfl⟩
        refine (congrArg (fun b => [bo b]) (?_ : _ = _) : [bo _] = [bo _])
        first
          | (refine bF fun h0 => ?_
             have h1 := h0.2.1; have h2 := h0.2.2.1
             first
               | omega
               | exact absurd h0.1 (by assumption)
               | exact absurd h0.1.1 (by assumption)
               | exact absurd h0.1.2 (by assumption)
               | exact absurd (h0.2.2.2.1 _ (getD_mem (show k < w.attrs.length by omega) [])) (by assumption)
               | (have h3 := h0.2.2.2.2 _ (getD_mem (show k < w.objs.length by omega) ⟨0, []⟩)
                  unfold okObj at h3
                  have h4 := h3.2.1
                  first
                    | omega
                    | exact absurd h3.2.2 (by assumption)
                    | exact absurd h3.2.2.2 (by assumption)
                    | exact absurd (⟨by omega, h3.2.2.1⟩ : (w.objs.getD k ⟨0, []⟩).pairs.length ≤ 40 ∧ (nms (w.objs.getD k ⟨0, []⟩).pairs).Nodup) (by assumption)))
          | (rw [take_all (by omega)] at hf2
             rw [take_all (by omega)] at hf
             exact bT ⟨by first | assumption | exact ⟨hg1, hg2⟩, by omega, by omega, hf, hf2⟩)
      · try simp only [zq0, zq1, zq2, zq3, zq4, zq5, zq6, zq7, zq8, zq9, zqa, zqb, zqc, zqd, zqe, zqf] at hg3
        refine vo_guard_on rfl rfl rfl ?_
        refine vo_fieldAddr_ptr rfl rfl Try.underlying33 rfl inf31 (by rw [sz31]; decide) ?_
        try simp only [Nat.zero_add]
        refine vo_guard_on rfl rfl rfl ?_
        refine vo_load_var rfl rfl rfl Try.underlying31 rfl rfl ?_
        refine vo_guard_on rfl rfl rfl ?_
        refine vo_len_pv rfl rfl Try.underlying31 ?_
        refine vo_guard_on rfl rfl rfl ?_
        refine vo_binI rfl rfl rfl rfl trivial ?_
        refine vo_pick_f rfl rfl ?_
        refine vo_nil ?_
        refine hK3 _ ?_
        refine vc_cond rfl (fun hc4 => ?_) (fun hc4 => ?_)
        · try simp only [zq0, zq1, zq2, zq3, zq4, zq5, zq6, zq7, zq8, zq9, zqa, zqb, zqc, zqd, zqe, zqf] at hc4
          refine vc_seq fun K7 hK7 => ?_
          refine vc_region ?_
          refine vo_assign_pv rfl rfl ?_
          refine vo_nil ?_
          refine hK7 _ ?_
          refine vc_ret ?_
          change retQ _ _ _ _ _
          refine retQ_sel [] (srows := []) (.inr rfl) hC rfl rfl rfl rfl rfl rfl rfl ?_
          refine ⟨?_, rfl⟩
          refine (congrArg (fun b => [bo b]) (?_ : _ = _) : [bo _] = [bo _])
          first
            | (refine bF fun h0 => ?_
               have h1 := h0.2.1; have h2 := h0.2.2.1
               first
                 | omega
                 | exact absurd h0.1 (by assumption)
                 | exact absurd h0.1.1 (by assumption)
                 | exact absurd h0.1.2 (by assumption)
                 | exact absurd (h0.2.2.2.1 _ (getD_mem (show k < w.attrs.length by omega) [])) (by assumption)
                 | (have h3 := h0.2.2.2.2 _ (getD_mem (show k < w.objs.length by omega) ⟨0, []⟩)
                    unfold okObj at h3
                    have h4 := h3.2.1
                    first
                      | omega
                      | exact absurd h3.2.2 (by assumption)
                      | exact absurd h3.2.2.2 (by assumption)
                      | exact absurd (⟨by omega, h3.2.2.1⟩ : (w.objs.getD k ⟨0, []⟩).pairs.length ≤ 40 ∧ (nms (w.objs.getD k ⟨0, []⟩).pairs).Nodup) (by assumption)))
            | (rw [take_all (by omega)] at hf2
               rw [take_all (by omega)] at hf
               exact bT ⟨by first | assumption | exact ⟨hg1, hg2⟩, by omega, by omega, hf, hf2⟩)
        · try simp only [zq0, zq1, zq2, zq3, zq4, zq5, zq6, zq7, zq8, zq9, zqa, zqb, zqc, zqd, zqe, zqf] at hc4
          refine vc_skip ?_
          refine hK2 _ ?_
          refine vc_seq fun K8 hK8 => ?_
          refine vc_seq fun K9 hK9 => ?_
          refine vc_region ?_
          refine vo_assign_pv rfl rfl ?_
          refine vo_nil ?_
          refine hK9 _ ?_
          refine vc_block ?_
          refine vc_stM ?_
          refine vc_loopE [1] [3] [] _ _ (fun mz vs rs => ∃ (k : Nat), mz = w.attrs.length - k ∧ (k ≤ w.attrs.length) ∧ (∀ l ∈ w.attrs.take k, AAttrs l) ∧ vs = [i64 k] ∧ rs = []) (w.attrs.length) rfl rfl (le_len hC rfl) ⟨rfl, rfl, rfl⟩ rfl ⟨0, rfl, Nat.zero_le _, (by simp), rfl, rfl⟩ ?_
          rintro mz vs rs - - ⟨k, rfl, hk, hf, rfl, rfl⟩
          refine vc_stM ?_
          have hak := (getD_all (p := fun l : List AttrM => l.length ≤ 2000000) a2 [] (by simp) k)
          refine vc_seq fun K10 hK10 => ?_
          refine vc_seq fun K11 hK11 => ?_
          refine vc_region ?_
          refine vo_move_pv rfl rfl ?_
          refine vo_fieldAddr_ptr rfl rfl Try.underlying33 rfl inf30 (by rw [sz30]; decide) ?_
          try simp only [Nat.zero_add]
          refine vo_load_var rfl rfl rfl Try.underlying30 rfl rfl ?_
          refine vo_len_pv rfl rfl Try.underlying30 ?_
          refine vo_binI rfl rfl rfl rfl trivial ?_
          refine vo_nil ?_
          refine hK11 _ ?_
          refine vc_cond rfl (fun hc5 => ?_) (fun hc5 => ?_)
          · try simp only [zq0, zq1, zq2, zq3, zq4, zq5, zq6, zq7, zq8, zq9, zqa, zqb, zqc, zqd, zqe, zqf] at hc5
            refine vc_skip ?_
            refine hK10 _ ?_
            refine vc_seq fun K12 hK12 => ?_
            refine vc_block ?_
            refine vc_seq fun K13 hK13 => ?_
            refine vc_region ?_
            refine vo_fieldAddr_ptr rfl rfl Try.underlying33 rfl inf30 (by rw [sz30]; decide) ?_
            try simp only [Nat.zero_add]
            refine vo_load_var rfl rfl rfl Try.underlying30 rfl rfl ?_
            refine vo_move_pv rfl rfl ?_
            refine vo_index_pv (.sl none 3 []) rfl rfl rfl E30.und inf63 sz63 sd sd ?_
            simp only [Int.toNat_natCast, Int.toNat_zero, getD_ints, getD_intss, getD_bools, getD_bytes, PV.cells, getD_ops, getD_pairs, getD_insts, getD_attrs, getD_attrss, getD_objs]
            refine vo_load_adr rfl rfl Try.underlying63 rfl ?_
            refine vo_call0 Try.func81 rfl rfl rfl rfl (validAttrs_sat (by omega)) ?_
            rintro _ _ ⟨rfl, rfl⟩
            refine ⟨rfl, rfl, .inl rfl, ?_⟩
            refine vo_stM ?_
            refine vo_not rfl rfl ?_
            refine vo_nil ?_
            refine hK13 _ ?_
            refine vc_cond rfl (fun hc6 => ?_) (fun hc6 => ?_)
            · try simp only [zq0, zq1, zq2, zq3, zq4, zq5, zq6, zq7, zq8, zq9, zqa, zqb, zqc, zqd, zqe, zqf] at hc6
              refine vc_seq fun K14 hK14 => ?_
              refine vc_region ?_
              refine vo_assign_pv rfl rfl ?_
              refine vo_nil ?_
              refine hK14 _ ?_
              refine vc_ret ?_
              change retQ _ _ _ _ _
              refine retQ_sel [] (srows := []) (.inr rfl) hC rfl rfl rfl rfl rfl rfl rfl ?_
              refine ⟨?_, rfl⟩
              refine (congrArg (fun b => [bo b]) (?_ : _ = _) : [bo _] = [bo _])
              first
                | (refine bF fun h0 => ?_
                   have h1 := h0.2.1; have h2 := h0.2.2.1
                   first
                     | omega
                     | exact absurd h0.1 (by assumption)
                     | exact absurd h0.1.1 (by assumption)
                     | exact absurd h0.1.2 (by assumption)
                     | exact absurd (h0.2.2.2.1 _ (getD_mem (show k < w.attrs.length by omega) [])) (by assumption)
                     | (have h3 := h0.2.2.2.2 _ (getD_mem (show k < w.objs.length by omega) ⟨0, []⟩)
                        unfold okObj at h3
                        have h4 := h3.2.1
                        first
                          | omega
                          | exact absurd h3.2.2 (by assumption)
                          | exact absurd h3.2.2.2 (by assumption)
                          | exact absurd (⟨by omega, h3.2.2.1⟩ : (w.objs.getD k ⟨0, []⟩).pairs.length ≤ 40 ∧ (nms (w.objs.getD k ⟨0, []⟩).pairs).Nodup) (by assumption)))
                | (rw [take_all (by omega)] at hf2
                   rw [take_all (by omega)] at hf
                   exact bT ⟨by first | assumption | exact ⟨hg1, hg2⟩, by omega, by omega, hf, hf2⟩)
            · try simp only [zq0, zq1, zq2, zq3, zq4, zq5, zq6, zq7, zq8, zq9, zqa, zqb, zqc, zqd, zqe, zqf] at hc6
              refine vc_skip ?_
              refine hK12 _ ?_
              refine vc_region ?_
              refine vo_move_pv rfl rfl ?_
              refine vo_binI rfl rfl rfl rfl sd ?_
              refine vo_assign_pv rfl rfl ?_
              refine vo_nil ?_
              change againE _ _ _ _ _ _ _ _ _ _
              refine againE_mk rfl rfl rfl rfl rfl rfl ⟨_, ?_, k + 1, rfl, ?_, ?_, rfl, rfl⟩
              · omega
              · omega
              · exact (all_take_succ (by omega) []).2 ⟨hf, by assumption⟩
          · try simp only [zq0, zq1, zq2, zq3, zq4, zq5, zq6, zq7, zq8, zq9, zqa, zqb, zqc, zqd, zqe, zqf] at hc5
            refine vc_exit ?_
            refine hK8 _ ?_
            refine vc_seq fun K15 hK15 => ?_
            refine vc_seq fun K16 hK16 => ?_
            refine vc_region ?_
            refine vo_assign_pv rfl rfl ?_
            refine vo_nil ?_
            refine hK16 _ ?_
            refine vc_block ?_
            refine vc_stM ?_
            refine vc_loopE [1] [4] [] _ _ (fun mz vs rs => ∃ (k : Nat), mz = w.objs.length - k ∧ (k ≤ w.objs.length) ∧ (∀ o ∈ w.objs.take k, okObj w.bases.length o) ∧ vs = [i64 k] ∧ rs = []) (w.objs.length) rfl rfl (le_len hC rfl) ⟨rfl, rfl, rfl⟩ rfl ⟨0, rfl, Nat.zero_le _, (by simp), rfl, rfl⟩ ?_
            rintro mz vs rs - - ⟨k, rfl, hk, hf2, rfl, rfl⟩
            refine vc_stM ?_
            have hok := getD_all o2 ⟨0, []⟩ SO_zero k
            unfold SO at hok
            refine vc_seq fun K17 hK17 => ?_
            refine vc_seq fun K18 hK18 => ?_
            refine vc_region ?_
            refine vo_move_pv rfl rfl ?_
            refine vo_fieldAddr_ptr rfl rfl Try.underlying33 rfl inf31 (by rw [sz31]; decide) ?_
            try simp only [Nat.zero_add]
            refine vo_load_var rfl rfl rfl Try.underlying31 rfl rfl ?_
            refine vo_len_pv rfl rfl Try.underlying31 ?_
            refine vo_binI rfl rfl rfl rfl trivial ?_
            refine vo_nil ?_
            refine hK18 _ ?_
            refine vc_cond rfl (fun hc7 => ?_) (fun hc7 => ?_)
            · try simp only [zq0, zq1, zq2, zq3, zq4, zq5, zq6, zq7, zq8, zq9, zqa, zqb, zqc, zqd, zqe, zqf] at hc7
              refine vc_skip ?_
              refine hK17 _ ?_
              refine vc_seq fun K19 hK19 => ?_
              refine vc_block ?_
              refine vc_seq fun K20 hK20 => ?_
              refine vc_region ?_
              refine vo_fieldAddr_ptr rfl rfl Try.underlying33 rfl inf31 (by rw [sz31]; decide) ?_
              try simp only [Nat.zero_add]
              refine vo_load_var rfl rfl rfl Try.underlying31 rfl rfl ?_
              refine vo_move_pv rfl rfl ?_
              refine vo_index_pv (.agg [(.int .i64 0), (.sl none 2 [])]) rfl rfl rfl E31.und inf62 sz62 sd sd ?_
              simp only [Int.toNat_natCast, Int.toNat_zero, getD_ints, getD_intss, getD_bools, getD_bytes, PV.cells, getD_ops, getD_pairs, getD_insts, getD_attrs, getD_attrss, getD_objs]
              refine vo_load_adrS rfl rfl Try.underlying62 rfl inf62 sz62 rfl ?_
              refine vo_st (by (try simp only [St.put, PV.cells, PV.scal, List.drop_succ_cons, List.drop_zero, List.take_succ_cons, List.take_zero, List.map_cons, List.map_nil, Bool.or_true, Bool.or_false, Bool.false_or, Bool.true_or, opP, pairP, instP, heapP]); exact eq_refl _) ?_
              refine vo_alloc Z62 rfl ?_
              refine vo_stM ?_
              refine vo_store_varS rfl rfl rfl inf62 sz62 rfl ?_
              refine vo_stM ?_
              refine vo_nil ?_
              refine hK20 _ ?_
              refine vc_seq fun K21 hK21 => ?_
              refine vc_region ?_
              refine vo_fieldAddr_ptr rfl rfl Try.underlying62 rfl inf3 (by rw [sz3]; decide) ?_
              try simp only [Nat.zero_add]
              refine vo_load_var rfl rfl rfl Try.underlying3 rfl rfl ?_
              refine vo_fieldAddr_ptr rfl rfl Try.underlying33 rfl inf22 (by rw [sz22]; decide) ?_
              try simp only [Nat.zero_add]
              refine vo_load_var rfl rfl rfl Try.underlying22 rfl rfl ?_
              refine vo_len_pv rfl rfl Try.underlying22 ?_
              refine vo_binI rfl rfl rfl rfl sd ?_
              refine vo_call0 Try.func35 rfl rfl rfl rfl inRange_sat ?_
              rintro _ _ ⟨rfl, rfl⟩
              refine ⟨rfl, rfl, .inl rfl, ?_⟩
              refine vo_stM ?_
              refine vo_not rfl rfl ?_
              refine vo_move_pv rfl rfl ?_
              refine vo_split 65 rfl (fun hg8 => ?_) (fun hg8 => ?_)
              · try simp only [zq0, zq1, zq2, zq3, zq4, zq5, zq6, zq7, zq8, zq9, zqa, zqb, zqc, zqd, zqe, zqf] at hg8
                refine vo_guard_off rfl rfl rfl rfl rfl ?_
                refine vo_guard_off rfl rfl rfl rfl rfl ?_
                refine vo_guard_off rfl rfl rfl rfl rfl ?_
                refine vo_guard_off rfl rfl rfl rfl rfl ?_
                refine vo_pick_t rfl rfl ?_
                refine vo_move_pv rfl rfl ?_
                refine vo_guard_off rfl rfl rfl rfl rfl ?_
                refine vo_guard_off rfl rfl rfl rfl rfl ?_
                refine vo_guard_off rfl rfl rfl rfl rfl ?_
                refine vo_guard_off rfl rfl rfl rfl rfl ?_
                refine vo_pick_t rfl rfl ?_
                refine vo_move_pv rfl rfl ?_
                refine vo_guard_off rfl rfl rfl rfl rfl ?_
                refine vo_guard_off rfl rfl rfl rfl rfl ?_
                refine vo_guard_off rfl rfl rfl rfl rfl ?_
                refine vo_guard_off rfl rfl rfl rfl rfl ?_
                refine vo_pick_t rfl rfl ?_
                refine vo_nil ?_
                refine hK21 _ ?_
                refine vc_cond_t rfl ?_
                refine vc_seq fun K22 hK22 => ?_
                refine vc_region ?_
                refine vo_assign_pv rfl rfl ?_
                refine vo_nil ?_
                refine hK22 _ ?_
                refine vc_ret ?_
                change retQ _ _ _ _ _
                refine retQ_sel [] (srows := []) (.inr rfl) hC rfl rfl rfl rfl rfl rfl rfl ?_
                refine ⟨?_, rfl⟩
                refine (congrArg (fun b => [bo b]) (?_ : _ = _) : [bo _] = [bo _])
                first
                  | (refine bF fun h0 => ?_
                     have h1 := h0.2.1; have h2 := h0.2.2.1
                     first
                       | omega
                       | exact absurd h0.1 (by assumption)
                       | exact absurd h0.1.1 (by assumption)
                       | exact absurd h0.1.2 (by assumption)
                       | exact absurd (h0.2.2.2.1 _ (getD_mem (show k < w.attrs.length by omega) [])) (by assumption)
                       | (have h3 := h0.2.2.2.2 _ (getD_mem (show k < w.objs.length by omega) ⟨0, []⟩)
                          unfold okObj at h3
                          have h4 := h3.2.1
                          first
                            | omega
                            | exact absurd h3.2.2 (by assumption)
                            | exact absurd h3.2.2.2 (by assumption)
                            | exact absurd (⟨by omega, h3.2.2.1⟩ : (w.objs.getD k ⟨0, []⟩).pairs.length ≤ 40 ∧ (nms (w.objs.getD k ⟨0, []⟩).pairs).Nodup) (by assumption)))
                  | (rw [take_all (by omega)] at hf2
                     rw [take_all (by omega)] at hf
                     exact bT ⟨by first | assumption | exact ⟨hg1, hg2⟩, by omega, by omega, hf, hf2⟩)
              · try simp only [zq0, zq1, zq2, zq3, zq4, zq5, zq6, zq7, zq8, zq9, zqa, zqb, zqc, zqd, zqe, zqf] at hg8
                refine vo_guard_on rfl rfl rfl ?_
                refine vo_fieldAddr_ptr rfl rfl Try.underlying62 rfl inf60 (by rw [sz60]; decide) ?_
                try simp only [Nat.zero_add]
                refine vo_guard_on rfl rfl rfl ?_
                refine vo_load_var rfl rfl rfl Try.underlying60 rfl rfl ?_
                refine vo_guard_on rfl rfl rfl ?_
                refine vo_call0 Try.func82 rfl rfl rfl rfl (goodPairs_sat (by omega)) ?_
                rintro _ _ ⟨rfl, rfl⟩
                refine ⟨rfl, rfl, .inl rfl, ?_⟩
                refine vo_stM ?_
                refine vo_guard_on rfl rfl rfl ?_
                refine vo_not rfl rfl ?_
                refine vo_pick_f rfl rfl ?_
                refine vo_move_pv rfl rfl ?_
                refine vo_split 71 rfl (fun hg9 => ?_) (fun hg9 => ?_)
                · try simp only [zq0, zq1, zq2, zq3, zq4, zq5, zq6, zq7, zq8, zq9, zqa, zqb, zqc, zqd, zqe, zqf] at hg9
                  refine vo_guard_off rfl rfl rfl rfl rfl ?_
                  refine vo_guard_off rfl rfl rfl rfl rfl ?_
                  refine vo_guard_off rfl rfl rfl rfl rfl ?_
                  refine vo_guard_off rfl rfl rfl rfl rfl ?_
                  refine vo_pick_t rfl rfl ?_
                  refine vo_move_pv rfl rfl ?_
                  refine vo_guard_off rfl rfl rfl rfl rfl ?_
                  refine vo_guard_off rfl rfl rfl rfl rfl ?_
                  refine vo_guard_off rfl rfl rfl rfl rfl ?_
                  refine vo_guard_off rfl rfl rfl rfl rfl ?_
                  refine vo_pick_t rfl rfl ?_
                  refine vo_nil ?_
                  refine hK21 _ ?_
                  refine vc_cond_t rfl ?_
                  refine vc_seq fun K23 hK23 => ?_
                  refine vc_region ?_
                  refine vo_assign_pv rfl rfl ?_
                  refine vo_nil ?_
                  refine hK23 _ ?_
                  refine vc_ret ?_
                  change retQ _ _ _ _ _
                  refine retQ_sel [] (srows := []) (.inr rfl) hC rfl rfl rfl rfl rfl rfl rfl ?_
                  refine ⟨?_, rfl⟩
                  refine (congrArg (fun b => [bo b]) (?_ : _ = _) : [bo _] = [bo _])
                  first
                    | (refine bF fun h0 => ?_
                       have h1 := h0.2.1; have h2 := h0.2.2.1
                       first
                         | omega
                         | exact absurd h0.1 (by assumption)
                         | exact absurd h0.1.1 (by assumption)
                         | exact absurd h0.1.2 (by assumption)
                         | exact absurd (h0.2.2.2.1 _ (getD_mem (show k < w.attrs.length by omega) [])) (by assumption)
                         | (have h3 := h0.2.2.2.2 _ (getD_mem (show k < w.objs.length by omega) ⟨0, []⟩)
                            unfold okObj at h3
                            have h4 := h3.2.1
                            first
                              | omega
                              | exact absurd h3.2.2 (by assumption)
                              | exact absurd h3.2.2.2 (by assumption)
                              | exact absurd (⟨by omega, h3.2.2.1⟩ : (w.objs.getD k ⟨0, []⟩).pairs.length ≤ 40 ∧ (nms (w.objs.getD k ⟨0, []⟩).pairs).Nodup) (by assumption)))
                    | (rw [take_all (by omega)] at hf2
                       rw [take_all (by omega)] at hf
                       exact bT ⟨by first | assumption | exact ⟨hg1, hg2⟩, by omega, by omega, hf, hf2⟩)
                · try simp only [zq0, zq1, zq2, zq3, zq4, zq5, zq6, zq7, zq8, zq9, zqa, zqb, zqc, zqd, zqe, zqf] at hg9
                  refine vo_guard_on rfl rfl rfl ?_
                  refine vo_fieldAddr_ptr rfl rfl Try.underlying62 rfl inf60 (by rw [sz60]; decide) ?_
                  try simp only [Nat.zero_add]
                  refine vo_guard_on rfl rfl rfl ?_
                  refine vo_load_var rfl rfl rfl Try.underlying60 rfl rfl ?_
                  refine vo_guard_on rfl rfl rfl ?_
                  refine vo_call0 Try.func83 rfl rfl rfl rfl (validPairs_sat (by omega)) ?_
                  rintro _ _ ⟨rfl, rfl⟩
                  refine ⟨rfl, rfl, .inl rfl, ?_⟩
                  refine vo_stM ?_
                  refine vo_guard_on rfl rfl rfl ?_
                  refine vo_not rfl rfl ?_
                  refine vo_pick_f rfl rfl ?_
                  refine vo_move_pv rfl rfl ?_
                  refine vo_split 77 rfl (fun hg10 => ?_) (fun hg10 => ?_)
                  · try simp only [zq0, zq1, zq2, zq3, zq4, zq5, zq6, zq7, zq8, zq9, zqa, zqb, zqc, zqd, zqe, zqf] at hg10
                    refine vo_guard_off rfl rfl rfl rfl rfl ?_
                    refine vo_guard_off rfl rfl rfl rfl rfl ?_
                    refine vo_guard_off rfl rfl rfl rfl rfl ?_
                    refine vo_guard_off rfl rfl rfl rfl rfl ?_
                    refine vo_pick_t rfl rfl ?_
                    refine vo_nil ?_
                    refine hK21 _ ?_
                    refine vc_cond_t rfl ?_
                    refine vc_seq fun K24 hK24 => ?_
                    refine vc_region ?_
                    refine vo_assign_pv rfl rfl ?_
                    refine vo_nil ?_
                    refine hK24 _ ?_
                    refine vc_ret ?_
                    change retQ _ _ _ _ _
                    refine retQ_sel [] (srows := []) (.inr rfl) hC rfl rfl rfl rfl rfl rfl rfl ?_
                    refine ⟨?_, rfl⟩
                    refine (congrArg (fun b => [bo b]) (?_ : _ = _) : [bo _] = [bo _])
                    first
                      | (refine bF fun h0 => ?_
                         have h1 := h0.2.1; have h2 := h0.2.2.1
                         first
                           | omega
                           | exact absurd h0.1 (by assumption)
                           | exact absurd h0.1.1 (by assumption)
                           | exact absurd h0.1.2 (by assumption)
                           | exact absurd (h0.2.2.2.1 _ (getD_mem (show k < w.attrs.length by omega) [])) (by assumption)
                           | (have h3 := h0.2.2.2.2 _ (getD_mem (show k < w.objs.length by omega) ⟨0, []⟩)
                              unfold okObj at h3
                              have h4 := h3.2.1
                              first
                                | omega
                                | exact absurd h3.2.2 (by assumption)
                                | exact absurd h3.2.2.2 (by assumption)
                                | exact absurd (⟨by omega, h3.2.2.1⟩ : (w.objs.getD k ⟨0, []⟩).pairs.length ≤ 40 ∧ (nms (w.objs.getD k ⟨0, []⟩).pairs).Nodup) (by assumption)))
                      | (rw [take_all (by omega)] at hf2
                         rw [take_all (by omega)] at hf
                         exact bT ⟨by first | assumption | exact ⟨hg1, hg2⟩, by omega, by omega, hf, hf2⟩)
                  · try simp only [zq0, zq1, zq2, zq3, zq4, zq5, zq6, zq7, zq8, zq9, zqa, zqb, zqc, zqd, zqe, zqf] at hg10
                    refine vo_guard_on rfl rfl rfl ?_
                    refine vo_fieldAddr_ptr rfl rfl Try.underlying62 rfl inf60 (by rw [sz60]; decide) ?_
                    try simp only [Nat.zero_add]
                    refine vo_guard_on rfl rfl rfl ?_
                    refine vo_load_var rfl rfl rfl Try.underlying60 rfl rfl ?_
                    refine vo_guard_on rfl rfl rfl ?_
                    refine vo_len_pv rfl rfl Try.underlying60 ?_
                    refine vo_guard_on rfl rfl rfl ?_
                    refine vo_binI rfl rfl rfl rfl trivial ?_
                    refine vo_pick_f rfl rfl ?_
                    refine vo_nil ?_
                    refine hK21 _ ?_
                    refine vc_cond rfl (fun hc11 => ?_) (fun hc11 => ?_)
                    · try simp only [zq0, zq1, zq2, zq3, zq4, zq5, zq6, zq7, zq8, zq9, zqa, zqb, zqc, zqd, zqe, zqf] at hc11
                      refine vc_seq fun K25 hK25 => ?_
                      refine vc_region ?_
                      refine vo_assign_pv rfl rfl ?_
                      refine vo_nil ?_
                      refine hK25 _ ?_
                      refine vc_ret ?_
                      change retQ _ _ _ _ _
                      refine retQ_sel [] (srows := []) (.inr rfl) hC rfl rfl rfl rfl rfl rfl rfl ?_
                      refine ⟨?_, rfl⟩
                      refine (congrArg (fun b => [bo b]) (?_ : _ = _) : [bo _] = [bo _])
                      first
                        | (refine bF fun h0 => ?_
                           have h1 := h0.2.1; have h2 := h0.2.2.1
                           first
                             | omega
                             | exact absurd h0.1 (by assumption)
                             | exact absurd h0.1.1 (by assumption)
                             | exact absurd h0.1.2 (by assumption)
                             | exact absurd (h0.2.2.2.1 _ (getD_mem (show k < w.attrs.length by omega) [])) (by assumption)
                             | (have h3 := h0.2.2.2.2 _ (getD_mem (show k < w.objs.length by omega) ⟨0, []⟩)
                                unfold okObj at h3
                                have h4 := h3.2.1
                                first
                                  | omega
                                  | exact absurd h3.2.2 (by assumption)
                                  | exact absurd h3.2.2.2 (by assumption)
                                  | exact absurd (⟨by omega, h3.2.2.1⟩ : (w.objs.getD k ⟨0, []⟩).pairs.length ≤ 40 ∧ (nms (w.objs.getD k ⟨0, []⟩).pairs).Nodup) (by assumption)))
                        | (rw [take_all (by omega)] at hf2
                           rw [take_all (by omega)] at hf
                           exact bT ⟨by first | assumption | exact ⟨hg1, hg2⟩, by omega, by omega, hf, hf2⟩)
                    · try simp only [zq0, zq1, zq2, zq3, zq4, zq5, zq6, zq7, zq8, zq9, zqa, zqb, zqc, zqd, zqe, zqf] at hc11
                      refine vc_skip ?_
                      refine hK19 _ ?_
                      refine vc_region ?_
                      refine vo_move_pv rfl rfl ?_
                      refine vo_binI rfl rfl rfl rfl sd ?_
                      refine vo_assign_pv rfl rfl ?_
                      refine vo_nil ?_
                      change againE _ _ _ _ _ _ _ _ _ _
                      refine againE_mk rfl rfl rfl rfl rfl rfl ⟨_, ?_, k + 1, rfl, ?_, ?_, rfl, rfl⟩
                      · omega
                      · omega
                      · refine (all_take_succ (by omega) ⟨0, []⟩).2 ⟨hf2, ?_⟩
                        unfold okObj; exact ⟨by omega, by omega, by first | assumption | exact ⟨by first | assumption | exact (And.right ‹_ ∧ (nms _).Nodup›), by assumption⟩⟩
            · try simp only [zq0, zq1, zq2, zq3, zq4, zq5, zq6, zq7, zq8, zq9, zqa, zqb, zqc, zqd, zqe, zqf] at hc7
              refine vc_exit ?_
              refine hK15 _ ?_
              refine vc_seq fun K26 hK26 => ?_
              refine vc_region ?_
              refine vo_assign_pv rfl rfl ?_
              refine vo_nil ?_
              refine hK26 _ ?_
              refine vc_ret ?_
              change retQ _ _ _ _ _
              refine retQ_sel [] (srows := []) (.inr rfl) hC rfl rfl rfl rfl rfl rfl rfl ?_
              refine ⟨?_, rfl⟩
              refine (congrArg (fun b => [bo b]) (?_ : _ = _) : [bo _] = [bo _])
              first
                | (refine bF fun h0 => ?_
                   have h1 := h0.2.1; have h2 := h0.2.2.1
                   first
                     | omega
                     | exact absurd h0.1 (by assumption)
                     | exact absurd h0.1.1 (by assumption)
                     | exact absurd h0.1.2 (by assumption)
                     | exact absurd (h0.2.2.2.1 _ (getD_mem (show k < w.attrs.length by omega) [])) (by assumption)
                     | (have h3 := h0.2.2.2.2 _ (getD_mem (show k < w.objs.length by omega) ⟨0, []⟩)
                        unfold okObj at h3
                        have h4 := h3.2.1
                        first
                          | omega
                          | exact absurd h3.2.2 (by assumption)
                          | exact absurd h3.2.2.2 (by assumption)
                          | exact absurd (⟨by omega, h3.2.2.1⟩ : (w.objs.getD k ⟨0, []⟩).pairs.length ≤ 40 ∧ (nms (w.objs.getD k ⟨0, []⟩).pairs).Nodup) (by assumption)))
                | (rw [take_all (by omega)] at hf2
                   rw [take_all (by omega)] at hf
                   exact bT ⟨by first | assumption | exact ⟨hg1, hg2⟩, by omega, by omega, hf, hf2⟩)

end Go.Vl

/- Operations that read no memory come at any time, behind those that write too. -/
namespace Go.Vl
set_option linter.unusedVariables false
set_option linter.unusedSimpArgs false
open Go.RowKit
section
variable {P : Program} {C : Ctx} {s : St} {t : Nat} {ty : TypeId} {pos : String} {af : Array Edge}

theorem l0_binI {op : BinOp} {xt yt : TypeId} {x y : Operand} {k : IntKind} {n1 n2 : Int} {f1 f2 : Bool} {cnd : Prop} {r : PV}
    (hx : getO s.env x = .pv f1 (.int k n1)) (hy : getO s.env y = .pv f2 (.int k n2)) (hb : binI op k n1 n2 = some (cnd, r)) (hc : cnd) : Lt0 P C s ⟨some t, .binOp op xt x y yt, ty, pos, af, none⟩ (.pv true r) := by
  intro m a w hs
  have e1 := hs.int hx
  have e2 := hs.int hy
  have hguard : ∀ (T : TypeId) (w : World), (eqGuard op T x y (.int k n1) (.int k n2)).run P w = .ok () w := by
    intro T w
    cases op <;> rfl
  have key : ∃ v, (∀ w, (binOp op xt (.int k n1) (.int k n2)).run P w = .ok v w) ∧ RS w (Gd C s.rows m w) m s.rows.length (.pv true r) v := by
    cases op <;> simp only [binI, Option.some.injEq, Prod.mk.injEq, reduceCtorEq] at hb
    all_goals try (obtain ⟨rfl, rfl⟩ := hb)
    all_goals try simp only [binOp, ne_eq, not_true, if_false, Op.intArith, Op.intCmp, Op.intDiv]
    all_goals first
      | exact ⟨_, fun _ => rfl, .pv _ _ _ (by rw [wrap_in hc]; exact .int _ _)⟩
      | exact ⟨_, fun _ => rfl, .pv _ _ _ (.bool _)⟩
      | (rw [if_neg (by omega)]
         refine ⟨_, fun _ => rfl, .pv _ _ _ ?_⟩
         first
           | (rw [Int.tdiv_eq_ediv_of_nonneg hc.1, wrap_in hc.2.2]; exact .int _ _)
           | (rw [Int.tmod_eq_emod_of_nonneg hc.1]; exact .int _ _))
  obtain ⟨v, hr, hv⟩ := key
  refine ⟨v, fun w' => ?_, hv⟩
  simp only [execOp, e1, e2]
  have := hguard xt w'
  simp [this, hr]

theorem l0_len_pv {x : Operand} {f : Bool} {nl : Option Bool} {e : Nat} {xs : List PV} {T el : TypeId} (hx : getO s.env x = .pv f (.sl nl e xs)) (hT : P.underlying T = some (.slice el)) : Lt0 P C s ⟨some t, .call ⟨.builtin .len, #[x], #[T]⟩, ty, pos, af, none⟩ ((.pv true (.int .i64 xs.length))) := by
  intro m a w hs
  have hv := hs.get x
  rw [hx] at hv
  have hv := hv.pv_inv
  refine ⟨.int .i64 xs.length, fun _ => ?_, .pv _ _ _ (.int _ _)⟩
  generalize hav : a.eval x = v at hv
  cases hv with
  | nilsl => simp [execOp, resolve, invoke, builtin, Builtin.len_, hav, run_underlying hT, goInt]
  | sl nl e xs ad len cap f h hs' hl => subst hl; simp [execOp, resolve, invoke, builtin, Builtin.len_, hav, run_underlying hT, goInt]

end
end Go.Vl

namespace Go.Vl
set_option linter.unusedVariables false
set_option linter.unusedSimpArgs false
open Go.Proofs

/-- The first of the classes that has a name, and the attribute. -/
def fnd (A : List (List AttrM)) (name : Int) : List Int → Int × AttrM
  | [] => (-1, ⟨0, 0, 0⟩)
  | x :: r => if 0 ≤ findM name (anms (A.getD x.toNat [])) 0 then (x, (A.getD x.toNat []).getD (findM name (anms (A.getD x.toNat [])) 0).toNat ⟨0, 0, 0⟩) else fnd A name r
theorem fnd_drop {A : List (List AttrM)} {name : Int} {o : List Int} {k : Nat} (h : k < o.length) : fnd A name (o.drop k) = if 0 ≤ findM name (anms (A.getD (o.getD k 0).toNat [])) 0 then (o.getD k 0, (A.getD (o.getD k 0).toNat []).getD (findM name (anms (A.getD (o.getD k 0).toNat [])) 0).toNat ⟨0, 0, 0⟩) else fnd A name (o.drop (k+1)) := by
  have e : o.getD k 0 = o[k] := by simp [List.getD, List.getElem?_eq_getElem h]
  rw [List.drop_eq_getElem_cons h, e]; rfl
theorem findA_lt {n : Int} {l : List AttrM} (h : 0 ≤ findM n (anms l) 0) : findM n (anms l) 0 < l.length := by
  obtain ⟨i, hi, h1, _⟩ := findM_pos_iff (n := n) (l := anms l) (k := 0) (by omega) h
  rw [anms_len] at hi; omega
def ownrs (A : List (List AttrM)) (name : Int) (o : List Int) : List Int := o.filter fun x => decide (0 ≤ findM name (anms (A.getD x.toNat [])) 0)
theorem ownrs_yes {A : List (List AttrM)} {name : Int} {o : List Int} {k : Nat} (h : k < o.length) (hp : 0 ≤ findM name (anms (A.getD (o.getD k 0).toNat [])) 0) : ownrs A name (o.take (k+1)) = ownrs A name (o.take k) ++ [o.getD k 0] := by
  have : o.take (k+1) = o.take k ++ [o.getD k 0] := by rw [List.take_add_one, List.getD, List.getElem?_eq_getElem h]; rfl
  unfold ownrs; rw [this, List.filter_append, List.filter_cons_of_pos (by simpa using hp)]; rfl
theorem ownrs_no {A : List (List AttrM)} {name : Int} {o : List Int} {k : Nat} (h : k < o.length) (hp : ¬ 0 ≤ findM name (anms (A.getD (o.getD k 0).toNat [])) 0) : ownrs A name (o.take (k+1)) = ownrs A name (o.take k) := by
  have : o.take (k+1) = o.take k ++ [o.getD k 0] := by rw [List.take_add_one, List.getD, List.getElem?_eq_getElem h]; rfl
  unfold ownrs; rw [this, List.filter_append, List.filter_cons_of_neg (by simpa using hp)]; simp
theorem fnd_ownrs (A : List (List AttrM)) (name : Int) : ∀ o : List Int, (ownrs A name o = [] → fnd A name o = (-1, ⟨0, 0, 0⟩)) ∧ ∀ x r, ownrs A name o = x :: r → fnd A name o = (x, (A.getD x.toNat []).getD (findM name (anms (A.getD x.toNat [])) 0).toNat ⟨0, 0, 0⟩) ∧ 0 ≤ findM name (anms (A.getD x.toNat [])) 0 ∧ x ∈ o
  | [] => ⟨fun _ => rfl, fun x r h => by simp [ownrs] at h⟩
  | y :: o => by
    obtain ⟨h1, h2⟩ := fnd_ownrs A name o
    by_cases hp : 0 ≤ findM name (anms (A.getD y.toNat [])) 0
    · have e : ownrs A name (y :: o) = y :: ownrs A name o := by unfold ownrs; rw [List.filter_cons_of_pos (by simpa using hp)]
      have e2 : fnd A name (y :: o) = (y, (A.getD y.toNat []).getD (findM name (anms (A.getD y.toNat [])) 0).toNat ⟨0, 0, 0⟩) := by unfold fnd; rw [if_pos hp]
      refine ⟨fun h => (by rw [e] at h; cases h), fun x r h => ?_⟩
      rw [e] at h
      cases h
      exact ⟨e2, hp, by simp⟩
    · have e : ownrs A name (y :: o) = ownrs A name o := by unfold ownrs; rw [List.filter_cons_of_neg (by simpa using hp)]
      have e2 : fnd A name (y :: o) = fnd A name o := by rw [fnd, if_neg hp]
      refine ⟨fun h => by rw [e2]; exact h1 (by rw [← e]; exact h), fun x r h => ?_⟩
      obtain ⟨g1, g2, g3⟩ := h2 x r (by rw [← e]; exact h)
      exact ⟨by rw [e2]; exact g1, g2, by simp [g3]⟩
/-- Classes of an order are classes. -/
def OrdIn (n : Nat) (o : List Int) : Prop := o.length < 1000000000 ∧ ∀ x ∈ o, 0 ≤ x ∧ x < n
def fndM (w : WorldM) (c name : Int) : Int × AttrM := if VWorld w ∧ 0 ≤ c ∧ c ≤ (w.bases.length : Int) - 1 then fnd w.attrs name (ordM w.bases c.toNat) else (-1, ⟨0, 0, 0⟩)
theorem ordIn_of {w : WorldM} {c : Int} (hv : VWorld w) (h0 : 0 ≤ c) (h1 : c ≤ (w.bases.length : Int) - 1) : OrdIn w.attrs.length (ordM w.bases c.toNat) := by
  have hc : c.toNat < w.bases.length := by omega
  have hl := ordM_len hv.1.1 hc
  refine ⟨by omega, fun x hx => ?_⟩
  have := (ordM_ok hv.1.1 _ hc)
  have h2 := this.2 x hx
  have := hv.2.1
  omega

end Go.Vl

namespace Go.Vl
set_option linter.unusedVariables false
set_option linter.unusedSimpArgs false
open Go.Proofs

def ownM (w : WorldM) (c name : Int) : List Int := if VWorld w ∧ 0 ≤ c ∧ c ≤ (w.bases.length : Int) - 1 then ownrs w.attrs name (ordM w.bases c.toNat) else []
theorem ownrs_len (A : List (List AttrM)) (name : Int) (o : List Int) : (ownrs A name o).length ≤ o.length := List.length_filter_le _ _
theorem ownM_len {w : WorldM} {c name : Int} : (ownM w c name).length ≤ 12 := by
  unfold ownM
  split
  · rename_i hv
    have := ownrs_len w.attrs name (ordM w.bases c.toNat)
    have := ordM_len hv.1.1.1 (show c.toNat < w.bases.length by omega)
    omega
  · simp

theorem attrPlace_sat {nl0 : Option Bool} {list : List AttrM} {name : Int} (hlist : list.length < 1000000000)  : SatAt Try.prog 42 [.pv false (.sl nl0 3 (list.map attrP)), i64 name] [] (fun res rows => res = [i64 (findM name (anms list) 0)] ∧ rows = []) := by
 refine sat_entry_G (rs := [(4, none)]) Try.func42 rfl rfl (Nat.le_of_ble_eq_true rfl) (Nat.le_of_ble_eq_true rfl) (resTs1 trivial) fun C hC => ?_
 rw [Try.ntmps42]
 replace hC : C.nb = 0 := hC
 refine vc_seq fun K1 hK1 => ?_
 refine vc_region ?_
 refine vo_assign_pv rfl rfl ?_
 refine vo_nil ?_
 refine hK1 _ ?_
 refine vc_seq fun K2 hK2 => ?_
 refine vc_region ?_
 refine vo_move_pv rfl rfl ?_
 refine vo_call0 Try.func93 rfl rfl rfl rfl (attrNames_sat hlist) ?_
 rintro _ _ ⟨nl9, rfl, rfl⟩
 refine ⟨rfl, rfl, .inl rfl, ?_⟩
 refine vo_stM ?_
 refine vo_move_pv rfl rfl ?_
 refine vo_call0 Try.func92 rfl rfl rfl rfl (Index_sat (s := anms list) (by rw [anms_len]; omega)) ?_
 rintro _ _ ⟨rfl, rfl⟩
 refine ⟨rfl, rfl, .inl rfl, ?_⟩
 refine vo_stM ?_
 refine vo_assign_pv rfl rfl ?_
 refine vo_nil ?_
 refine hK2 _ ?_
 refine vc_ret ?_
 change retQ _ _ _ _ _
 refine retQ_sel [] (srows := []) (.inr rfl) hC rfl rfl rfl rfl rfl rfl rfl ?_
 refine ⟨?_, rfl⟩
 refine (congrArg (fun b => [i64 b]) (?_ : _ = _) : [i64 _] = [i64 _])
 rfl


theorem hasClassIn_sat {w : WorldM} {c : Int}  (hw : SW w) : SatAt Try.prog 40 [.pv false (worldP w), i64 c] [] (fun res rows => res = [bo (decide (VWorld w ∧ 0 ≤ c ∧ c ≤ (w.bases.length : Int) - 1))] ∧ rows = []) := by
 have hw0 := hw
 obtain ⟨⟨b1, b2⟩, ⟨a1, a2⟩, o1, o2⟩ := hw
 refine sat_entry_G (rs := [(4, none)]) Try.func40 rfl rfl (Nat.le_of_ble_eq_true rfl) (Nat.le_of_ble_eq_true rfl) (resTs1 trivial) fun C hC => ?_
 rw [Try.ntmps40]
 replace hC : C.nb = 0 := hC
 refine vc_seq fun K1 hK1 => ?_
 refine vc_region ?_
 refine vo_box rfl rfl ?_
 refine vo_stM ?_
 refine vo_assign_pv rfl rfl ?_
 refine vo_nil ?_
 refine hK1 _ ?_
 refine vc_seq fun K2 hK2 => ?_
 refine vc_region ?_
 refine vo_load_varS rfl rfl rfl Try.underlying33 rfl inf33 sz33 rfl rfl ?_
 refine vo_call0 Try.func24 rfl rfl rfl rfl (implValidWorld_sat hw0) ?_
 rintro _ _ ⟨rfl, rfl⟩
 refine ⟨rfl, rfl, .inl rfl, ?_⟩
 refine vo_stM ?_
 refine vo_move_pv rfl rfl ?_
 refine vo_split 7 rfl (fun hg1 => ?_) (fun hg1 => ?_)
 ·try simp only [zq0, zq1, zq2, zq3, zq4, zq5, zq6, zq7, zq8, zq9, zqa, zqb, zqc, zqd, zqe, zqf] at hg1
  refine vo_guard_on rfl rfl rfl ?_
  refine vo_move_pv rfl rfl ?_
  refine vo_guard_on rfl rfl rfl ?_
  refine vo_fieldAddr_ptr rfl rfl Try.underlying33 rfl inf22 (by rw [sz22]; decide) ?_
  try simp only [Nat.zero_add]
  refine vo_guard_on rfl rfl rfl ?_
  refine vo_load_var rfl rfl rfl Try.underlying22 rfl rfl ?_
  refine vo_guard_on rfl rfl rfl ?_
  refine vo_len_pv rfl rfl Try.underlying22 ?_
  refine vo_guard_on rfl rfl rfl ?_
  refine vo_binI rfl rfl rfl rfl sd ?_
  refine vo_guard_on rfl rfl rfl ?_
  refine vo_call0 Try.func69 rfl rfl rfl rfl isUpTo_sat ?_
  rintro _ _ ⟨rfl, rfl⟩
  refine ⟨rfl, rfl, .inl rfl, ?_⟩
  refine vo_stM ?_
  refine vo_pick_t rfl rfl ?_
  refine vo_assign_pv rfl rfl ?_
  refine vo_nil ?_
  refine hK2 _ ?_
  refine vc_ret ?_
  change retQ _ _ _ _ _
  refine retQ_sel [] (srows := []) (.inr rfl) hC rfl rfl rfl rfl rfl rfl rfl ?_
  refine ⟨?_, rfl⟩
  refine (congrArg (fun b => [bo b]) (?_ : _ = _) : [bo _] = [bo _])
  first
   | exact bF fun h0 => absurd h0.1 (by assumption)
   | exact decide_eq_decide.2 ⟨fun h0 => ⟨by assumption, by omega, by simp only [List.length_map] at h0; omega⟩, fun h0 => by simp only [List.length_map]; omega⟩
 ·try simp only [zq0, zq1, zq2, zq3, zq4, zq5, zq6, zq7, zq8, zq9, zqa, zqb, zqc, zqd, zqe, zqf] at hg1
  refine vo_guard_off rfl rfl rfl rfl rfl ?_
  refine vo_guard_off rfl rfl rfl rfl rfl ?_
  refine vo_guard_off rfl rfl rfl rfl rfl ?_
  refine vo_guard_off rfl rfl rfl rfl rfl ?_
  refine vo_guard_off rfl rfl rfl rfl rfl ?_
  refine vo_guard_off rfl rfl rfl rfl rfl ?_
  refine vo_pick_f rfl rfl ?_
  refine vo_assign_pv rfl rfl ?_
  refine vo_nil ?_
  refine hK2 _ ?_
  refine vc_ret ?_
  change retQ _ _ _ _ _
  refine retQ_sel [] (srows := []) (.inr rfl) hC rfl rfl rfl rfl rfl rfl rfl ?_
  refine ⟨?_, rfl⟩
  refine (congrArg (fun b => [bo b]) (?_ : _ = _) : [bo _] = [bo _])
  first
   | exact bF fun h0 => absurd h0.1 (by assumption)
   | exact decide_eq_decide.2 ⟨fun h0 => ⟨by assumption, by omega, by simp only [List.length_map] at h0; omega⟩, fun h0 => by simp only [List.length_map]; omega⟩


theorem firstIn_sat {w : WorldM} {nl1 : Option Bool} {classes : List Int} {name : Int}  (hA0 : w.attrs.length ≤ 2000000) (hA : ∀ l ∈ w.attrs, l.length ≤ 2000000) (ho : OrdIn w.attrs.length classes) : SatAt Try.prog 63 [.pv false (worldP w), .pv false (.sl nl1 1 (classes.map intP)), i64 name] [] (fun res rows => res = [i64 (fnd w.attrs name classes).1, .pv true (attrP (fnd w.attrs name classes).2)] ∧ rows = []) := by
 obtain ⟨ho1, ho2⟩ := ho
 refine sat_entry_G (rs := [(6, none), (7, some (37, 3))]) Try.func63 rfl rfl (Nat.le_of_ble_eq_true rfl) (Nat.le_of_ble_eq_true rfl) (resTs2 trivial ⟨_, _, Try.underlying37, rfl, inf37, sz37⟩) fun C hC => ?_
 rw [Try.ntmps63]
 replace hC : C.nb = 0 := hC
 refine vc_seq fun K1 hK1 => ?_
 refine vc_region ?_
 refine vo_box rfl rfl ?_
 refine vo_stM ?_
 refine vo_assign_pv rfl rfl ?_
 refine vo_alloc Z37 rfl ?_
 refine vo_stM ?_
 refine vo_nil ?_
 refine hK1 _ ?_
 refine vc_seq fun K2 hK2 => ?_
 refine vc_seq fun K3 hK3 => ?_
 refine vc_region ?_
 refine vo_move_pv rfl rfl ?_
 refine vo_len_pv rfl rfl Try.underlying49 ?_
 refine vo_move_pv rfl rfl ?_
 refine vo_nil ?_
 refine hK3 _ ?_
 refine vc_block ?_
 refine vc_stM ?_
 refine vc_loopE [2, 3, 7, 11, 12] [13] [] _ _ (fun mz vs rs => ∃ (k : Nat), mz = classes.length - k ∧ (k ≤ classes.length) ∧ (fnd w.attrs name classes = fnd w.attrs name (classes.drop k)) ∧ vs = [i64 k] ∧ rs = []) (classes.length) rfl rfl (le_len hC rfl) ⟨rfl, rfl, rfl⟩ rfl ⟨0, rfl, Nat.zero_le _, rfl, rfl, rfl⟩ ?_
 rintro mz vs rs - - ⟨k, rfl, hk, hf, rfl, rfl⟩
 refine vc_stM ?_
 refine vc_seq fun K4 hK4 => ?_
 refine vc_region ?_
 refine vo_binI rfl rfl rfl rfl trivial ?_
 refine vo_nil ?_
 refine hK4 _ ?_
 refine vc_seq fun K5 hK5 => ?_
 refine vc_cond rfl (fun hc1 => ?_) (fun hc1 => ?_)
 ·try simp only [zq0, zq1, zq2, zq3, zq4, zq5, zq6, zq7, zq8, zq9, zqa, zqb, zqc, zqd, zqe, zqf] at hc1
  have hin := ho2 _ (getD_mem (show k < classes.length by omega) 0)
  have hak := (getD_all (p := fun l : List AttrM => l.length ≤ 2000000) hA [] (by simp) (classes.getD k 0).toNat)
  refine vc_skip ?_
  refine hK5 _ ?_
  refine vc_seq fun K6 hK6 => ?_
  refine vc_block ?_
  refine vc_seq fun K7 hK7 => ?_
  refine vc_region ?_
  refine vo_index_pv (.int .i64 0) rfl rfl rfl E49.und inf3 sz3 sd sd ?_
  simp only [Int.toNat_natCast, Int.toNat_zero, getD_ints, getD_intss, getD_bools, getD_bytes, PV.cells, getD_ops, getD_pairs, getD_insts, getD_attrs, getD_attrss, getD_objs, getD_ordP]
  refine vo_load_adr rfl rfl Try.underlying3 rfl ?_
  refine vo_assign_pv rfl rfl ?_
  refine vo_nil ?_
  refine hK7 _ ?_
  refine vc_seq fun K8 hK8 => ?_
  refine vc_region ?_
  refine vo_fieldAddr_ptr rfl rfl Try.underlying33 rfl inf30 (by rw [sz30]; decide) ?_
  try simp only [Nat.zero_add]
  refine vo_load_var rfl rfl rfl Try.underlying30 rfl rfl ?_
  refine vo_move_pv rfl rfl ?_
  refine vo_index_pv (.sl none 3 []) rfl rfl rfl E30.und inf63 sz63 sd sd ?_
  simp only [Int.toNat_natCast, Int.toNat_zero, getD_ints, getD_intss, getD_bools, getD_bytes, PV.cells, getD_ops, getD_pairs, getD_insts, getD_attrs, getD_attrss, getD_objs, getD_ordP]
  refine vo_load_adr rfl rfl Try.underlying63 rfl ?_
  refine vo_move_pv rfl rfl ?_
  refine vo_call0 Try.func42 rfl rfl rfl rfl (attrPlace_sat (by omega)) ?_
  rintro _ _ ⟨rfl, rfl⟩
  refine ⟨rfl, rfl, .inl rfl, ?_⟩
  refine vo_stM ?_
  refine vo_assign_pv rfl rfl ?_
  refine vo_nil ?_
  refine hK8 _ ?_
  refine vc_seq fun K9 hK9 => ?_
  refine vc_region ?_
  refine vo_move_pv rfl rfl ?_
  refine vo_binI rfl rfl rfl rfl trivial ?_
  refine vo_nil ?_
  refine hK9 _ ?_
  refine vc_cond rfl (fun hc2 => ?_) (fun hc2 => ?_)
  ·try simp only [zq0, zq1, zq2, zq3, zq4, zq5, zq6, zq7, zq8, zq9, zqa, zqb, zqc, zqd, zqe, zqf] at hc2
   have hlt := findA_lt hc2
   refine vc_seq fun K10 hK10 => ?_
   refine vc_drawLD [10] [0, 1, 2, 3, 4, 5, 6, 7, 8, 9, 10] [0, 9, 1, 2, 3, 4, 5, 6, 7, 8, 10] (by kernel_rfl) (by kernel_rfl) (by kernel_rfl) (by kernel_rfl) ?_
   change VL [10] _ _ _ 11 _ _ _
   refine vl_light 0 [1, 2, 3, 4, 5, 6, 7, 8] rfl rfl rfl (by kernel_rfl) (by kernel_rfl) (by kernel_rfl) (by kernel_rfl) (by kernel_rfl) (wnt_none rfl) (lt_move_pv rfl) ?_
   refine vl_light 1 [0, 3, 6, 9] rfl rfl rfl (by kernel_rfl) (by kernel_rfl) (by kernel_rfl) (by kernel_rfl) (by kernel_rfl) (wnt_none rfl) (lt_fieldAddr_ptr rfl Try.underlying33 rfl inf30 (by rw [sz30]; decide)) ?_
   try simp only [Nat.zero_add]
   refine vl_light 2 [0, 1, 3, 6, 9] rfl rfl rfl (by kernel_rfl) (by kernel_rfl) (by kernel_rfl) (by kernel_rfl) (by kernel_rfl) (wnt_none rfl) (lt_load_var rfl rfl Try.underlying30 rfl rfl) ?_
   refine vl_light 3 [0, 1, 2, 6, 9] rfl rfl rfl (by kernel_rfl) (by kernel_rfl) (by kernel_rfl) (by kernel_rfl) (by kernel_rfl) (wnt_none rfl) (lt_move_pv rfl) ?_
   refine vl_light 4 [0, 1, 2, 3, 6, 9] rfl rfl rfl (by kernel_rfl) (by kernel_rfl) (by kernel_rfl) (by kernel_rfl) (by kernel_rfl) (wnt_none rfl) (lt_index_pv (.sl none 3 []) rfl rfl E30.und inf63 sz63 sd sd) ?_
   simp only [Int.toNat_natCast, Int.toNat_zero, getD_ints, getD_intss, getD_bools, getD_bytes, PV.cells, getD_ops, getD_pairs, getD_insts, getD_attrs, getD_attrss, getD_objs, getD_ordP]
   refine vl_light 5 [0, 1, 2, 3, 4, 6, 9] rfl rfl rfl (by kernel_rfl) (by kernel_rfl) (by kernel_rfl) (by kernel_rfl) (by kernel_rfl) (wnt_none rfl) (lt_load_adr rfl Try.underlying63 rfl) ?_
   refine vl_light 6 [0, 1, 2, 3, 4, 5, 9] rfl rfl rfl (by kernel_rfl) (by kernel_rfl) (by kernel_rfl) (by kernel_rfl) (by kernel_rfl) (wnt_none rfl) (lt_move_pv rfl) ?_
   refine vl_light 7 [0, 1, 2, 3, 4, 5, 6, 9] rfl rfl rfl (by kernel_rfl) (by kernel_rfl) (by kernel_rfl) (by kernel_rfl) (by kernel_rfl) (wnt_none rfl) (lt_index_pv (.agg [(.int .i64 0), (.int .i64 0), (.int .i64 0)]) rfl rfl E63.und inf37 sz37 sd sd) ?_
   simp only [Int.toNat_natCast, Int.toNat_zero, getD_ints, getD_intss, getD_bools, getD_bytes, PV.cells, getD_ops, getD_pairs, getD_insts, getD_attrs, getD_attrss, getD_objs, getD_ordP]
   refine vl_light 8 [0, 1, 2, 3, 4, 5, 6, 7, 9] rfl rfl rfl (by kernel_rfl) (by kernel_rfl) (by kernel_rfl) (by kernel_rfl) (by kernel_rfl) (wnt_none rfl) (lt_load_adrS rfl Try.underlying37 rfl inf37 sz37 rfl) ?_
   refine vl_st (by (try simp only [St.put, PV.cells, PV.scal, List.drop_succ_cons, List.drop_zero, List.take_succ_cons, List.take_zero, List.map_cons, List.map_nil, Bool.or_true, Bool.or_false, Bool.false_or, Bool.true_or, opP, pairP, instP, heapP]); exact eq_refl _) ?_
   refine vl_light 9 [0, 1, 2, 3, 4, 5, 6, 7, 8] rfl rfl rfl (by kernel_rfl) (by kernel_rfl) (by kernel_rfl) (by kernel_rfl) (by kernel_rfl) (wnt_none rfl) (lt_assign_pv rfl) ?_
   refine vl_one 10 rfl (by kernel_rfl) rfl ?_
   refine vo_store_varS rfl rfl rfl inf37 sz37 rfl ?_
   refine vo_stM ?_
   refine vo_done ⟨rfl, ?_⟩
   refine vl_nil (by kernel_rfl) ?_
   refine hK10 _ ?_
   refine vc_ret ?_
   change retQ _ _ _ _ _
   refine retQ_sel [] (srows := []) (.inr rfl) hC rfl rfl rfl rfl rfl rfl rfl ?_
   rw [hf, fnd_drop (by omega), if_pos (by omega)]; exact ⟨rfl, rfl⟩
  ·try simp only [zq0, zq1, zq2, zq3, zq4, zq5, zq6, zq7, zq8, zq9, zqa, zqb, zqc, zqd, zqe, zqf] at hc2
   refine vc_skip ?_
   refine hK6 _ ?_
   refine vc_region ?_
   refine vo_binI rfl rfl rfl rfl sd ?_
   refine vo_move_pv rfl rfl ?_
   refine vo_nil ?_
   change againE _ _ _ _ _ _ _ _ _ _
   refine againE_mk rfl rfl rfl rfl rfl rfl ⟨_, ?_, k + 1, rfl, ?_, ?_, rfl, rfl⟩
   ·omega
   ·omega
   ·rw [hf, fnd_drop (by omega), if_neg (by omega)]
 ·try simp only [zq0, zq1, zq2, zq3, zq4, zq5, zq6, zq7, zq8, zq9, zqa, zqb, zqc, zqd, zqe, zqf] at hc1
  refine vc_exit ?_
  refine hK2 _ ?_
  refine vc_seq fun K11 hK11 => ?_
  refine vc_region ?_
  refine vo_build S37 rfl rfl rfl ?_
  refine vo_stM ?_
  refine vo_assign_pv rfl rfl ?_
  refine vo_store_varS rfl rfl rfl inf37 sz37 rfl ?_
  refine vo_stM ?_
  refine vo_nil ?_
  refine hK11 _ ?_
  refine vc_ret ?_
  change retQ _ _ _ _ _
  refine retQ_sel [] (srows := []) (.inr rfl) hC rfl rfl rfl rfl rfl rfl rfl ?_
  rw [hf, show k = classes.length by omega, List.drop_length]; exact ⟨rfl, rfl⟩


end Go.Vl

/- Cells of rows whose slices are their own: a plain one is written; a slice in one is lent to a function, which may write it. -/
namespace Go.Vl
set_option linter.unusedVariables false
set_option linter.unusedSimpArgs false
open Go.RowKit

theorem fits_set {p p' c : PV} {e o : Nat} (hf : p.fits e) (hc : c.isAgg = false) (hp' : p'.cells = p.cells.set o c) : p'.fits e := by
  refine ⟨by rw [hp', List.length_set]; exact hf.1, fun j d hd => ?_⟩
  rw [hp', List.getElem?_set] at hd
  split at hd
  · split at hd
    · cases hd; exact hc
    · cases hd
  · exact hf.2 j d hd

section
variable {P : Program} {C : Ctx} {Q : Go.Exit → St → Prop} {s : St} {ops : Array Oper} {rest : List Oper} {t : Nat} {ty : TypeId} {pos : String} {af : Array Edge}

end
end Go.Vl

/- Numbers that are written into the cells of lists, one by one (pure). -/
namespace Go.Vl
set_option linter.unusedVariables false
set_option linter.unusedSimpArgs false

def mkS {α : Type} (f : Int → α → α) (g : Int → α → Int) : Int → List α → List α
  | _, [] => []
  | k, x :: r => f k x :: mkS f g (g k x) r
def mkN {α : Type} (g : Int → α → Int) : Int → List α → Int
  | k, [] => k
  | k, x :: r => mkN g (g k x) r
section
variable {α : Type} {f : Int → α → α} {g : Int → α → Int}
theorem getP {fp : α → PV} {L : List α} {i : Nat} (d : α) (h : i < L.length) : (L.map fp)[i]? = some (fp (L.getD i d)) := by
  simp [List.getD, List.getElem?_eq_getElem h]
end
end Go.Vl
namespace Go.Vl
end Go.Vl

namespace Go.Vl
set_option linter.unusedVariables false
set_option linter.unusedSimpArgs false
open Go.Proofs

def fA (k : Int) (_ : AttrM) : AttrM := ⟨k, k + 1, k + 1 + 1⟩
def gA (k : Int) (_ : AttrM) : Int := k + 1 + 1 + 1
def fP (k : Int) (_ : Int × Int) : Int × Int := (k, k + 1)
def gP (k : Int) (_ : Int × Int) : Int := k + 1 + 1
end Go.Vl

namespace Go.Vl
set_option linter.unusedVariables false
set_option linter.unusedSimpArgs false
open Go.Proofs

end Go.Vl

namespace Go.Vl
set_option linter.unusedVariables false
set_option linter.unusedSimpArgs false
open Go.Proofs

def rstM (o : List Int) (x : Int) : List Int := if 0 ≤ findM x o 0 then o.drop (findM x o 0 + 1).toNat else []
def nxtO (o : List Int) (x : Int) : Int := if 0 ≤ findM x o 0 ∧ findM x o 0 + 1 < o.length then o.getD (findM x o 0 + 1).toNat 0 else -1
theorem findM_ltL {x : Int} {o : List Int} (h : 0 ≤ findM x o 0) : findM x o 0 < o.length := by
  obtain ⟨i, hi, h1, _⟩ := findM_pos_iff (n := x) (l := o) (k := 0) (by omega) h
  omega
theorem restBehind_sat {nl0 : Option Bool} {order : List Int} {cls : Int} (horder : order.length < 1000000000)  : SatAt Try.prog 75 [.pv false (.sl nl0 1 (order.map intP)), i64 cls] [] (fun res rows => ∃ f nl, res = [.pv f (.sl nl 1 ((rstM order cls).map intP))] ∧ rows = []) := by
 refine sat_entry_G (rs := [(4, none)]) Try.func75 rfl rfl (Nat.le_of_ble_eq_true rfl) (Nat.le_of_ble_eq_true rfl) (resTs1 trivial) fun C hC => ?_
 rw [Try.ntmps75]
 replace hC : C.nb = 0 := hC
 refine vc_seq fun K1 hK1 => ?_
 refine vc_region ?_
 refine vo_assign_pv rfl rfl ?_
 refine vo_own_nil 4 E49 rfl ?_
 refine vo_nil ?_
 refine hK1 _ ?_
 refine vc_seq fun K2 hK2 => ?_
 refine vc_region ?_
 refine vo_move_pv rfl rfl ?_
 refine vo_move_pv rfl rfl ?_
 refine vo_call0 Try.func92 rfl rfl rfl rfl (Index_sat (s := order) horder) ?_
 rintro _ _ ⟨rfl, rfl⟩
 refine ⟨rfl, rfl, .inl rfl, ?_⟩
 refine vo_stM ?_
 refine vo_assign_pv rfl rfl ?_
 refine vo_nil ?_
 refine hK2 _ ?_
 refine vc_seq fun K3 hK3 => ?_
 refine vc_seq fun K4 hK4 => ?_
 refine vc_region ?_
 refine vo_move_pv rfl rfl ?_
 refine vo_binI rfl rfl rfl rfl trivial ?_
 refine vo_nil ?_
 refine hK4 _ ?_
 refine vc_cond rfl (fun hc1 => ?_) (fun hc1 => ?_)
 ·try simp only [zq0, zq1, zq2, zq3, zq4, zq5, zq6, zq7, zq8, zq9, zqa, zqb, zqc, zqd, zqe, zqf] at hc1
  refine vc_seq fun K5 hK5 => ?_
  refine vc_region ?_
  refine vo_assign_pv rfl rfl ?_
  refine vo_own_nil 4 E49 rfl ?_
  refine vo_nil ?_
  refine hK5 _ ?_
  refine vc_expose 1 (by omega) rfl ?_
  refine vc_stM ?_
  refine vc_ret ?_
  change retQ _ _ _ _ _
  refine retQ_sel [] (srows := []) (.inr rfl) hC rfl rfl rfl rfl rfl rfl rfl ?_
  have e : rstM order cls = [] := by unfold rstM; rw [if_neg (by omega)]
  rw [e]; exact ⟨_, _, rfl, rfl⟩
 ·try simp only [zq0, zq1, zq2, zq3, zq4, zq5, zq6, zq7, zq8, zq9, zqa, zqb, zqc, zqd, zqe, zqf] at hc1
  have hlt := findM_ltL (x := cls) (o := order) (by omega)
  refine vc_skip ?_
  refine hK3 _ ?_
  refine vc_seq fun K6 hK6 => ?_
  refine vc_region ?_
  refine vo_move_pv rfl rfl ?_
  refine vo_move_pv rfl rfl ?_
  refine vo_binI rfl rfl rfl rfl sd ?_
  refine vo_slice_pv rfl rfl rfl rfl E49.und inf3 sz3 sd sd sd ?_
  simp only [Int.toNat_natCast, Int.toNat_zero, List.drop_zero, Nat.sub_zero, ← List.map_drop, ← List.map_take]
  refine vo_assign_pv rfl rfl ?_
  refine vo_nil ?_
  refine hK6 _ ?_
  refine vc_ret ?_
  change retQ _ _ _ _ _
  refine retQ_sel [] (srows := []) (.inr rfl) hC rfl rfl rfl rfl rfl rfl rfl ?_
  have e : rstM order cls = (order.drop (findM cls order 0 + 1).toNat).take ((order.map intP).length - (findM cls order 0 + 1).toNat) := by unfold rstM; rw [if_pos (by omega), List.take_of_length_le (by rw [List.length_drop, List.length_map]; omega)]
  rw [e]
  exact ⟨_, _, rfl, rfl⟩

end Go.Vl

/- Calls by any operation that enters a function: by name, through an interface, of a value. -/
namespace Go.Vl
set_option linter.unusedVariables false
set_option linter.unusedSimpArgs false
open Go.RowKit
section
variable {P : Program} {C : Ctx} {Q : Go.Exit → St → Prop} {s : St}

/-- An operation that enters a function, by what that hands back; 'bs' are the rows that it may write. -/
theorem ow_callA {op : Op} {t : Nat} {ty : TypeId} {pos : String} {af : Array Edge} {gd : Option (Nat × Bool)} {f : FuncId} {va : Array Value} {sa : List SV} {args : List SV} {R : List SV → List Row → Prop} (bs : List Nat)
    {brows : List Row} {m : Nat → MV} {a : Act} {w : World} {K : Act → World → Prop} {Q' : Go.Exit → Act → World → Prop} (hs : SimM C s m a w)
    (hrun : (execOp a.eval ⟨some t, op, ty, pos, af, gd⟩).run P w = .ok (.enter f va) w) (hva : va.size = sa.length)
    (hvs : ∀ (u : Nat) (x : SV), sa[u]? = some x → RS w (Gd C s.rows m w) m s.rows.length x (va.getD u undef)) (ht : Nat.blt t s.n = true)
    (hb1 : bs.map (fun id => (s.rows[id]?).map Row.toArg) = brows.map some) (hb2 : brows.all Row.live = true) (hb3 : bs.map (placeOf bs) = (List.range bs.length).map some)
    (hargs : sa.mapM (argOfB bs s.rows) = some args) (hsat : SatAt P f args brows R)
    (next : ∀ res rows', R res rows' → bs.length ≤ rows'.length ∧ (res.all SV.noTup = true ∧ rows'.all (Row.bdd 0) = true ∧ (rows'.take bs.length).all Row.live = true ∧ rows'.all Row.noGh = true) ∧
      ((sa.any (SV.isKept bs) = false) ∨ (res.all SV.fresh = true ∧ rows'.all Row.fresh = true)) ∧
      ∀ m' a' w', SimM C ⟨s.n, (t, packS (res.map (SV.shift bs s.rows.length))) :: s.env, rowsAfter bs s.rows rows'⟩ m' a' w' → w.heap.size ≤ w'.heap.size →
        (∀ k, k < w.heap.size → (∀ (q id : Nat), bs[q]? = some id → ¬ (m id).S k) → w'.heap[k]? = w.heap[k]?) → K a' w') :
    Oper.wp P ⟨some t, op, ty, pos, af, gd⟩ a w K Q' := by
  unfold Oper.wp
  rw [hrun, Oper.upon_enter]
  have hbrow : ∀ (q id : Nat), bs[q]? = some id → ∃ r, s.rows[id]? = some r ∧ brows[q]? = some r.toArg ∧ r.live = true := by
    intro q id hq
    have h1 : (bs.map (fun id => (s.rows[id]?).map Row.toArg))[q]? = (brows.map some)[q]? := by rw [hb1]
    simp only [List.getElem?_map, hq, Option.map_some] at h1
    cases hr : s.rows[id]? with
    | none =>
      rw [hr] at h1
      cases hq2 : brows[q]? with
      | none => rw [hq2] at h1; simp at h1
      | some r2 => rw [hq2] at h1; simp at h1
    | some r =>
      rw [hr] at h1
      simp only [Option.map_some] at h1
      cases hq2 : brows[q]? with
      | none => rw [hq2] at h1; simp at h1
      | some r2 =>
        rw [hq2] at h1
        simp at h1
        subst h1
        refine ⟨r, rfl, rfl, ?_⟩
        rw [List.all_eq_true] at hb2
        exact toArg_live _ (hb2 _ (List.mem_of_getElem? hq2))
  have hblen : brows.length = bs.length := by
    have := congrArg List.length hb1
    simpa using this.symm
  have hblive : ∀ (q id : Nat), bs[q]? = some id → liveAt s.rows id := fun q id hq => let ⟨r, h1, _, h3⟩ := hbrow q id hq; ⟨r, h1, h3⟩
  have hplace : ∀ (q id : Nat), bs[q]? = some id → placeOf bs id = some q := by
    intro q id hq
    have h1 : (bs.map (placeOf bs))[q]? = ((List.range bs.length).map some)[q]? := by rw [hb3]
    have hlt : q < bs.length := (List.getElem?_eq_some_iff.1 hq).1
    simp only [List.getElem?_map, hq, Option.map_some, List.getElem?_range hlt, Option.some.injEq] at h1
    exact h1
  let kept : Prop := sa.any (SV.isKept bs) = true
  let bm : Nat → MV := fun q => m ((bs[q]?).getD 0)
  let tk : Nat → Prop := fun b => ∃ (q id : Nat), bs[q]? = some id ∧ (m id).S b
  let C' : Ctx := ⟨w, fun b => Gd C s.rows m w false b ∨ (kept ∧ b < w.heap.size ∧ ¬ tk b), bs.length, bm⟩
  have hlen : args.length = va.size := by rw [mapM_len hargs, hva]
  have htk : ∀ b, tk b → priv s.rows m b := fun b ⟨q, id, h1, h2⟩ => ⟨id, hblive q id h1, h2⟩
  have hbpriv : ∀ b, priv brows bm b → tk b := by
    rintro b ⟨q, ⟨r, hr, hl⟩, hbk⟩
    have hq : q < bs.length := by rw [← hblen]; exact (List.getElem?_eq_some_iff.1 hr).1
    have hq2 : bs[q]? = some bs[q] := List.getElem?_eq_getElem hq
    exact ⟨q, _, hq2, by simpa [bm, hq2] using hbk⟩
  have hkey : ∀ fr b, Gd C s.rows m w fr b → Gd C' brows bm w false b := fun fr b hb =>
    ⟨hb.1, fun hp => hb.2.1 (htk b (hbpriv b hp)), fun _ => .inl (.inl hb.weak), fun e => by cases e⟩
  have hs0 : SimM C' ⟨va.size, enumE 0 args, brows⟩ bm ⟨va, []⟩ C'.w0 := {
    defs := rfl
    size := rfl
    os := rfl
    tape := rfl
    output := rfl
    hsz := Nat.le_refl _
    old := fun _ _ _ => rfl
    bor := fun _ _ => rfl
    nbl := by show bs.length ≤ brows.length; omega
    newb := fun id b hge hl _ => by
      obtain ⟨r, hr, _⟩ := hl
      have h1 : id < brows.length := (List.getElem?_eq_some_iff.1 hr).1
      change bs.length ≤ id at hge
      omega
    dist := fun i j b hi hj hbi hbj => by
      obtain ⟨r, hr, _⟩ := hi
      obtain ⟨r2, hr2, _⟩ := hj
      have hi1 : i < bs.length := by rw [← hblen]; exact (List.getElem?_eq_some_iff.1 hr).1
      have hj1 : j < bs.length := by rw [← hblen]; exact (List.getElem?_eq_some_iff.1 hr2).1
      have hi2 : bs[i]? = some bs[i] := List.getElem?_eq_getElem hi1
      have hj2 : bs[j]? = some bs[j] := List.getElem?_eq_getElem hj1
      simp only [bm, hi2, hj2, Option.getD_some] at hbi hbj
      have := hs.dist _ _ b (hblive i _ hi2) (hblive j _ hj2) hbi hbj
      have p1 := hplace i _ hi2
      have p2 := hplace j _ hj2
      rw [this, p2] at p1
      cases p1
      rfl
    rows := fun q r hr => by
      have hq : q < bs.length := by rw [← hblen]; exact (List.getElem?_eq_some_iff.1 hr).1
      have hq2 : bs[q]? = some bs[q] := List.getElem?_eq_getElem hq
      obtain ⟨r0, h1, h2, h3⟩ := hbrow q _ hq2
      change brows[q]? = some r at hr
      rw [hr] at h2
      cases h2
      have : bm q = m bs[q] := by simp [bm, hq2]
      rw [this]
      exact toArg_ok hkey (hs.rows _ _ h1)
    env := fun u => by
      show RS w _ _ _ (look (enumE 0 args) u) _
      rw [look_enumE]
      simp only [Nat.zero_le, if_true, Nat.sub_zero]
      rcases Nat.lt_or_ge u va.size with hu | hu
      · have hx : sa[u]? = some (sa[u]'(by omega)) := List.getElem?_eq_getElem (by omega)
        obtain ⟨y, hy, hg⟩ := mapM_get hargs u _ hx
        rw [hy]
        simp only [Option.getD_some]
        show RS w _ _ _ y (va.getD u undef)
        have hv := hvs u _ hx
        generalize hgx : sa[u]'(by omega) = gx at *
        generalize va.getD u undef = v at *
        cases hv with
        | pv fr p v hp =>
          simp only [argOfB, Option.some.injEq] at hg
          subst hg
          cases hsc : p.scal with
          | true => exact .pv _ _ _ (hp.scal_any hsc)
          | false => exact .pv _ _ _ (hp.mono fun b hb => ⟨hkey fr b hb, rfl⟩)
        | ref id hid =>
          simp only [argOfB] at hg
          split at hg
          · rename_i q hq
            simp at hg
            subst hg
            have hq2 := placeOf_some hq
            have : m id = bm q := by simp [bm, hq2]
            rw [this]
            exact .ref q (by show q < brows.length; rw [hblen]; exact (List.getElem?_eq_some_iff.1 hq2).1)
          · rename_i hq
            split at hg
            · rename_i t' e nl fr ys hrow
              simp at hg
              subst hg
              refine .pv _ _ _ (RP.of_row (hs.rows id _ hrow) (fun b hb => hkey _ b hb) (fun b hb => ?_))
              have hlt := hs.lt ⟨_, hrow, rfl⟩ hb
              have hk : kept := by
                show sa.any (SV.isKept bs) = true
                rw [List.any_eq_true]
                exact ⟨.ref id, List.mem_of_getElem? hx, by simp [SV.isKept, hq]⟩
              have hnt : ¬ tk b := by
                rintro ⟨q, id', h1, h2⟩
                have := hs.dist id id' b ⟨_, hrow, rfl⟩ (hblive q id' h1) hb h2
                subst this
                exact placeOf_none hq (List.mem_of_getElem? h1)
              exact ⟨hlt, fun hp => hnt (hbpriv b hp), fun _ => .inl (.inr ⟨hk, hlt, hnt⟩), fun e => by cases e⟩
            · rename_i t' e nl ys hrow
              simp at hg
              subst hg
              refine .pv _ _ _ (RP.of_tree (hs.rows id _ hrow) (fun b hb => ?_))
              have hlt := hs.lt ⟨_, hrow, rfl⟩ hb
              have hk : kept := by
                show sa.any (SV.isKept bs) = true
                rw [List.any_eq_true]
                exact ⟨.ref id, List.mem_of_getElem? hx, by simp [SV.isKept, hq]⟩
              have hnt : ¬ tk b := by
                rintro ⟨q, id', h1, h2⟩
                have := hs.dist id id' b ⟨_, hrow, rfl⟩ (hblive q id' h1) hb h2
                subst this
                exact placeOf_none hq (List.mem_of_getElem? h1)
              exact ⟨hlt, fun hp => hnt (hbpriv b hp), fun _ => .inl (.inr ⟨hk, hlt, hnt⟩), fun e => by cases e⟩
            · simp at hg
        | ptr id e i o b hid hbk =>
          simp only [argOfB] at hg
          split at hg
          · rename_i q hq
            simp at hg
            subst hg
            have hq2 := placeOf_some hq
            have : m id = bm q := by simp [bm, hq2]
            exact .ptr q e i o b (by show q < brows.length; rw [hblen]; exact (List.getElem?_eq_some_iff.1 hq2).1) (by rw [← this]; exact hbk)
          · simp at hg
        | ag vs us hl9 h9 h1 =>
          simp only [argOfB] at hg
          split at hg
          · rename_i ps hps
            simp at hg
            subst hg
            obtain ⟨g1, g2⟩ := argCells_get hps
            have hkey2 : ∀ (j : Nat) (p : PV) (u : Value), ps[j]? = some p → us[j]? = some u → RP w (Gd C' brows bm w false) p u ∧ p.isAgg = false := by
              intro j p u hp hu
              obtain ⟨c, hc, hcp⟩ := g2 j p hp
              refine argCell_ok hs (h9 j c u hc hu) hcp (h1 j u hu) (fun fr b hb => hkey fr b hb) (fun id b e hq hlv hb => ?_)
              subst e
              have hlt := hs.lt hlv hb
              have hk : kept := by
                show sa.any (SV.isKept bs) = true
                rw [List.any_eq_true]
                refine ⟨.ag vs, List.mem_of_getElem? hx, ?_⟩
                show vs.any (SV.isKept1 bs) = true
                rw [List.any_eq_true]
                exact ⟨.ref id, List.mem_of_getElem? hc, by simp [SV.isKept1, hq]⟩
              have hnt : ¬ tk b := by
                rintro ⟨q, id', h1, h2⟩
                have := hs.dist id id' b hlv (hblive q id' h1) hb h2
                subst this
                exact placeOf_none hq (List.mem_of_getElem? h1)
              exact ⟨hlt, fun hp => hnt (hbpriv b hp), fun _ => .inl (.inr ⟨hk, hlt, hnt⟩), fun e => by cases e⟩
            have hul : us.size = ps.length := by rw [hl9, g1]
            refine .pv _ _ _ (.agg ps us hul (fun j c hc => ?_) (fun j c u hc hu => (hkey2 j c u hc hu).1))
            have hj : j < us.size := by rw [hul]; exact (List.getElem?_eq_some_iff.1 hc).1
            exact (hkey2 j c _ hc (Array.getElem?_eq_getElem hj)).2
          · cases hg
        | _ => simp [argOfB] at hg
      · rw [List.getElem?_eq_none (by omega)]
        exact .any _ }
  refine (hsat C' bm va hblen.symm (fun b hb => hb.elim (fun h => h.1) (fun h => h.2.1)) (by simp [hlen]) hs0).mono ?_
  rintro e w' ⟨us, res, rows', m2, rfl, hus, hs', hR⟩
  obtain ⟨hbl, ⟨hnt, hbdd, hlv, hng⟩, hfr, hnx⟩ := next res rows' hR
  have hsz : w.heap.size ≤ w'.heap.size := hs'.hsz
  have hold : ∀ k, k < w.heap.size → ¬ tk k → w'.heap[k]? = w.heap[k]? := fun k hk hn => hs'.old k hk (fun q hq hbk => by
    have hq2 : bs[q]? = some bs[q] := List.getElem?_eq_getElem hq
    exact hn ⟨q, _, hq2, by simpa [C', bm, hq2] using hbk⟩)
  let N := s.rows.length
  let m3 : Nat → MV := fun j => if j < N then m j else m2 (j - N + bs.length)
  let nr := rowsAfter bs s.rows rows'
  have hm3 : ∀ j, j < N → m3 j = m j := fun j hj => by simp [m3, hj]
  have hm2b : ∀ (q id : Nat), bs[q]? = some id → m2 q = m id := by
    intro q id hq
    have := hs'.bor q (List.getElem?_eq_some_iff.1 hq).1
    rw [this]
    show bm q = m id
    simp [bm, hq]
  have hnrlen : nr.length = N + (rows'.length - bs.length) := by simp [nr, rowsAfter, N]
  have hnr1 : ∀ j, j < N → ∃ r0, s.rows[j]? = some r0 ∧ ((∃ q : Nat, bs[q]? = some j ∧ ∃ r', rows'[q]? = some r' ∧ nr[j]? = some r') ∨ (j ∉ bs ∧ nr[j]? = some r0)) := by
    intro j hj
    have h0 : s.rows[j]? = some s.rows[j] := List.getElem?_eq_getElem hj
    refine ⟨_, h0, ?_⟩
    have h1 : nr[j]? = some (match placeOf bs j with | some q => (rows'[q]?).getD .dead | none => s.rows[j]) := by
      simp only [nr, rowsAfter]
      rw [List.getElem?_append_left (by simp; exact hj)]
      simp [List.getElem?_mapIdx, h0]
      try (cases placeOf bs j <;> rfl)
    cases hp : placeOf bs j with
    | none => right; rw [hp] at h1; exact ⟨placeOf_none hp, h1⟩
    | some q =>
      left
      rw [hp] at h1
      have hq := placeOf_some hp
      have hq1 : q < rows'.length := Nat.lt_of_lt_of_le (List.getElem?_eq_some_iff.1 hq).1 hbl
      have hq2 : rows'[q]? = some rows'[q] := List.getElem?_eq_getElem hq1
      refine ⟨q, hq, _, hq2, ?_⟩
      rw [h1]
      show some ((rows'[q]?).getD Row.dead) = _
      rw [hq2]
      rfl
  have hnr2 : ∀ j, N ≤ j → nr[j]? = rows'[j - N + bs.length]? := by
    intro j hj
    simp only [nr, rowsAfter]
    rw [List.getElem?_append_right (by simp; exact hj)]
    simp only [List.length_mapIdx, List.getElem?_drop]
    congr 1
    omega
  have hnlive : ∀ j, j < N → liveAt nr j → liveAt s.rows j := by
    intro j hj ⟨r, hr, hl⟩
    obtain ⟨r0, h0, h | h⟩ := hnr1 j hj
    · obtain ⟨q, hq, _⟩ := h
      exact hblive q j hq
    · rw [h.2] at hr
      cases hr
      exact ⟨r, h0, hl⟩
  have hnew : ∀ j b, N ≤ j → liveAt nr j → (m3 j).S b → liveAt rows' (j - N + bs.length) ∧ (m2 (j - N + bs.length)).S b ∧ w.heap.size ≤ b := by
    intro j b hj ⟨r, hr, hl⟩ hbk
    rw [hnr2 j hj] at hr
    have e1 : m3 j = m2 (j - N + bs.length) := by simp [m3, Nat.not_lt.2 hj]
    rw [e1] at hbk
    exact ⟨⟨r, hr, hl⟩, hbk, hs'.newb _ b (by show bs.length ≤ _; omega) ⟨r, hr, hl⟩ hbk⟩
  have hG : ∀ f b, Gd C s.rows m w f b → Gd C nr m3 w' f b ∧ w'.heap[b]? = w.heap[b]? := by
    refine Gd.step tk hsz hold htk (fun b hlt ⟨j, hl, hbk⟩ => ?_)
    rcases Nat.lt_or_ge j N with hj | hj
    · rw [hm3 j hj] at hbk
      exact ⟨j, hnlive j hj hl, hbk⟩
    · have := (hnew j b hj hl hbk).2.2
      omega
  have hG2 : ∀ fl b, (fl = true ∨ ¬ kept) → Gd C' rows' m2 w' fl b → Gd C nr m3 w' fl b := by
    intro fl b hk hb
    have hnp : ¬ priv nr m3 b := by
      rintro ⟨j, hl, hbk⟩
      rcases Nat.lt_or_ge j N with hj | hj
      · obtain ⟨r0, h0, h | h⟩ := hnr1 j hj
        · obtain ⟨q, hq, r', hr', hn⟩ := h
          rw [hm3 j hj, ← hm2b q j hq] at hbk
          refine hb.2.1 ⟨q, ⟨r', hr', ?_⟩, hbk⟩
          rw [List.all_eq_true] at hlv
          refine hlv r' (List.mem_of_getElem? (i := q) ?_)
          rw [List.getElem?_take, if_pos (List.getElem?_eq_some_iff.1 hq).1]
          exact hr'
        · rw [hm3 j hj] at hbk
          have hpl : priv s.rows m b := ⟨j, hnlive j hj hl, hbk⟩
          have hlt := hs.lt (hnlive j hj hl) hbk
          cases fl with
          | true => have := (hb.2.2.2 rfl).1; change w.heap.size ≤ b at this; omega
          | false =>
            rcases hb.2.2.1 rfl with hA | hA
            · rcases hA with hA | hA
              · exact hA.2.1 hpl
              · rcases hk with hk | hk
                · cases hk
                · exact hk hA.1
            · change w.heap.size ≤ b at hA; omega
      · obtain ⟨h1, h2, _⟩ := hnew j b hj hl hbk
        exact hb.2.1 ⟨_, h1, h2⟩
    refine ⟨hb.1, hnp, fun e => ?_, fun e => ?_⟩
    · rcases hb.2.2.1 e with hA | hA
      · rcases hA with hA | hA
        · exact hA.2.2.1 rfl
        · rcases hk with hk | hk
          · rw [hk] at e; cases e
          · exact (hk hA.1).elim
      · exact .inr (Nat.le_trans hs.hsz hA)
    · have h4 := hb.2.2.2 e
      exact ⟨Nat.le_trans hs.hsz h4.1, h4.2⟩
  have hrowC : ∀ (q : Nat) (r : Row), rows'[q]? = some r → RowOK w' (Gd C nr m3 w') m3 nr.length (m2 q) r := by
    intro q r hr
    have h0 := hs'.rows q r hr
    have hfq : kept → r.fresh = true := by
      intro hk
      rcases hfr with h | h
      · have hk' : sa.any (SV.isKept bs) = true := hk
        rw [h] at hk'; cases hk'
      · have := h.2
        rw [List.all_eq_true] at this
        exact this r (List.mem_of_getElem? hr)
    have hbq : r.bdd 0 = true := by rw [List.all_eq_true] at hbdd; exact hbdd r (List.mem_of_getElem? hr)
    have hgq : r.noGh = true := by rw [List.all_eq_true] at hng; exact hng r (List.mem_of_getElem? hr)
    have hor : ∀ fl : Bool, (kept → fl = true) → (fl = true ∨ ¬ kept) := fun fl h => by
      by_cases hk : kept
      · exact .inl (h hk)
      · exact .inr hk
    change RowOK w' (Gd C' rows' m2 w') m2 rows'.length (m2 q) r at h0
    generalize m2 q = v at *
    cases h0 with
    | dead v => exact .dead v
    | own v t e nl fr xs vs hown h1 h2 hw hr' =>
      refine .own v t e nl fr xs vs hown h1 h2 hw (fun i x j c hx hc => ?_)
      obtain ⟨u, hu, hp⟩ := hr' i x j c hx hc
      exact ⟨u, hu, hp.mono fun b hb => ⟨hG2 fr b (hor fr hfq) hb, rfl⟩⟩
    | tree mv t e nl h xs vals Sf hown h1 h2 hw hr9 hd hn hz hS hkn => exact .tree _ t e nl h xs vals Sf hown h1 h2 hw hr9 hd hn hz hS hkn
    | mp b g es clock hbk hm' => exact .mp b g es clock hbk hm'
    | gh mv us cs hl h9 => cases hgq
    | var b t cs cur hb hl hr' h1 =>
      refine .var b t cs cur hb hl (fun j c u hc hu => ?_) h1
      have hv := hr' j c u hc hu
      have hcb : c.bdd 0 = true := by
        simp only [Row.bdd, List.all_eq_true] at hbq
        exact hbq c (List.mem_of_getElem? hc)
      have hcf : kept → c.fresh = true := by
        intro hk
        have := hfq hk
        simp only [Row.fresh, List.all_eq_true] at this
        exact this c (List.mem_of_getElem? hc)
      cases hv with
      | any v => exact .any _
      | val u => exact .val _
      | und => exact .und
      | pv fr p v hp =>
        cases hsc : p.scal with
        | true => exact .pv _ _ _ (hp.scal_any hsc)
        | false => exact .pv _ _ _ (hp.mono fun b hb => ⟨hG2 fr b (hor fr fun hk => by have := hcf hk; simpa [SV.fresh, hsc] using this) hb, rfl⟩)
      | ref i hi => simp [SV.bdd] at hcb
      | ptr i e' k o b' hi hbk => simp [SV.bdd] at hcb
      | adr fr cs' a' f' hsp hg h1' hc' hr2 =>
        by_cases hk : kept
        · have := hcf hk; simp [SV.fresh] at this
        · exact .adr fr cs' a' f' hsp (fun hne => hG2 fr _ (.inr hk) (hg hne)) h1' hc' (fun j c hj => (hr2 j c hj).mono fun b hb => ⟨hG2 fr b (.inr hk) hb, rfl⟩)
      | tup vs us' hl' h' => simp [SV.bdd] at hcb
      | sub i e' l h c' _ hid hs9 => simp [SV.bdd] at hcb
      | clo f ids us9 hl9 h9 => 
          have e9 : ids = [] := by
            cases ids with
            | nil => rfl
            | cons i ids => simp [SV.bdd] at hcb
          subst e9
          exact .clo f [] us9 hl9 (fun j i u h1 h2 => by simp at h1)
      | ag vs us' hl' h' h1' =>
        refine .ag vs us' hl' (fun q c u hc hu => ?_) h1'
        have hcb1 : c.bdd1 0 = true := by simp only [SV.bdd, List.all_eq_true] at hcb; exact hcb c (List.mem_of_getElem? hc)
        have hcf1 : kept → c.fresh1 = true := fun hk => by have := hcf hk; simp only [SV.fresh, List.all_eq_true] at this; exact this c (List.mem_of_getElem? hc)
        have hv := h' q c u hc hu
        cases hv with
        | any v => exact .any _
        | val u => exact .val _
        | und => exact .und
        | pv fr p v hp =>
          cases hsc : p.scal with
          | true => exact .pv _ _ _ (hp.scal_any hsc)
          | false => exact .pv _ _ _ (hp.mono fun b hb => ⟨hG2 fr b (hor fr fun hk => by have := hcf1 hk; simpa [SV.fresh1, hsc] using this) hb, rfl⟩)
        | ref i hi => simp [SV.bdd1] at hcb1
        | ptr i e' k o b' hi hbk => simp [SV.bdd1] at hcb1
        | adr fr cs' a' f' hsp hg h1' hc' hr2 =>
          by_cases hk : kept
          · have := hcf1 hk; simp [SV.fresh1] at this
          · exact .adr fr cs' a' f' hsp (fun hne => hG2 fr _ (.inr hk) (hg hne)) h1' hc' (fun j c hj => (hr2 j c hj).mono fun b hb => ⟨hG2 fr b (.inr hk) hb, rfl⟩)
        | tup vs us' hl' h' => simp [SV.bdd1] at hcb1
        | ag vs us' hl' h' h1' => simp [SV.bdd1] at hcb1
        | sub i e' l h c' _ hid hs9 => simp [SV.bdd1] at hcb1
        | clo f ids us9 hl9 h9 => 
          have e9 : ids = [] := by
            cases ids with
            | nil => rfl
            | cons i ids => simp [SV.bdd1] at hcb1
          subst e9
          exact .clo f [] us9 hl9 (fun j i u h1 h2 => by simp at h1)
  have hs2 : SimM C ⟨s.n, s.env, nr⟩ m3 a w' := {
    defs := hs.defs
    size := hs.size
    os := hs'.os.trans hs.os
    tape := hs'.tape.trans hs.tape
    output := hs'.output.trans hs.output
    hsz := Nat.le_trans hs.hsz hsz
    old := fun k hk hn => by
      refine (hold k (by have := hs.hsz; omega) ?_).trans (hs.old k hk hn)
      rintro ⟨q, id, h1, h2⟩
      by_cases hid : id < C.nb
      · exact hn id hid (by rw [← hs.bor id hid]; exact h2)
      · have := hs.newb id k (by omega) (hblive q id h1) h2; omega
    bor := fun id hid => by rw [hm3 id (by have := hs.nbl; show id < N; omega)]; exact hs.bor id hid
    nbl := by have := hs.nbl; show C.nb ≤ nr.length; rw [hnrlen]; show C.nb ≤ s.rows.length + _; omega
    newb := fun j b hj hl hbk => by
      rcases Nat.lt_or_ge j N with h | h
      · rw [hm3 j h] at hbk; exact hs.newb j b hj (hnlive j h hl) hbk
      · have := (hnew j b h hl hbk).2.2; have := hs.hsz; omega
    dist := fun i j b hi hj hbi hbj => by
      rcases Nat.lt_or_ge i N with h1 | h1 <;> rcases Nat.lt_or_ge j N with h2 | h2
      · rw [hm3 i h1] at hbi; rw [hm3 j h2] at hbj
        exact hs.dist i j b (hnlive i h1 hi) (hnlive j h2 hj) hbi hbj
      · rw [hm3 i h1] at hbi
        have e1 := hs.lt (hnlive i h1 hi) hbi
        have e2 := (hnew j b h2 hj hbj).2.2
        omega
      · rw [hm3 j h2] at hbj
        have e1 := hs.lt (hnlive j h2 hj) hbj
        have e2 := (hnew i b h1 hi hbi).2.2
        omega
      · obtain ⟨l1, b1, _⟩ := hnew i b h1 hi hbi
        obtain ⟨l2, b2, _⟩ := hnew j b h2 hj hbj
        have := hs'.dist _ _ b l1 l2 b1 b2
        omega
    rows := fun j r hr => by
      change nr[j]? = some r at hr
      show RowOK w' (Gd C nr m3 w') m3 nr.length (m3 j) r
      rcases Nat.lt_or_ge j N with h | h
      · rw [hm3 j h]
        obtain ⟨r0, h0, hh | hh⟩ := hnr1 j h
        · obtain ⟨q, hq, r', hr', hn⟩ := hh
          rw [hn] at hr
          cases hr
          rw [← hm2b q j hq]
          exact hrowC q r hr'
        · rw [hh.2] at hr
          cases hr
          refine RowOK.mono hG (by rw [hnrlen]; exact Nat.le_add_right _ _) (fun id hid => hm3 id hid) (hs.rows j r h0) (fun hl b hb => hold b (hs.lt ⟨r, h0, hl⟩ hb) ?_)
          rintro ⟨q, id, h1, h2⟩
          have := hs.dist j id b ⟨r, h0, hl⟩ (hblive q id h1) hb h2
          subst this
          exact hh.1 (List.mem_of_getElem? h1)
      · rw [hnr2 j h] at hr
        have e1 : m3 j = m2 (j - N + bs.length) := by simp [m3, Nat.not_lt.2 h]
        rw [e1]
        exact hrowC _ r hr
    env := fun u => by
      refine (hs.env u).mono hG ?_ (fun id hid => hm3 id hid)
      show s.rows.length ≤ nr.length
      rw [hnrlen]
      exact Nat.le_add_right _ _ }
  have hres : ∀ (j : Nat) (r : SV), res[j]? = some r → RS w' (Gd C nr m3 w') m3 nr.length (r.shift bs N) (us.getD j undef) := by
    intro j r hj
    have hv := hs'.env j
    change RS w' _ _ _ (look (enumE 0 res) j) (us.getD j undef) at hv
    rw [look_enumE] at hv
    simp only [Nat.zero_le, if_true, Nat.sub_zero, hj, Option.getD_some] at hv
    have hrf : kept → r.fresh = true := by
      intro hk
      rcases hfr with h | h
      · have hk' : sa.any (SV.isKept bs) = true := hk
        rw [h] at hk'; cases hk'
      · have := h.1
        rw [List.all_eq_true] at this
        exact this r (List.mem_of_getElem? hj)
    have hrt : r.noTup = true := by rw [List.all_eq_true] at hnt; exact hnt r (List.mem_of_getElem? hj)
    have hidx : ∀ i, i < rows'.length → ∃ i', i' < nr.length ∧ m3 i' = m2 i ∧ (match bs[i]? with | some b => b | none => i - bs.length + N) = i' := by
      intro i hi
      cases hbi : bs[i]? with
      | some b =>
        have hbN : b < N := by
          obtain ⟨r, hr, _⟩ := hblive i b hbi
          exact (List.getElem?_eq_some_iff.1 hr).1
        exact ⟨b, by rw [hnrlen]; omega, by rw [hm3 b hbN]; exact (hm2b i b hbi).symm, rfl⟩
      | none =>
        have hge : bs.length ≤ i := by simpa using hbi
        refine ⟨i - bs.length + N, by rw [hnrlen]; omega, ?_, rfl⟩
        simp only [m3]
        rw [if_neg (by omega)]
        congr 1
        omega
    generalize us.getD j undef = v at *
    cases hv with
    | any v => exact .any _
    | val u => exact .any _
    | und => exact .any _
    | pv fr p v hp =>
      simp only [SV.shift]
      cases hsc : p.scal with
      | true => exact .pv _ _ _ (hp.scal_any hsc)
      | false =>
        refine .pv _ _ _ (hp.mono fun b hb => ⟨hG2 fr b ?_ hb, rfl⟩)
        by_cases hk : kept
        · left; have := hrf hk; simpa [SV.fresh, hsc] using this
        · exact .inr hk
    | ref i hi =>
      obtain ⟨i', h1, h2, h3⟩ := hidx i hi
      have e : SV.shift bs N (.ref i) = .ref i' := by
        simp only [SV.shift]
        cases hbi : bs[i]? <;> rw [hbi] at h3 <;> simp_all
      rw [e, ← h2]
      exact .ref i' h1
    | ptr i e k o b hi hbk =>
      obtain ⟨i', h1, h2, h3⟩ := hidx i hi
      have e : SV.shift bs N (.ptr i e k o) = .ptr i' e k o := by
        simp only [SV.shift]
        cases hbi : bs[i]? <;> rw [hbi] at h3 <;> simp_all
      rw [e]
      exact .ptr i' _ _ _ b h1 (by rw [h2]; exact hbk)
    | adr fr cs' a' f' hsp hg h1' hc' hr2 => exact .any _
    | tup vs us' hl' h' => simp [SV.noTup] at hrt
    | sub i e' l h c' _ hid hs9 => exact .any _
    | clo => exact .any _
    | ag vs us' hl' h' h1' =>
      refine .ag _ us' (by simpa using hl') (fun q c u hc hu => ?_) h1'
      simp only [List.getElem?_map, Option.map_eq_some_iff] at hc
      obtain ⟨c', hc', rfl⟩ := hc
      have hcf1 : kept → c'.fresh1 = true := fun hk => by have := hrf hk; simp only [SV.fresh, List.all_eq_true] at this; exact this c' (List.mem_of_getElem? hc')
      have hv := h' q c' u hc' hu
      cases hv with
      | pv fr p v hp =>
        simp only [SV.shift1]
        cases hsc : p.scal with
        | true => exact .pv _ _ _ (hp.scal_any hsc)
        | false =>
          refine .pv _ _ _ (hp.mono fun b hb => ⟨hG2 fr b ?_ hb, rfl⟩)
          by_cases hk : kept
          · left; have := hcf1 hk; simpa [SV.fresh1, hsc] using this
          · exact .inr hk
      | ref i hi =>
        obtain ⟨i', h1, h2, h3⟩ := hidx i hi
        have e : SV.shift1 bs N (.ref i) = .ref i' := by
          simp only [SV.shift1]
          cases hbi : bs[i]? <;> rw [hbi] at h3 <;> simp_all
        rw [e, ← h2]
        exact .ref i' h1
      | _ => exact .any _
  have hput := hs2.put (blt_lt ht) (sv := packS (res.map (SV.shift bs N))) (v := pack us) (by
    match res, hus, hres with
    | [], hus, _ =>
      have : us = #[] := Array.eq_empty_of_size_eq_zero (by simpa using hus)
      subst this
      exact .tup _ _ rfl (fun j c v hc => by simp at hc)
    | [r], hus, hres =>
      have h1 : us.size = 1 := by simpa using hus
      have := hres 0 r rfl
      simp only [packS, pack, h1, dif_pos, List.map_cons, List.map_nil]
      simpa [Array.getD, h1] using this
    | r1 :: r2 :: rs, hus, hres =>
      have h1 : us.size ≠ 1 := by rw [hus]; simp
      simp only [packS, pack, h1, dif_neg, not_false_iff, List.map_cons]
      refine .tup _ _ (by rw [hus]; simp) (fun j c v hc hv => ?_)
      have hc2 : ((r1 :: r2 :: rs).map (SV.shift bs N))[j]? = some c := by simpa using hc
      simp only [List.getElem?_map, Option.map_eq_some_iff] at hc2
      obtain ⟨c', hc', rfl⟩ := hc2
      have := hres j c' hc'
      have e : us.getD j undef = v := by
        rw [Array.getElem?_eq_some_iff] at hv
        obtain ⟨hlt, e⟩ := hv
        simp [Array.getD, hlt, e]
      rw [e] at this
      exact this)
  exact hnx _ _ _ hput hsz (fun k hk hn => hold k hk (fun ⟨q, id, h1, h2⟩ => hn q id h1 h2))

end
end Go.Vl

namespace Go.Vl
open Go.RowKit
section
variable {P : Program} {C : Ctx} {Q : Go.Exit → St → Prop} {s : St} {ops : Array Oper} {rest : List Oper} {t : Nat} {ty : TypeId} {pos : String} {af : Array Edge}

/-- Which function a method is, for a dynamic type; and what it is given. -/
def MethAt (P : Program) (T : TypeId) (name : String) (p : PV) (F : FuncId) (q : PV) : Prop :=
  ∀ (w : World) (G : Nat → Prop) (v : Value), RP w G p v → ∃ r, (Go.method (P.types.size + Made.depth) T v name).run P w = .ok (F, r) w ∧ RP w G q r

theorem run_invoke {F : FuncId} {fn : Func} {a : Act} {w : World} {recv : Operand} {name : String} {T : TypeId} {v r : Value} {xs : Array Operand} {Ts : Array TypeId} {gd : Option (Nat × Bool)} (hf : P.funcs[F]? = some fn) (hnm : (fn.name == "runtime.NumGoroutine") = false)
    (hbd : fn.body.isNone = false) (hv : a.eval recv = .iface T v) (hm : (Go.method (P.types.size + Made.depth) T v name).run P w = .ok (F, r) w) (dst : Option Tmp) :
    (execOp a.eval ⟨dst, .call ⟨.invoke recv name, xs, Ts⟩, ty, pos, af, gd⟩).run P w = .ok (.enter F (#[r] ++ xs.map a.eval)) w := by
  have h1 : ¬ (fn.name = "runtime.NumGoroutine") := by simpa using hnm
  have h2 : ¬ (fn.body = none) := by intro e; rw [e] at hbd; cases hbd
  have hc : ∀ args, (callFunc F args).run P w = .ok (.enter F args) w := fun args => by simp [callFunc, hf, h1, h2]
  have hcm : ∀ args, (callMethod (.iface T v) name args).run P w = .ok (.enter F (#[r] ++ args)) w := fun args => by
    unfold callMethod
    simp only [Sem.run_bind, run_program, Result.andThen_ok, hm, hc]
  have h3 : (#[Value.iface T v] ++ xs.map a.eval).extract 1 (#[Value.iface T v] ++ xs.map a.eval).size = xs.map a.eval := by
    apply Array.ext_getElem?
    intro i
    rw [Array.getElem?_extract]
    split
    · rw [Array.getElem?_append_right (by simp)]
      congr 1
      simp
    · rename_i hh
      rw [Array.getElem?_eq_none]
      simp at hh ⊢
      omega
  have h4 : (#[Value.iface T v] ++ xs.map a.eval)[0]? = some (.iface T v) := by
    rw [Array.getElem?_append_left (by simp)]; rfl
  have hi : (invoke (.fn (.method name) #[]) (#[Value.iface T v] ++ xs.map a.eval)).run P w = .ok (.enter F (#[r] ++ xs.map a.eval)) w := by
    unfold invoke
    simp only [h4, h3]
    exact hcm _
  have hres : (resolve a.eval ⟨.invoke recv name, xs, Ts⟩ ty).run P w = .ok { target := .fn (.method name) #[], args := #[Value.iface T v] ++ xs.map a.eval } w := by
    unfold resolve
    simp only [hv]
    rfl
  simp only [execOp, Sem.run_bind, hres, Result.andThen_ok, hi]

theorem vo_invoke {recv : Operand} {name : String} {xs : Array Operand} {Ts : Array TypeId} {T : TypeId} {F : FuncId} {fn : Func} {p q : PV} {fr : Bool} {args : List SV} {R : List SV → List Row → Prop} (bs : List Nat) {brows : List Row}
    (hr : getO s.env recv = .pv fr (.ifc T p)) (hm : MethAt P T name p F q) (hf : P.funcs[F]? = some fn) (hnm : (fn.name == "runtime.NumGoroutine") = false) (hbd : fn.body.isNone = false) (ht : Nat.blt t s.n = true)
    (hb1 : bs.map (fun id => (s.rows[id]?).map Row.toArg) = brows.map some) (hb2 : brows.all Row.live = true) (hb3 : bs.map (placeOf bs) = (List.range bs.length).map some)
    (hargs : (.pv fr q :: xs.toList.map (getO s.env)).mapM (argOfB bs s.rows) = some args) (hsat : SatAt P F args brows R)
    (next : ∀ res rows', R res rows' → bs.length ≤ rows'.length ∧ (res.all SV.noTup = true ∧ rows'.all (Row.bdd 0) = true ∧ (rows'.take bs.length).all Row.live = true ∧ rows'.all Row.noGh = true) ∧
      (((.pv fr q :: xs.toList.map (getO s.env)).any (SV.isKept bs) = false) ∨ (res.all SV.fresh = true ∧ rows'.all Row.fresh = true)) ∧
      VO P C ops rest Q ⟨s.n, (t, packS (res.map (SV.shift bs s.rows.length))) :: s.env, rowsAfter bs s.rows rows'⟩) :
    VO P C ops (⟨some t, .call ⟨.invoke recv name, xs, Ts⟩, ty, pos, af, none⟩ :: rest) Q s := by
  intro a w ⟨m, hs⟩
  refine wpList_plain rfl fun K hK => ?_
  have hv := hs.get recv
  rw [hr] at hv
  have hv := hv.pv_inv
  obtain ⟨v, hva, hp⟩ : ∃ v, a.eval recv = .iface T v ∧ RP w (Gd C s.rows m w fr) p v := by
    generalize a.eval recv = x at hv
    cases hv with
    | ifc _ _ v h => exact ⟨v, rfl, h⟩
  obtain ⟨r, hrun, hq⟩ := hm w _ v hp
  refine ow_callA (sa := .pv fr q :: xs.toList.map (getO s.env)) bs hs (run_invoke hf hnm hbd hva hrun (some t)) (by simp; omega) (fun u x hu => ?_) ht hb1 hb2 hb3 hargs hsat
    (fun res rows' hR => let ⟨h1, h2, h3, h4⟩ := next res rows' hR; ⟨h1, h2, h3, fun m' a' w' hs' _ _ => hK _ _ (h4 _ _ ⟨m', hs'⟩)⟩)
  cases u with
  | zero =>
    simp at hu; subst hu
    have e : (#[r] ++ xs.map a.eval).getD 0 undef = r := by
      rw [Array.getD_eq_getD_getElem?, Array.getElem?_append_left (by simp)]; rfl
    rw [e]
    exact .pv fr q r hq
  | succ u =>
    simp only [List.getElem?_cons_succ, List.getElem?_map, Option.map_eq_some_iff] at hu
    obtain ⟨o, ho, rfl⟩ := hu
    have ho' : xs[u]? = some o := by simpa using ho
    have hul : u < xs.size := (Array.getElem?_eq_some_iff.1 ho').1
    have e : (#[r] ++ xs.map a.eval).getD (u+1) undef = a.eval o := by
      have e1 : (#[r] ++ xs.map a.eval)[u+1]? = some (a.eval o) := by
        rw [Array.getElem?_append_right (by simp)]
        simp [ho']
      rw [Array.getD_eq_getD_getElem?, e1]; rfl
    rw [e]
    exact hs.get o

/-- A value goes into an interface. -/
theorem lt_makeIface {x : Operand} {T : TypeId} {f : Bool} {p : PV} {D : TypeDesc} (hx : getO s.env x = .pv f p) (hT : P.underlying T = some D) (hD : (match D with | .interface _ => true | _ => false) = false) :
    Lt P C s ⟨some t, .makeInterface T x, ty, pos, af, none⟩ (.pv f (.ifc T p)) := by
  intro m a w hs
  have hv := hs.get x
  rw [hx] at hv
  refine ⟨.iface T (a.eval x), fun w' hw' => ?_, .pv _ _ _ (.ifc _ _ _ hv.pv_inv)⟩
  cases D <;> simp_all [execOp, Instr.makeInterface, run_underlying hT]

theorem vo_makeIface {x : Operand} {T : TypeId} {f : Bool} {p : PV} {D : TypeDesc} (ht : Nat.blt t s.n = true) (hx : getO s.env x = .pv f p) (hT : P.underlying T = some D) (hD : (match D with | .interface _ => true | _ => false) = false)
    (next : VO P C ops rest Q (s.put t (.pv f (.ifc T p)))) : VO P C ops (⟨some t, .makeInterface T x, ty, pos, af, none⟩ :: rest) Q s := vo_pure ht (lt_makeIface hx hT hD) next

/-- An interface is asserted to be another one: it is. -/
theorem vo_assert_yes {x : Operand} {T A xt : TypeId} {f : Bool} {p : PV} {want : Array (String × TypeId)} {inf : TypeInfo} (ht : Nat.blt t s.n = true) (hx : getO s.env x = .pv f (.ifc T p)) (hA : P.underlying A = some (.interface want)) (hinf : P.info? T = some inf)
    (hm : Instr.missingMethod want inf.methods = none) (next : VO P C ops rest Q (s.put t (.tup [.pv f (.ifc T p), .pv true (.bool true)]))) :
    VO P C ops (⟨some t, .typeAssert x xt A true, ty, pos, af, none⟩ :: rest) Q s := by
  refine vo_pure ht (fun m a w hs => ?_) next
  have hv := hs.get x
  rw [hx] at hv
  have hv := hv.pv_inv
  obtain ⟨v, hva, hp⟩ : ∃ v, a.eval x = .iface T v ∧ RP w (Gd C s.rows m w f) p v := by
    generalize a.eval x = y at hv
    cases hv with
    | ifc _ _ v h => exact ⟨v, rfl, h⟩
  refine ⟨.tuple #[.iface T v, .bool true], fun w' hw' => ?_, .tup _ _ rfl (fun j c u hc hu => ?_)⟩
  · simp [execOp, hva, Instr.typeAssert, run_underlying hA, typeInfo, hinf, hm]
  · match j, hc, hu with
    | 0, hc, hu => simp at hc hu; subst hc; subst hu; exact .pv _ _ _ (.ifc _ _ _ hp)
    | 1, hc, hu => simp at hc hu; subst hc; subst hu; exact .pv _ _ _ (.bool _)

theorem least_some {l : List String} (h : l ≠ []) : ∃ x, Instr.least l = some x := by
  cases l with
  | nil => exact absurd rfl h
  | cons a l => exact ⟨_, rfl⟩

theorem missing_some {want : Array (String × TypeId)} {got : Array Method} (h : (want.toList.any fun p => !got.any fun m => m.name == p.1 && m.sig == p.2) = true) : ∃ nm, Instr.missingMethod want got = some nm := by
  unfold Instr.missingMethod
  simp only []
  generalize hM : ((want.toList.filter fun (x : String × TypeId) => match x with | (name, sig) => !got.any fun m => m.name == name && m.sig == sig).map (·.1)) = M
  have hne : M ≠ [] := by
    rw [← hM]
    rw [List.any_eq_true] at h
    obtain ⟨p, hp, hq⟩ := h
    intro e
    rw [List.map_eq_nil_iff] at e
    have : p ∈ (want.toList.filter fun (x : String × TypeId) => match x with | (name, sig) => !got.any fun m => m.name == name && m.sig == sig) := List.mem_filter.2 ⟨hp, hq⟩
    rw [e] at this
    cases this
  rw [List.partition_eq_filter_filter]
  by_cases h2 : (M.filter (not ∘ fun x => x.contains '.')) = []
  · have h3 : (M.filter fun x => x.contains '.') ≠ [] := by
      intro e
      cases M with
      | nil => exact hne rfl
      | cons a l =>
        rw [List.filter_eq_nil_iff] at h2 e
        have h4 := h2 a List.mem_cons_self
        have h5 := e a List.mem_cons_self
        simp at h4 h5
        simp_all
    obtain ⟨x, hx⟩ := least_some (l := (M.filter fun x => x.contains '.').map fun id => (id.splitOn ".").getLastD id) (by simpa using h3)
    refine ⟨x, ?_⟩
    simp only [h2]
    rw [hx]
    rfl
  · obtain ⟨x, hx⟩ := least_some h2
    refine ⟨x, ?_⟩
    simp only [hx]
    rfl

/-- It is not. -/
theorem vo_assert_no {x : Operand} {T A xt : TypeId} {f : Bool} {p : PV} {want : Array (String × TypeId)} {inf : TypeInfo} (ht : Nat.blt t s.n = true) (hx : getO s.env x = .pv f (.ifc T p)) (hA : P.underlying A = some (.interface want)) (hinf : P.info? T = some inf)
    (hm : (want.toList.any fun p => !inf.methods.any fun m => m.name == p.1 && m.sig == p.2) = true) (hz : ∀ w, (zeroValue A).run P w = .ok .nilIface w) (next : VO P C ops rest Q (s.put t (.tup [.pv true .nilifc, .pv true (.bool false)]))) :
    VO P C ops (⟨some t, .typeAssert x xt A true, ty, pos, af, none⟩ :: rest) Q s := by
  obtain ⟨nm, hm⟩ := missing_some hm
  refine vo_pure ht (fun m a w hs => ?_) next
  have hv := hs.get x
  rw [hx] at hv
  have hv := hv.pv_inv
  obtain ⟨v, hva, hp⟩ : ∃ v, a.eval x = .iface T v ∧ RP w (Gd C s.rows m w f) p v := by
    generalize a.eval x = y at hv
    cases hv with
    | ifc _ _ v h => exact ⟨v, rfl, h⟩
  refine ⟨.tuple #[.nilIface, .bool false], fun w' hw' => ?_, .tup _ _ rfl (fun j c u hc hu => ?_)⟩
  · simp [execOp, hva, Instr.typeAssert, run_underlying hA, typeInfo, hinf, hm, hz]
  · match j, hc, hu with
    | 0, hc, hu => simp at hc hu; subst hc; subst hu; exact .pv _ _ _ .nilifc
    | 1, hc, hu => simp at hc hu; subst hc; subst hu; exact .pv _ _ _ (.bool _)
end
end Go.Vl

namespace Go.Vl
set_option linter.unusedVariables false
set_option linter.unusedSimpArgs false
open Go.Proofs

structure FoundM where
  how : Int
  owner : Int
  value : Int
  self : Int
  deriving Inhabited, DecidableEq
abbrev foundP (f : FoundM) : PV := .agg [.int .i64 f.how, .int .i64 f.owner, .int .i64 f.value, .int .i64 f.self]
def none0 : FoundM := ⟨0, -1, -1, -1⟩
abbrev memP (o : Int) (a : AttrM) : PV := .agg [.int .i64 o, .int .i64 a.name, .int .i64 a.kind, .int .i64 a.value]
def bindM (ow : Int) (a : AttrM) (obj c : Int) : FoundM :=
  if a.kind = 1 then ⟨if 0 ≤ obj then 3 else 2, ow, a.value, obj⟩
  else if a.kind = 4 then ⟨3, ow, a.value, c⟩
  else if (a.kind = 2 ∨ a.kind = 3) ∧ 0 ≤ obj then ⟨4, ow, a.value, obj⟩
  else ⟨2, ow, a.value, -1⟩
def getR (ow : Int) (a : AttrM) (z pv x cls : Int) : FoundM :=
  if 0 ≤ ow ∧ (a.kind = 2 ∨ a.kind = 3) then bindM ow a x cls else if 0 ≤ z then ⟨1, -1, pv, x⟩ else if 0 ≤ ow then bindM ow a x cls else none0
def getM (w : WorldM) (x : Nat) (name : Int) : FoundM :=
  getR (fnd w.attrs name (ordM w.bases (w.objs.getD x ⟨0, []⟩).cls.toNat)).1 (fnd w.attrs name (ordM w.bases (w.objs.getD x ⟨0, []⟩).cls.toNat)).2 (findM name (nms (w.objs.getD x ⟨0, []⟩).pairs) 0)
    ((w.objs.getD x ⟨0, []⟩).pairs.getD (findM name (nms (w.objs.getD x ⟨0, []⟩).pairs) 0).toNat (0, 0)).2 x (w.objs.getD x ⟨0, []⟩).cls
def hasO (w : WorldM) (x : Int) : Prop := VWorld w ∧ 0 ≤ x ∧ x ≤ (w.objs.length : Int) - 1
instance (w : WorldM) (x : Int) : Decidable (hasO w x) := by unfold hasO; exact inferInstance
def getAttrM (w : WorldM) (x name : Int) : FoundM := if hasO w x then getM w x.toNat name else none0
def getClsM (w : WorldM) (c name : Int) : FoundM := if 0 ≤ (fndM w c name).1 then bindM (fndM w c name).1 (fndM w c name).2 (-1) c else none0
def bindO (r : Int × AttrM) (x c : Int) : FoundM := if 0 ≤ r.1 then bindM r.1 r.2 x c else none0
def superM (w : WorldM) (x beh name : Int) : FoundM := if hasO w x then bindO (fnd w.attrs name (rstM (ordM w.bases (w.objs.getD x.toNat ⟨0, []⟩).cls.toNat) beh)) x (w.objs.getD x.toNat ⟨0, []⟩).cls else none0
theorem hasO_cls {w : WorldM} {x : Int} (h : hasO w x) : 0 ≤ (w.objs.getD x.toNat ⟨0, []⟩).cls ∧ (w.objs.getD x.toNat ⟨0, []⟩).cls ≤ (w.bases.length : Int) - 1 := by
  have h2 := h.1.2.2.2.2 _ (getD_mem (show x.toNat < w.objs.length by have := h.2; omega) ⟨0, []⟩)
  unfold okObj at h2; exact h2.1
theorem fr_eq {f : Bool} {a b : FoundM} (h : a = b) : [SV.pv f (foundP a)] = [SV.pv f (foundP b)] := by rw [h]

/-- A member of a class: one of six types. -/
def MemIs (ow : Int) (a : AttrM) (p : PV) : Prop := (ow < 0 ∧ p = .ifc 133 (.agg [])) ∨ ((0 ≤ ow ∧ a.kind ≠ 1 ∧ a.kind ≠ 2 ∧ a.kind ≠ 3 ∧ a.kind ≠ 4) ∧ p = .ifc 135 (memP ow a)) ∨ ((0 ≤ ow ∧ a.kind = 1) ∧ p = .ifc 137 (memP ow a)) ∨
  ((0 ≤ ow ∧ a.kind = 3) ∧ p = .ifc 138 (memP ow a)) ∨ ((0 ≤ ow ∧ a.kind = 2) ∧ p = .ifc 140 (memP ow a)) ∨ ((0 ≤ ow ∧ a.kind = 4) ∧ p = .ifc 141 (memP ow a))
theorem mth133_byObject : MethAt Try.prog 133 "loop.example/objectmodel/impl.byObject" (.agg []) 160 (.agg []) := by
  intro w G v h
  cases h with
  | agg _ vs hl h1 h =>
    obtain ⟨l⟩ := vs
    match l, hl with
    | [], hl => exact ⟨.agg #[], by kernel_rfl, .agg _ _ rfl h1 h⟩
theorem mth135_byObject (c0 c1 c2 c3 : PV) : MethAt Try.prog 135 "loop.example/objectmodel/impl.byObject" (.agg [c0, c1, c2, c3]) 162 (.agg [c0, c1, c2, c3]) := by
  intro w G v h
  cases h with
  | agg _ vs hl h1 h =>
    obtain ⟨l⟩ := vs
    match l, hl with
    | [v0, v1, v2, v3], hl => exact ⟨.agg #[v0, v1, v2, v3], by kernel_rfl, .agg _ _ rfl h1 h⟩
theorem mth137_byObject (c0 c1 c2 c3 : PV) : MethAt Try.prog 137 "loop.example/objectmodel/impl.byObject" (.agg [c0, c1, c2, c3]) 164 (.agg [c0, c1, c2, c3]) := by
  intro w G v h
  cases h with
  | agg _ vs hl h1 h =>
    obtain ⟨l⟩ := vs
    match l, hl with
    | [v0, v1, v2, v3], hl => exact ⟨.agg #[v0, v1, v2, v3], by kernel_rfl, .agg _ _ rfl h1 h⟩
theorem mth138_byObject (c0 c1 c2 c3 : PV) : MethAt Try.prog 138 "loop.example/objectmodel/impl.byObject" (.agg [c0, c1, c2, c3]) 165 (.agg [c0, c1, c2, c3]) := by
  intro w G v h
  cases h with
  | agg _ vs hl h1 h =>
    obtain ⟨l⟩ := vs
    match l, hl with
    | [v0, v1, v2, v3], hl => exact ⟨.agg #[v0, v1, v2, v3], by kernel_rfl, .agg _ _ rfl h1 h⟩
theorem mth140_byObject (c0 c1 c2 c3 : PV) : MethAt Try.prog 140 "loop.example/objectmodel/impl.byObject" (.agg [c0, c1, c2, c3]) 165 (.agg [c0, c1, c2, c3]) := by
  intro w G v h
  cases h with
  | agg _ vs hl h1 h =>
    obtain ⟨l⟩ := vs
    match l, hl with
    | [v0, v1, v2, v3], hl => exact ⟨.agg #[v0, v1, v2, v3], by kernel_rfl, .agg _ _ rfl h1 h⟩
theorem mth141_byObject (c0 c1 c2 c3 : PV) : MethAt Try.prog 141 "loop.example/objectmodel/impl.byObject" (.agg [c0, c1, c2, c3]) 169 (.agg [c0, c1, c2, c3]) := by
  intro w G v h
  cases h with
  | agg _ vs hl h1 h =>
    obtain ⟨l⟩ := vs
    match l, hl with
    | [v0, v1, v2, v3], hl => exact ⟨.agg #[v0, v1, v2, v3], by kernel_rfl, .agg _ _ rfl h1 h⟩
theorem nms_lt {n : Int} {l : List (Int × Int)} : 0 ≤ findM n (nms l) 0 → findM n (nms l) 0 < l.length := fun h => by have := findM_ltL h; rw [nms_len] at this; exact this
theorem rst_in {n : Nat} {o : List Int} {x : Int} (h : OrdIn n o) : OrdIn n (rstM o x) := by
  unfold rstM
  split
  · exact ⟨Nat.lt_of_le_of_lt (by rw [List.length_drop]; omega) h.1, fun y hy => h.2 y (List.mem_of_mem_drop hy)⟩
  · exact ⟨by simp, fun y hy => by cases hy⟩

theorem foundNothing_sat    : SatAt Try.prog 74 [] [] (fun res rows => res = [.pv true (foundP none0)] ∧ rows = []) := by
 refine sat_entry_G (rs := [(0, some (65, 4))]) Try.func74 rfl rfl (Nat.le_of_ble_eq_true rfl) (Nat.le_of_ble_eq_true rfl) (resTs1 ⟨_, _, Try.underlying65, rfl, inf65, sz65⟩) fun C hC => ?_
 rw [Try.ntmps74]
 replace hC : C.nb = 0 := hC
 refine vc_seq fun K1 hK1 => ?_
 refine vc_region ?_
 refine vo_alloc Z65 rfl ?_
 refine vo_stM ?_
 refine vo_nil ?_
 refine hK1 _ ?_
 refine vc_seq fun K2 hK2 => ?_
 refine vc_region ?_
 refine vo_build S65 rfl rfl rfl ?_
 refine vo_stM ?_
 refine vo_store_varS rfl rfl rfl inf65 sz65 rfl ?_
 refine vo_stM ?_
 refine vo_nil ?_
 refine hK2 _ ?_
 refine vc_ret ?_
 change retQ _ _ _ _ _
 refine retQ_sel [] (srows := []) (.inr rfl) hC rfl rfl rfl rfl rfl rfl rfl ?_
 exact ⟨rfl, rfl⟩


theorem found_sat {o : Int} {a : AttrM} {how : Int} {self : Int} : SatAt Try.prog 163 [.pv false (memP o a), i64 how, i64 self] [] (fun res rows => res = [.pv true (foundP ⟨how, o, a.value, self⟩)] ∧ rows = []) := by
 refine sat_entry_G (rs := [(6, some (65, 4))]) Try.func163 rfl rfl (Nat.le_of_ble_eq_true rfl) (Nat.le_of_ble_eq_true rfl) (resTs1 ⟨_, _, Try.underlying65, rfl, inf65, sz65⟩) fun C hC => ?_
 rw [Try.ntmps163]
 replace hC : C.nb = 0 := hC
 refine vc_seq fun K1 hK1 => ?_
 refine vc_region ?_
 refine vo_box rfl rfl ?_
 refine vo_stM ?_
 refine vo_alloc Z65 rfl ?_
 refine vo_stM ?_
 refine vo_nil ?_
 refine hK1 _ ?_
 refine vc_seq fun K2 hK2 => ?_
 refine vc_region ?_
 refine vo_move_pv rfl rfl ?_
 refine vo_fieldAddr_ptr rfl rfl Try.underlying135 rfl inf3 (by rw [sz3]; decide) ?_
 try simp only [Nat.zero_add]
 refine vo_load_var rfl rfl rfl Try.underlying3 rfl rfl ?_
 refine vo_fieldAddr_ptr rfl rfl Try.underlying135 rfl inf37 (by rw [sz37]; decide) ?_
 try simp only [Nat.zero_add]
 refine vo_fieldAddr_ptr rfl rfl Try.underlying37 rfl inf3 (by rw [sz3]; decide) ?_
 try simp only [Nat.zero_add]
 refine vo_load_var rfl rfl rfl Try.underlying3 rfl rfl ?_
 refine vo_move_pv rfl rfl ?_
 refine vo_build S65 rfl rfl rfl ?_
 refine vo_stM ?_
 refine vo_store_varS rfl rfl rfl inf65 sz65 rfl ?_
 refine vo_stM ?_
 refine vo_nil ?_
 refine hK2 _ ?_
 refine vc_ret ?_
 change retQ _ _ _ _ _
 refine retQ_sel [] (srows := []) (.inr rfl) hC rfl rfl rfl rfl rfl rfl rfl ?_
 exact ⟨rfl, rfl⟩


theorem plainByObject_sat {o : Int} {a : AttrM} {x : Int} {c : Int} : SatAt Try.prog 162 [.pv false (memP o a), i64 x, i64 c] [] (fun res rows => res = [.pv true (foundP ⟨2, o, a.value, -1⟩)] ∧ rows = []) := by
 refine sat_entry_G (rs := [(6, some (65, 4))]) Try.func162 rfl rfl (Nat.le_of_ble_eq_true rfl) (Nat.le_of_ble_eq_true rfl) (resTs1 ⟨_, _, Try.underlying65, rfl, inf65, sz65⟩) fun C hC => ?_
 rw [Try.ntmps162]
 replace hC : C.nb = 0 := hC
 refine vc_seq fun K1 hK1 => ?_
 refine vc_region ?_
 refine vo_box rfl rfl ?_
 refine vo_stM ?_
 refine vo_alloc Z65 rfl ?_
 refine vo_stM ?_
 refine vo_nil ?_
 refine hK1 _ ?_
 refine vc_seq fun K2 hK2 => ?_
 refine vc_region ?_
 refine vo_load_varS rfl rfl rfl Try.underlying135 rfl inf135 sz135 rfl rfl ?_
 refine vo_call0 Try.func163 rfl rfl rfl rfl (found_sat (o := o) (a := a)) ?_
 rintro _ _ ⟨rfl, rfl⟩
 refine ⟨rfl, rfl, .inl rfl, ?_⟩
 refine vo_stM ?_
 refine vo_store_varS rfl rfl rfl inf65 sz65 rfl ?_
 refine vo_stM ?_
 refine vo_nil ?_
 refine hK2 _ ?_
 refine vc_ret ?_
 change retQ _ _ _ _ _
 refine retQ_sel [] (srows := []) (.inr rfl) hC rfl rfl rfl rfl rfl rfl rfl ?_
 exact ⟨rfl, rfl⟩


theorem methodByObject_sat {o : Int} {a : AttrM} {x : Int} {c : Int} : SatAt Try.prog 164 [.pv false (memP o a), i64 x, i64 c] [] (fun res rows => res = [.pv true (foundP ⟨3, o, a.value, x⟩)] ∧ rows = []) := by
 refine sat_entry_G (rs := [(6, some (65, 4))]) Try.func164 rfl rfl (Nat.le_of_ble_eq_true rfl) (Nat.le_of_ble_eq_true rfl) (resTs1 ⟨_, _, Try.underlying65, rfl, inf65, sz65⟩) fun C hC => ?_
 rw [Try.ntmps164]
 replace hC : C.nb = 0 := hC
 refine vc_seq fun K1 hK1 => ?_
 refine vc_region ?_
 refine vo_box rfl rfl ?_
 refine vo_stM ?_
 refine vo_alloc Z65 rfl ?_
 refine vo_stM ?_
 refine vo_nil ?_
 refine hK1 _ ?_
 refine vc_seq fun K2 hK2 => ?_
 refine vc_region ?_
 refine vo_fieldAddr_ptr rfl rfl Try.underlying137 rfl inf135 (by rw [sz135]; decide) ?_
 try simp only [Nat.zero_add]
 refine vo_load_varS rfl rfl rfl Try.underlying135 rfl inf135 sz135 rfl rfl ?_
 refine vo_move_pv rfl rfl ?_
 refine vo_call0 Try.func163 rfl rfl rfl rfl (found_sat (o := o) (a := a)) ?_
 rintro _ _ ⟨rfl, rfl⟩
 refine ⟨rfl, rfl, .inl rfl, ?_⟩
 refine vo_stM ?_
 refine vo_store_varS rfl rfl rfl inf65 sz65 rfl ?_
 refine vo_stM ?_
 refine vo_nil ?_
 refine hK2 _ ?_
 refine vc_ret ?_
 change retQ _ _ _ _ _
 refine retQ_sel [] (srows := []) (.inr rfl) hC rfl rfl rfl rfl rfl rfl rfl ?_
 exact ⟨rfl, rfl⟩


theorem classByObject_sat {o : Int} {a : AttrM} {x : Int} {c : Int} : SatAt Try.prog 169 [.pv false (memP o a), i64 x, i64 c] [] (fun res rows => res = [.pv true (foundP ⟨3, o, a.value, c⟩)] ∧ rows = []) := by
 refine sat_entry_G (rs := [(6, some (65, 4))]) Try.func169 rfl rfl (Nat.le_of_ble_eq_true rfl) (Nat.le_of_ble_eq_true rfl) (resTs1 ⟨_, _, Try.underlying65, rfl, inf65, sz65⟩) fun C hC => ?_
 rw [Try.ntmps169]
 replace hC : C.nb = 0 := hC
 refine vc_seq fun K1 hK1 => ?_
 refine vc_region ?_
 refine vo_box rfl rfl ?_
 refine vo_stM ?_
 refine vo_alloc Z65 rfl ?_
 refine vo_stM ?_
 refine vo_nil ?_
 refine hK1 _ ?_
 refine vc_seq fun K2 hK2 => ?_
 refine vc_region ?_
 refine vo_fieldAddr_ptr rfl rfl Try.underlying141 rfl inf135 (by rw [sz135]; decide) ?_
 try simp only [Nat.zero_add]
 refine vo_load_varS rfl rfl rfl Try.underlying135 rfl inf135 sz135 rfl rfl ?_
 refine vo_move_pv rfl rfl ?_
 refine vo_call0 Try.func163 rfl rfl rfl rfl (found_sat (o := o) (a := a)) ?_
 rintro _ _ ⟨rfl, rfl⟩
 refine ⟨rfl, rfl, .inl rfl, ?_⟩
 refine vo_stM ?_
 refine vo_store_varS rfl rfl rfl inf65 sz65 rfl ?_
 refine vo_stM ?_
 refine vo_nil ?_
 refine hK2 _ ?_
 refine vc_ret ?_
 change retQ _ _ _ _ _
 refine retQ_sel [] (srows := []) (.inr rfl) hC rfl rfl rfl rfl rfl rfl rfl ?_
 exact ⟨rfl, rfl⟩


theorem fixedByObject_sat {o : Int} {a : AttrM} {x : Int} {c : Int} : SatAt Try.prog 165 [.pv false (memP o a), i64 x, i64 c] [] (fun res rows => res = [.pv true (foundP ⟨4, o, a.value, x⟩)] ∧ rows = []) := by
 refine sat_entry_G (rs := [(6, some (65, 4))]) Try.func165 rfl rfl (Nat.le_of_ble_eq_true rfl) (Nat.le_of_ble_eq_true rfl) (resTs1 ⟨_, _, Try.underlying65, rfl, inf65, sz65⟩) fun C hC => ?_
 rw [Try.ntmps165]
 replace hC : C.nb = 0 := hC
 refine vc_seq fun K1 hK1 => ?_
 refine vc_region ?_
 refine vo_box rfl rfl ?_
 refine vo_stM ?_
 refine vo_alloc Z65 rfl ?_
 refine vo_stM ?_
 refine vo_nil ?_
 refine hK1 _ ?_
 refine vc_seq fun K2 hK2 => ?_
 refine vc_region ?_
 refine vo_fieldAddr_ptr rfl rfl Try.underlying138 rfl inf135 (by rw [sz135]; decide) ?_
 try simp only [Nat.zero_add]
 refine vo_load_varS rfl rfl rfl Try.underlying135 rfl inf135 sz135 rfl rfl ?_
 refine vo_move_pv rfl rfl ?_
 refine vo_call0 Try.func163 rfl rfl rfl rfl (found_sat (o := o) (a := a)) ?_
 rintro _ _ ⟨rfl, rfl⟩
 refine ⟨rfl, rfl, .inl rfl, ?_⟩
 refine vo_stM ?_
 refine vo_store_varS rfl rfl rfl inf65 sz65 rfl ?_
 refine vo_stM ?_
 refine vo_nil ?_
 refine hK2 _ ?_
 refine vc_ret ?_
 change retQ _ _ _ _ _
 refine retQ_sel [] (srows := []) (.inr rfl) hC rfl rfl rfl rfl rfl rfl rfl ?_
 exact ⟨rfl, rfl⟩


theorem noByObject_sat {x c : Int} : SatAt Try.prog 160 [.pv false (.agg []), i64 x, i64 c] [] (fun res rows => res = [.pv true (foundP none0)] ∧ rows = []) := by
 refine sat_entry_G (rs := [(6, some (65, 4))]) Try.func160 rfl rfl (Nat.le_of_ble_eq_true rfl) (Nat.le_of_ble_eq_true rfl) (resTs1 ⟨_, _, Try.underlying65, rfl, inf65, sz65⟩) fun C hC => ?_
 rw [Try.ntmps160]
 replace hC : C.nb = 0 := hC
 refine vc_seq fun K1 hK1 => ?_
 refine vc_region ?_
 refine vo_box rfl rfl ?_
 refine vo_stM ?_
 refine vo_alloc Z65 rfl ?_
 refine vo_stM ?_
 refine vo_nil ?_
 refine hK1 _ ?_
 refine vc_seq fun K2 hK2 => ?_
 refine vc_region ?_
 refine vo_call0 Try.func74 rfl rfl rfl rfl foundNothing_sat ?_
 rintro _ _ ⟨rfl, rfl⟩
 refine ⟨rfl, rfl, .inl rfl, ?_⟩
 refine vo_stM ?_
 refine vo_store_varS rfl rfl rfl inf65 sz65 rfl ?_
 refine vo_stM ?_
 refine vo_nil ?_
 refine hK2 _ ?_
 refine vc_ret ?_
 change retQ _ _ _ _ _
 refine retQ_sel [] (srows := []) (.inr rfl) hC rfl rfl rfl rfl rfl rfl rfl ?_
 exact ⟨rfl, rfl⟩


theorem memberOf_sat {ow : Int} {a : AttrM}   : SatAt Try.prog 71 [i64 ow, .pv false (attrP a)] [] (fun res rows => ∃ p, MemIs ow a p ∧ res = [.pv true p] ∧ rows = []) := by
 refine sat_entry_G (rs := [(4, none)]) Try.func71 rfl rfl (Nat.le_of_ble_eq_true rfl) (Nat.le_of_ble_eq_true rfl) (resTs1 trivial) fun C hC => ?_
 rw [Try.ntmps71]
 replace hC : C.nb = 0 := hC
 refine vc_seq fun K1 hK1 => ?_
 refine vc_region ?_
 refine vo_box rfl rfl ?_
 refine vo_stM ?_
 refine vo_assign rfl ?_
 refine vo_stM ?_
 refine vo_nil ?_
 refine hK1 _ ?_
 refine vc_seq fun K2 hK2 => ?_
 refine vc_seq fun K3 hK3 => ?_
 refine vc_region ?_
 refine vo_move_pv rfl rfl ?_
 refine vo_binI rfl rfl rfl rfl trivial ?_
 refine vo_nil ?_
 refine hK3 _ ?_
 refine vc_cond rfl (fun hc1 => ?_) (fun hc1 => ?_)
 ·try simp only [zq0, zq1, zq2, zq3, zq4, zq5, zq6, zq7, zq8, zq9, zqa, zqb, zqc, zqd, zqe, zqf] at hc1
  refine vc_seq fun K4 hK4 => ?_
  refine vc_region ?_
  refine vo_build S133 rfl rfl rfl ?_
  refine vo_stM ?_
  refine vo_makeIface rfl rfl Try.underlying133 rfl ?_
  refine vo_stM ?_
  refine vo_assign rfl ?_
  refine vo_stM ?_
  refine vo_nil ?_
  refine hK4 _ ?_
  refine vc_ret ?_
  change retQ _ _ _ _ _
  refine retQ_sel [] (srows := []) (.inr rfl) hC rfl rfl rfl rfl rfl rfl rfl ?_
  first
   | exact ⟨_, .inl ⟨by omega, rfl⟩, rfl, rfl⟩
   | exact ⟨_, .inr (.inr (.inl ⟨⟨by omega, by omega⟩, rfl⟩)), rfl, rfl⟩
   | exact ⟨_, .inr (.inr (.inr (.inl ⟨⟨by omega, by omega⟩, rfl⟩))), rfl, rfl⟩
   | exact ⟨_, .inr (.inr (.inr (.inr (.inl ⟨⟨by omega, by omega⟩, rfl⟩)))), rfl, rfl⟩
   | exact ⟨_, .inr (.inr (.inr (.inr (.inr ⟨⟨by omega, by omega⟩, rfl⟩)))), rfl, rfl⟩
   | exact ⟨_, .inr (.inl ⟨⟨by omega, by omega, by omega, by omega, by omega⟩, rfl⟩), rfl, rfl⟩
 ·try simp only [zq0, zq1, zq2, zq3, zq4, zq5, zq6, zq7, zq8, zq9, zqa, zqb, zqc, zqd, zqe, zqf] at hc1
  refine vc_skip ?_
  refine hK2 _ ?_
  refine vc_seq fun K5 hK5 => ?_
  refine vc_region ?_
  refine vo_move_pv rfl rfl ?_
  refine vo_load_varS rfl rfl rfl Try.underlying37 rfl inf37 sz37 rfl rfl ?_
  refine vo_build S135 rfl rfl rfl ?_
  refine vo_stM ?_
  refine vo_alloc Z135 rfl ?_
  refine vo_stM ?_
  refine vo_store_varS rfl rfl rfl inf135 sz135 rfl ?_
  refine vo_stM ?_
  refine vo_nil ?_
  refine hK5 _ ?_
  refine vc_seq fun K6 hK6 => ?_
  refine vc_seq fun K7 hK7 => ?_
  refine vc_region ?_
  refine vo_fieldAddr_ptr rfl rfl Try.underlying37 rfl inf3 (by rw [sz3]; decide) ?_
  try simp only [Nat.zero_add]
  refine vo_load_var rfl rfl rfl Try.underlying3 rfl rfl ?_
  refine vo_nil ?_
  refine hK7 _ ?_
  refine vc_block ?_
  refine vc_seq fun K8 hK8 => ?_
  refine vc_region ?_
  refine vo_binI rfl rfl rfl rfl trivial ?_
  refine vo_assign_pv rfl rfl ?_
  refine vo_nil ?_
  refine hK8 _ ?_
  refine vc_cond rfl (fun hc2 => ?_) (fun hc2 => ?_)
  ·try simp only [zq0, zq1, zq2, zq3, zq4, zq5, zq6, zq7, zq8, zq9, zqa, zqb, zqc, zqd, zqe, zqf] at hc2
   refine vc_seq fun K9 hK9 => ?_
   refine vc_region ?_
   refine vo_load_varS rfl rfl rfl Try.underlying135 rfl inf135 sz135 rfl rfl ?_
   refine vo_build S137 rfl rfl rfl ?_
   refine vo_stM ?_
   refine vo_makeIface rfl rfl Try.underlying137 rfl ?_
   refine vo_stM ?_
   refine vo_assign rfl ?_
   refine vo_stM ?_
   refine vo_nil ?_
   refine hK9 _ ?_
   refine vc_ret ?_
   change retQ _ _ _ _ _
   refine retQ_sel [] (srows := []) (.inr rfl) hC rfl rfl rfl rfl rfl rfl rfl ?_
   first
    | exact ⟨_, .inl ⟨by omega, rfl⟩, rfl, rfl⟩
    | exact ⟨_, .inr (.inr (.inl ⟨⟨by omega, by omega⟩, rfl⟩)), rfl, rfl⟩
    | exact ⟨_, .inr (.inr (.inr (.inl ⟨⟨by omega, by omega⟩, rfl⟩))), rfl, rfl⟩
    | exact ⟨_, .inr (.inr (.inr (.inr (.inl ⟨⟨by omega, by omega⟩, rfl⟩)))), rfl, rfl⟩
    | exact ⟨_, .inr (.inr (.inr (.inr (.inr ⟨⟨by omega, by omega⟩, rfl⟩)))), rfl, rfl⟩
    | exact ⟨_, .inr (.inl ⟨⟨by omega, by omega, by omega, by omega, by omega⟩, rfl⟩), rfl, rfl⟩
  ·try simp only [zq0, zq1, zq2, zq3, zq4, zq5, zq6, zq7, zq8, zq9, zqa, zqb, zqc, zqd, zqe, zqf] at hc2
   refine vc_seq fun K10 hK10 => ?_
   refine vc_region ?_
   refine vo_binI rfl rfl rfl rfl trivial ?_
   refine vo_assign_pv rfl rfl ?_
   refine vo_nil ?_
   refine hK10 _ ?_
   refine vc_cond rfl (fun hc3 => ?_) (fun hc3 => ?_)
   ·try simp only [zq0, zq1, zq2, zq3, zq4, zq5, zq6, zq7, zq8, zq9, zqa, zqb, zqc, zqd, zqe, zqf] at hc3
    refine vc_seq fun K11 hK11 => ?_
    refine vc_region ?_
    refine vo_load_varS rfl rfl rfl Try.underlying135 rfl inf135 sz135 rfl rfl ?_
    refine vo_build S138 rfl rfl rfl ?_
    refine vo_stM ?_
    refine vo_build S140 rfl rfl rfl ?_
    refine vo_stM ?_
    refine vo_makeIface rfl rfl Try.underlying140 rfl ?_
    refine vo_stM ?_
    refine vo_assign rfl ?_
    refine vo_stM ?_
    refine vo_nil ?_
    refine hK11 _ ?_
    refine vc_ret ?_
    change retQ _ _ _ _ _
    refine retQ_sel [] (srows := []) (.inr rfl) hC rfl rfl rfl rfl rfl rfl rfl ?_
    first
     | exact ⟨_, .inl ⟨by omega, rfl⟩, rfl, rfl⟩
     | exact ⟨_, .inr (.inr (.inl ⟨⟨by omega, by omega⟩, rfl⟩)), rfl, rfl⟩
     | exact ⟨_, .inr (.inr (.inr (.inl ⟨⟨by omega, by omega⟩, rfl⟩))), rfl, rfl⟩
     | exact ⟨_, .inr (.inr (.inr (.inr (.inl ⟨⟨by omega, by omega⟩, rfl⟩)))), rfl, rfl⟩
     | exact ⟨_, .inr (.inr (.inr (.inr (.inr ⟨⟨by omega, by omega⟩, rfl⟩)))), rfl, rfl⟩
     | exact ⟨_, .inr (.inl ⟨⟨by omega, by omega, by omega, by omega, by omega⟩, rfl⟩), rfl, rfl⟩
   ·try simp only [zq0, zq1, zq2, zq3, zq4, zq5, zq6, zq7, zq8, zq9, zqa, zqb, zqc, zqd, zqe, zqf] at hc3
    refine vc_seq fun K12 hK12 => ?_
    refine vc_region ?_
    refine vo_binI rfl rfl rfl rfl trivial ?_
    refine vo_assign_pv rfl rfl ?_
    refine vo_nil ?_
    refine hK12 _ ?_
    refine vc_cond rfl (fun hc4 => ?_) (fun hc4 => ?_)
    ·try simp only [zq0, zq1, zq2, zq3, zq4, zq5, zq6, zq7, zq8, zq9, zqa, zqb, zqc, zqd, zqe, zqf] at hc4
     refine vc_seq fun K13 hK13 => ?_
     refine vc_region ?_
     refine vo_load_varS rfl rfl rfl Try.underlying135 rfl inf135 sz135 rfl rfl ?_
     refine vo_build S138 rfl rfl rfl ?_
     refine vo_stM ?_
     refine vo_makeIface rfl rfl Try.underlying138 rfl ?_
     refine vo_stM ?_
     refine vo_assign rfl ?_
     refine vo_stM ?_
     refine vo_nil ?_
     refine hK13 _ ?_
     refine vc_ret ?_
     change retQ _ _ _ _ _
     refine retQ_sel [] (srows := []) (.inr rfl) hC rfl rfl rfl rfl rfl rfl rfl ?_
     first
      | exact ⟨_, .inl ⟨by omega, rfl⟩, rfl, rfl⟩
      | exact ⟨_, .inr (.inr (.inl ⟨⟨by omega, by omega⟩, rfl⟩)), rfl, rfl⟩
      | exact ⟨_, .inr (.inr (.inr (.inl ⟨⟨by omega, by omega⟩, rfl⟩))), rfl, rfl⟩
      | exact ⟨_, .inr (.inr (.inr (.inr (.inl ⟨⟨by omega, by omega⟩, rfl⟩)))), rfl, rfl⟩
      | exact ⟨_, .inr (.inr (.inr (.inr (.inr ⟨⟨by omega, by omega⟩, rfl⟩)))), rfl, rfl⟩
      | exact ⟨_, .inr (.inl ⟨⟨by omega, by omega, by omega, by omega, by omega⟩, rfl⟩), rfl, rfl⟩
    ·try simp only [zq0, zq1, zq2, zq3, zq4, zq5, zq6, zq7, zq8, zq9, zqa, zqb, zqc, zqd, zqe, zqf] at hc4
     refine vc_seq fun K14 hK14 => ?_
     refine vc_region ?_
     refine vo_binI rfl rfl rfl rfl trivial ?_
     refine vo_assign_pv rfl rfl ?_
     refine vo_nil ?_
     refine hK14 _ ?_
     refine vc_cond rfl (fun hc5 => ?_) (fun hc5 => ?_)
     ·try simp only [zq0, zq1, zq2, zq3, zq4, zq5, zq6, zq7, zq8, zq9, zqa, zqb, zqc, zqd, zqe, zqf] at hc5
      refine vc_seq fun K15 hK15 => ?_
      refine vc_region ?_
      refine vo_load_varS rfl rfl rfl Try.underlying135 rfl inf135 sz135 rfl rfl ?_
      refine vo_build S141 rfl rfl rfl ?_
      refine vo_stM ?_
      refine vo_makeIface rfl rfl Try.underlying141 rfl ?_
      refine vo_stM ?_
      refine vo_assign rfl ?_
      refine vo_stM ?_
      refine vo_nil ?_
      refine hK15 _ ?_
      refine vc_ret ?_
      change retQ _ _ _ _ _
      refine retQ_sel [] (srows := []) (.inr rfl) hC rfl rfl rfl rfl rfl rfl rfl ?_
      first
       | exact ⟨_, .inl ⟨by omega, rfl⟩, rfl, rfl⟩
       | exact ⟨_, .inr (.inr (.inl ⟨⟨by omega, by omega⟩, rfl⟩)), rfl, rfl⟩
       | exact ⟨_, .inr (.inr (.inr (.inl ⟨⟨by omega, by omega⟩, rfl⟩))), rfl, rfl⟩
       | exact ⟨_, .inr (.inr (.inr (.inr (.inl ⟨⟨by omega, by omega⟩, rfl⟩)))), rfl, rfl⟩
       | exact ⟨_, .inr (.inr (.inr (.inr (.inr ⟨⟨by omega, by omega⟩, rfl⟩)))), rfl, rfl⟩
       | exact ⟨_, .inr (.inl ⟨⟨by omega, by omega, by omega, by omega, by omega⟩, rfl⟩), rfl, rfl⟩
     ·try simp only [zq0, zq1, zq2, zq3, zq4, zq5, zq6, zq7, zq8, zq9, zqa, zqb, zqc, zqd, zqe, zqf] at hc5
      refine vc_skip ?_
      refine hK6 _ ?_
      refine vc_seq fun K16 hK16 => ?_
      refine vc_region ?_
      refine vo_load_varS rfl rfl rfl Try.underlying135 rfl inf135 sz135 rfl rfl ?_
      refine vo_makeIface rfl rfl Try.underlying135 rfl ?_
      refine vo_stM ?_
      refine vo_assign rfl ?_
      refine vo_stM ?_
      refine vo_nil ?_
      refine hK16 _ ?_
      refine vc_ret ?_
      change retQ _ _ _ _ _
      refine retQ_sel [] (srows := []) (.inr rfl) hC rfl rfl rfl rfl rfl rfl rfl ?_
      first
       | exact ⟨_, .inl ⟨by omega, rfl⟩, rfl, rfl⟩
       | exact ⟨_, .inr (.inr (.inl ⟨⟨by omega, by omega⟩, rfl⟩)), rfl, rfl⟩
       | exact ⟨_, .inr (.inr (.inr (.inl ⟨⟨by omega, by omega⟩, rfl⟩))), rfl, rfl⟩
       | exact ⟨_, .inr (.inr (.inr (.inr (.inl ⟨⟨by omega, by omega⟩, rfl⟩)))), rfl, rfl⟩
       | exact ⟨_, .inr (.inr (.inr (.inr (.inr ⟨⟨by omega, by omega⟩, rfl⟩)))), rfl, rfl⟩
       | exact ⟨_, .inr (.inl ⟨⟨by omega, by omega, by omega, by omega, by omega⟩, rfl⟩), rfl, rfl⟩


theorem hasObject_sat {w : WorldM} {x : Int}  (hw : SW w) : SatAt Try.prog 73 [.pv false (worldP w), i64 x] [] (fun res rows => res = [bo (decide (hasO w x))] ∧ rows = []) := by
 have hw0 := hw
 obtain ⟨⟨b1, b2⟩, ⟨a1, a2⟩, o1, o2⟩ := hw
 refine sat_entry_G (rs := [(4, none)]) Try.func73 rfl rfl (Nat.le_of_ble_eq_true rfl) (Nat.le_of_ble_eq_true rfl) (resTs1 trivial) fun C hC => ?_
 rw [Try.ntmps73]
 replace hC : C.nb = 0 := hC
 refine vc_seq fun K1 hK1 => ?_
 refine vc_region ?_
 refine vo_box rfl rfl ?_
 refine vo_stM ?_
 refine vo_assign_pv rfl rfl ?_
 refine vo_nil ?_
 refine hK1 _ ?_
 refine vc_seq fun K2 hK2 => ?_
 refine vc_region ?_
 refine vo_load_varS rfl rfl rfl Try.underlying33 rfl inf33 sz33 rfl rfl ?_
 refine vo_call0 Try.func24 rfl rfl rfl rfl (implValidWorld_sat hw0) ?_
 rintro _ _ ⟨rfl, rfl⟩
 refine ⟨rfl, rfl, .inl rfl, ?_⟩
 refine vo_stM ?_
 refine vo_move_pv rfl rfl ?_
 refine vo_split 7 rfl (fun hg1 => ?_) (fun hg1 => ?_)
 ·try simp only [zq0, zq1, zq2, zq3, zq4, zq5, zq6, zq7, zq8, zq9, zqa, zqb, zqc, zqd, zqe, zqf] at hg1
  refine vo_guard_on rfl rfl rfl ?_
  refine vo_move_pv rfl rfl ?_
  refine vo_guard_on rfl rfl rfl ?_
  refine vo_fieldAddr_ptr rfl rfl Try.underlying33 rfl inf31 (by rw [sz31]; decide) ?_
  try simp only [Nat.zero_add]
  refine vo_guard_on rfl rfl rfl ?_
  refine vo_load_var rfl rfl rfl Try.underlying31 rfl rfl ?_
  refine vo_guard_on rfl rfl rfl ?_
  refine vo_len_pv rfl rfl Try.underlying31 ?_
  refine vo_guard_on rfl rfl rfl ?_
  refine vo_binI rfl rfl rfl rfl sd ?_
  refine vo_guard_on rfl rfl rfl ?_
  refine vo_call0 Try.func69 rfl rfl rfl rfl isUpTo_sat ?_
  rintro _ _ ⟨rfl, rfl⟩
  refine ⟨rfl, rfl, .inl rfl, ?_⟩
  refine vo_stM ?_
  refine vo_pick_t rfl rfl ?_
  refine vo_assign_pv rfl rfl ?_
  refine vo_nil ?_
  refine hK2 _ ?_
  refine vc_ret ?_
  change retQ _ _ _ _ _
  refine retQ_sel [] (srows := []) (.inr rfl) hC rfl rfl rfl rfl rfl rfl rfl ?_
  refine ⟨?_, rfl⟩
  refine (congrArg (fun b => [bo b]) (?_ : _ = _) : [bo _] = [bo _])
  first
   | exact bF fun h0 => absurd h0.1 (by assumption)
   | exact decide_eq_decide.2 ⟨fun h0 => ⟨by assumption, by omega, by simp only [List.length_map] at h0; omega⟩, fun h0 => by have := h0.2; simp only [List.length_map]; omega⟩
 ·try simp only [zq0, zq1, zq2, zq3, zq4, zq5, zq6, zq7, zq8, zq9, zqa, zqb, zqc, zqd, zqe, zqf] at hg1
  refine vo_guard_off rfl rfl rfl rfl rfl ?_
  refine vo_guard_off rfl rfl rfl rfl rfl ?_
  refine vo_guard_off rfl rfl rfl rfl rfl ?_
  refine vo_guard_off rfl rfl rfl rfl rfl ?_
  refine vo_guard_off rfl rfl rfl rfl rfl ?_
  refine vo_guard_off rfl rfl rfl rfl rfl ?_
  refine vo_pick_f rfl rfl ?_
  refine vo_assign_pv rfl rfl ?_
  refine vo_nil ?_
  refine hK2 _ ?_
  refine vc_ret ?_
  change retQ _ _ _ _ _
  refine retQ_sel [] (srows := []) (.inr rfl) hC rfl rfl rfl rfl rfl rfl rfl ?_
  refine ⟨?_, rfl⟩
  refine (congrArg (fun b => [bo b]) (?_ : _ = _) : [bo _] = [bo _])
  first
   | exact bF fun h0 => absurd h0.1 (by assumption)
   | exact decide_eq_decide.2 ⟨fun h0 => ⟨by assumption, by omega, by simp only [List.length_map] at h0; omega⟩, fun h0 => by have := h0.2; simp only [List.length_map]; omega⟩


theorem implSuperAttr_sat {w : WorldM} {x : Int} {beh : Int} {name : Int}  (hw : SW w) : SatAt Try.prog 30 [.pv false (worldP w), i64 x, i64 beh, i64 name] [] (fun res rows => res = [.pv true (foundP (superM w x beh name))] ∧ rows = []) := by
 have hw0 := hw
 obtain ⟨⟨b1, b2⟩, ⟨a1, a2⟩, o1, o2⟩ := hw
 refine sat_entry_G (rs := [(8, some (65, 4))]) Try.func30 rfl rfl (Nat.le_of_ble_eq_true rfl) (Nat.le_of_ble_eq_true rfl) (resTs1 ⟨_, _, Try.underlying65, rfl, inf65, sz65⟩) fun C hC => ?_
 rw [Try.ntmps30]
 replace hC : C.nb = 0 := hC
 refine vc_seq fun K1 hK1 => ?_
 refine vc_region ?_
 refine vo_box rfl rfl ?_
 refine vo_stM ?_
 refine vo_alloc Z65 rfl ?_
 refine vo_stM ?_
 refine vo_nil ?_
 refine hK1 _ ?_
 refine vc_seq fun K2 hK2 => ?_
 refine vc_seq fun K3 hK3 => ?_
 refine vc_region ?_
 refine vo_load_varS rfl rfl rfl Try.underlying33 rfl inf33 sz33 rfl rfl ?_
 refine vo_move_pv rfl rfl ?_
 refine vo_call0 Try.func73 rfl rfl rfl rfl (hasObject_sat hw0) ?_
 rintro _ _ ⟨rfl, rfl⟩
 refine ⟨rfl, rfl, .inl rfl, ?_⟩
 refine vo_stM ?_
 refine vo_not rfl rfl ?_
 refine vo_nil ?_
 refine hK3 _ ?_
 refine vc_cond rfl (fun hc1 => ?_) (fun hc1 => ?_)
 ·try simp only [zq0, zq1, zq2, zq3, zq4, zq5, zq6, zq7, zq8, zq9, zqa, zqb, zqc, zqd, zqe, zqf] at hc1
  refine vc_seq fun K4 hK4 => ?_
  refine vc_region ?_
  refine vo_call0 Try.func74 rfl rfl rfl rfl foundNothing_sat ?_
  rintro _ _ ⟨rfl, rfl⟩
  refine ⟨rfl, rfl, .inl rfl, ?_⟩
  refine vo_stM ?_
  refine vo_store_varS rfl rfl rfl inf65 sz65 rfl ?_
  refine vo_stM ?_
  refine vo_nil ?_
  refine hK4 _ ?_
  refine vc_ret ?_
  change retQ _ _ _ _ _
  refine retQ_sel [] (srows := []) (.inr rfl) hC rfl rfl rfl rfl rfl rfl rfl ?_
  refine ⟨fr_eq (?_ : FoundM.mk _ _ _ _ = _), rfl⟩
  unfold superM; rw [if_neg (by assumption)]; rfl
 ·try simp only [zq0, zq1, zq2, zq3, zq4, zq5, zq6, zq7, zq8, zq9, zqa, zqb, zqc, zqd, zqe, zqf] at hc1
  have hx2 := hc1.2
  have hcl := hasO_cls hc1
  have hxl : x.toNat < w.objs.length := by have := hc1.2; omega
  have hof := getD_all o2 ⟨0, []⟩ SO_zero x.toNat
  unfold SO at hof
  have hnl := nms_lt (n := name) (l := (w.objs.getD x.toNat ⟨0, []⟩).pairs)
  have htl := ordT_len w.bases ((w.objs.getD x.toNat ⟨0, []⟩).cls.toNat + 1)
  have hoi := ordIn_of hc1.1 hcl.1 hcl.2
  have hol := ordM_len hc1.1.1.1 (show (w.objs.getD x.toNat ⟨0, []⟩).cls.toNat < w.bases.length by omega)
  have hri := rst_in (x := beh) hoi
  refine vc_skip ?_
  refine hK2 _ ?_
  refine vc_seq fun K5 hK5 => ?_
  refine vc_region ?_
  refine vo_fieldAddr_ptr rfl rfl Try.underlying33 rfl inf31 (by rw [sz31]; decide) ?_
  try simp only [Nat.zero_add]
  refine vo_load_var rfl rfl rfl Try.underlying31 rfl rfl ?_
  refine vo_move_pv rfl rfl ?_
  refine vo_index_pv (.agg [(.int .i64 0), (.sl none 2 [])]) rfl rfl rfl E31.und inf62 sz62 sd sd ?_
  simp only [Int.toNat_natCast, Int.toNat_zero, getD_ints, getD_intss, getD_bools, getD_bytes, PV.cells, getD_ops, getD_pairs, getD_insts, getD_attrs, getD_attrss, getD_objs, getD_ordP]
  refine vo_fieldAddr_adr rfl rfl Try.underlying62 rfl inf3 (by rw [sz3]; decide) ?_
  refine vo_load_adr rfl rfl Try.underlying3 rfl ?_
  refine vo_assign_pv rfl rfl ?_
  refine vo_nil ?_
  refine hK5 _ ?_
  refine vc_seq fun K6 hK6 => ?_
  refine vc_region ?_
  refine vo_fieldAddr_ptr rfl rfl Try.underlying33 rfl inf22 (by rw [sz22]; decide) ?_
  try simp only [Nat.zero_add]
  refine vo_load_var rfl rfl rfl Try.underlying22 rfl rfl ?_
  refine vo_move_pv rfl rfl ?_
  refine vo_call [] Try.func64 rfl rfl rfl rfl rfl rfl rfl (ordersUpTo_satI (by omega) (fun l hl => by have := b2 l hl; omega) hc1.1.1.1 hcl.1 (by omega)) ?_
  rintro _ _ ⟨rfl, rfl⟩
  refine ⟨Nat.le_of_ble_eq_true rfl, ⟨rfl, rfl, rfl, rfl⟩, .inl rfl, ?_⟩
  refine vo_stM ?_
  refine vo_treeown 2 (by omega) rfl ?_
  refine vo_stM ?_
  refine vo_expose 2 (by omega) rfl ?_
  refine vo_stM ?_
  refine vo_weaken 25 rfl ?_
  refine vo_stM ?_
  refine vo_move_pv rfl rfl ?_
  refine vo_index_pv (.sl (some true) 1 []) rfl rfl rfl E22.und inf49 sz49 sd sd ?_
  simp only [Int.toNat_natCast, Int.toNat_zero, getD_ints, getD_intss, getD_bools, getD_bytes, PV.cells, getD_ops, getD_pairs, getD_insts, getD_attrs, getD_attrss, getD_objs, getD_ordP]
  refine vo_load_adr rfl rfl Try.underlying49 rfl ?_
  rw [ordT_get w.bases ((w.objs.getD x.toNat ⟨0, []⟩).cls.toNat + 1) (w.objs.getD x.toNat ⟨0, []⟩).cls.toNat (by omega)]
  refine vo_stM ?_
  refine vo_move_pv rfl rfl ?_
  refine vo_call0 Try.func75 rfl rfl rfl rfl (restBehind_sat (order := ordM w.bases (w.objs.getD x.toNat ⟨0, []⟩).cls.toNat) (by omega)) ?_
  rintro _ _ ⟨f8, nl8, rfl, rfl⟩
  refine ⟨rfl, rfl, .inl rfl, ?_⟩
  refine vo_stM ?_
  refine vo_flag 30 rfl ?_
  refine vo_stM ?_
  refine vo_assign_pv rfl rfl ?_
  refine vo_nil ?_
  refine hK6 _ ?_
  refine vc_seq fun K7 hK7 => ?_
  refine vc_region ?_
  refine vo_load_varS rfl rfl rfl Try.underlying33 rfl inf33 sz33 rfl rfl ?_
  refine vo_move_pv rfl rfl ?_
  refine vo_move_pv rfl rfl ?_
  refine vo_call0 Try.func63 rfl rfl rfl rfl (firstIn_sat (classes := rstM (ordM w.bases (w.objs.getD x.toNat ⟨0, []⟩).cls.toNat) beh) a1 a2 hri) ?_
  rintro _ _ ⟨rfl, rfl⟩
  refine ⟨rfl, rfl, .inl rfl, ?_⟩
  refine vo_stM ?_
  refine vo_extract rfl rfl rfl ?_
  refine vo_extract rfl rfl rfl ?_
  refine vo_call0 Try.func71 rfl rfl rfl rfl memberOf_sat ?_
  rintro _ _ ⟨p, hp, rfl, rfl⟩
  refine ⟨rfl, rfl, .inl rfl, ?_⟩
  refine vo_stM ?_
  rcases hp with ⟨hk, rfl⟩ | ⟨hk, rfl⟩ | ⟨hk, rfl⟩ | ⟨hk, rfl⟩ | ⟨hk, rfl⟩ | ⟨hk, rfl⟩
  ·skip
   refine vo_move_pv rfl rfl ?_
   refine vo_move_pv rfl rfl ?_
   refine vo_invoke [] rfl (mth133_byObject) Try.func160 rfl rfl rfl rfl rfl rfl rfl noByObject_sat ?_
   rintro _ _ ⟨rfl, rfl⟩
   refine ⟨Nat.le_of_ble_eq_true rfl, ⟨rfl, rfl, rfl, rfl⟩, .inl rfl, ?_⟩
   refine vo_stM ?_
   refine vo_store_varS rfl rfl rfl inf65 sz65 rfl ?_
   refine vo_stM ?_
   refine vo_nil ?_
   refine hK7 _ ?_
   refine vc_ret ?_
   change retQ _ _ _ _ _
   refine retQ_sel [] (srows := []) (.inr rfl) hC rfl rfl rfl rfl rfl rfl rfl ?_
   refine ⟨fr_eq (?_ : FoundM.mk _ _ _ _ = _), rfl⟩
   unfold superM; rw [if_pos hc1]
   unfold bindO bindM none0
   repeat' split
   all_goals first | rfl | (exfalso; omega)
  ·skip
   refine vo_move_pv rfl rfl ?_
   refine vo_move_pv rfl rfl ?_
   refine vo_invoke [] rfl (mth135_byObject _ _ _ _) Try.func162 rfl rfl rfl rfl rfl rfl rfl (plainByObject_sat (o := _) (a := ⟨_, _, _⟩)) ?_
   rintro _ _ ⟨rfl, rfl⟩
   refine ⟨Nat.le_of_ble_eq_true rfl, ⟨rfl, rfl, rfl, rfl⟩, .inl rfl, ?_⟩
   refine vo_stM ?_
   refine vo_store_varS rfl rfl rfl inf65 sz65 rfl ?_
   refine vo_stM ?_
   refine vo_nil ?_
   refine hK7 _ ?_
   refine vc_ret ?_
   change retQ _ _ _ _ _
   refine retQ_sel [] (srows := []) (.inr rfl) hC rfl rfl rfl rfl rfl rfl rfl ?_
   refine ⟨fr_eq (?_ : FoundM.mk _ _ _ _ = _), rfl⟩
   unfold superM; rw [if_pos hc1]
   unfold bindO bindM none0
   repeat' split
   all_goals first | rfl | (exfalso; omega)
  ·skip
   refine vo_move_pv rfl rfl ?_
   refine vo_move_pv rfl rfl ?_
   refine vo_invoke [] rfl (mth137_byObject _ _ _ _) Try.func164 rfl rfl rfl rfl rfl rfl rfl (methodByObject_sat (o := _) (a := ⟨_, _, _⟩)) ?_
   rintro _ _ ⟨rfl, rfl⟩
   refine ⟨Nat.le_of_ble_eq_true rfl, ⟨rfl, rfl, rfl, rfl⟩, .inl rfl, ?_⟩
   refine vo_stM ?_
   refine vo_store_varS rfl rfl rfl inf65 sz65 rfl ?_
   refine vo_stM ?_
   refine vo_nil ?_
   refine hK7 _ ?_
   refine vc_ret ?_
   change retQ _ _ _ _ _
   refine retQ_sel [] (srows := []) (.inr rfl) hC rfl rfl rfl rfl rfl rfl rfl ?_
   refine ⟨fr_eq (?_ : FoundM.mk _ _ _ _ = _), rfl⟩
   unfold superM; rw [if_pos hc1]
   unfold bindO bindM none0
   repeat' split
   all_goals first | rfl | (exfalso; omega)
  ·skip
   refine vo_move_pv rfl rfl ?_
   refine vo_move_pv rfl rfl ?_
   refine vo_invoke [] rfl (mth138_byObject _ _ _ _) Try.func165 rfl rfl rfl rfl rfl rfl rfl (fixedByObject_sat (o := _) (a := ⟨_, _, _⟩)) ?_
   rintro _ _ ⟨rfl, rfl⟩
   refine ⟨Nat.le_of_ble_eq_true rfl, ⟨rfl, rfl, rfl, rfl⟩, .inl rfl, ?_⟩
   refine vo_stM ?_
   refine vo_store_varS rfl rfl rfl inf65 sz65 rfl ?_
   refine vo_stM ?_
   refine vo_nil ?_
   refine hK7 _ ?_
   refine vc_ret ?_
   change retQ _ _ _ _ _
   refine retQ_sel [] (srows := []) (.inr rfl) hC rfl rfl rfl rfl rfl rfl rfl ?_
   refine ⟨fr_eq (?_ : FoundM.mk _ _ _ _ = _), rfl⟩
   unfold superM; rw [if_pos hc1]
   unfold bindO bindM none0
   repeat' split
   all_goals first | rfl | (exfalso; omega)
  ·skip
   refine vo_move_pv rfl rfl ?_
   refine vo_move_pv rfl rfl ?_
   refine vo_invoke [] rfl (mth140_byObject _ _ _ _) Try.func165 rfl rfl rfl rfl rfl rfl rfl (fixedByObject_sat (o := _) (a := ⟨_, _, _⟩)) ?_
   rintro _ _ ⟨rfl, rfl⟩
   refine ⟨Nat.le_of_ble_eq_true rfl, ⟨rfl, rfl, rfl, rfl⟩, .inl rfl, ?_⟩
   refine vo_stM ?_
   refine vo_store_varS rfl rfl rfl inf65 sz65 rfl ?_
   refine vo_stM ?_
   refine vo_nil ?_
   refine hK7 _ ?_
   refine vc_ret ?_
   change retQ _ _ _ _ _
   refine retQ_sel [] (srows := []) (.inr rfl) hC rfl rfl rfl rfl rfl rfl rfl ?_
   refine ⟨fr_eq (?_ : FoundM.mk _ _ _ _ = _), rfl⟩
   unfold superM; rw [if_pos hc1]
   unfold bindO bindM none0
   repeat' split
   all_goals first | rfl | (exfalso; omega)
  ·skip
   refine vo_move_pv rfl rfl ?_
   refine vo_move_pv rfl rfl ?_
   refine vo_invoke [] rfl (mth141_byObject _ _ _ _) Try.func169 rfl rfl rfl rfl rfl rfl rfl (classByObject_sat (o := _) (a := ⟨_, _, _⟩)) ?_
   rintro _ _ ⟨rfl, rfl⟩
   refine ⟨Nat.le_of_ble_eq_true rfl, ⟨rfl, rfl, rfl, rfl⟩, .inl rfl, ?_⟩
   refine vo_stM ?_
   refine vo_store_varS rfl rfl rfl inf65 sz65 rfl ?_
   refine vo_stM ?_
   refine vo_nil ?_
   refine hK7 _ ?_
   refine vc_ret ?_
   change retQ _ _ _ _ _
   refine retQ_sel [] (srows := []) (.inr rfl) hC rfl rfl rfl rfl rfl rfl rfl ?_
   refine ⟨fr_eq (?_ : FoundM.mk _ _ _ _ = _), rfl⟩
   unfold superM; rw [if_pos hc1]
   unfold bindO bindM none0
   repeat' split
   all_goals first | rfl | (exfalso; omega)

end Go.Vl

namespace Go.Vl
set_option linter.unusedVariables false
set_option linter.unusedSimpArgs false
open Go.Proofs

theorem row1_tree {el : TypeId} {e : Nat} {nl : Option Bool} {h : Option (Nat × Option Value)} {a b : List (List Int)} (hh : a = b) : [Row.tree el e nl h (a.map ints)] = [Row.tree el e nl h (b.map ints)] := by rw [hh]
theorem snoc_take {L : List (List Int)} {k : Nat} (h : k < L.length) : L.take k ++ [L.getD k []] = L.take (k+1) := by
  rw [List.take_succ_eq_append_getElem h]
  simp [List.getD, List.getElem?_eq_getElem h]
theorem copyInts_sat {nl0 : Option Bool} {list : List Int} (hlist : list.length < 1000000000)  : SatAt Try.prog 127 [.pv false (.sl nl0 1 (list.map intP))] [] (fun res rows => ∃ nl, res = [.ref 0] ∧ rows = [Row.own 3 1 nl true ((list).map intP)]) := by
 refine sat_entry_g (ts := [2]) Try.func127 rfl rfl (by decide) (Nat.le_of_ble_eq_true rfl) fun C hC => ?_
 rw [Try.ntmps127]
 replace hC : C.nb = 0 := hC
 refine vc_seq fun K1 hK1 => ?_
 refine vc_region ?_
 refine vo_assign_pv rfl rfl ?_
 refine vo_nil ?_
 refine hK1 _ ?_
 refine vc_seq fun K2 hK2 => ?_
 refine vc_region ?_
 refine vo_buildSlice E49 rfl rfl rfl rfl rfl ?_
 refine vo_move_pv rfl rfl ?_
 refine vo_append E49 rfl (by omega) rfl rfl rfl sd sd ?_
 refine vo_stN ?_
 try simp only [app_ints, app_intss, app_bools]
 refine vo_clean 0 rfl (scal_ints _) ?_
 refine vo_stN ?_
 refine vo_assign_ref rfl rfl ?_
 refine vo_nil ?_
 refine hK2 _ ?_
 refine vc_ret ?_
 change retG _ _ _ _ _
 refine retG_one 0 hC rfl rfl rfl rfl rfl ?_
 exact ⟨_, rfl, rfl⟩


theorem specCopyLists_sat {nl0 : Option Bool} {lists : List (List Int)} (hlists : lists.length < 1000000000) (hllists : ∀ l ∈ lists, l.length < 1000000000) : SatAt Try.prog 113 [.pv false (.sl nl0 1 (lists.map ints))] [] (fun res rows => ∃ nl, res = [.ref 0] ∧ rows = [Row.tree 49 1 nl none ((lists).map ints)]) := by
 refine sat_entry_g (ts := [2]) Try.func113 rfl rfl (by decide) (Nat.le_of_ble_eq_true rfl) fun C hC => ?_
 rw [Try.ntmps113]
 replace hC : C.nb = 0 := hC
 refine vc_seq fun K1 hK1 => ?_
 refine vc_region ?_
 refine vo_assign_pv rfl rfl ?_
 refine vo_nil ?_
 refine hK1 _ ?_
 refine vc_seq fun K2 hK2 => ?_
 refine vc_region ?_
 refine vo_buildSlice E22 rfl rfl rfl rfl rfl ?_
 refine vo_assign_ref rfl rfl ?_
 refine vo_nil ?_
 refine hK2 _ ?_
 refine vc_seq fun K3 hK3 => ?_
 refine vc_seq fun K4 hK4 => ?_
 refine vc_region ?_
 refine vo_assign_pv rfl rfl ?_
 refine vo_nil ?_
 refine hK4 _ ?_
 refine vc_block ?_
 refine vc_totree 0 rfl (by intro x hx; cases hx) ?_
 refine vc_stN ?_
 refine vc_loop [0, 3, 4] (fun mz vs rows => ∃ (k : Nat), mz = lists.length - k ∧ (k ≤ lists.length) ∧ vs = [.pv false (.sl nl0 1 (lists.map ints)), .ref 0, i64 k] ∧ rows = [Row.tree 49 1 (some false) none ((lists.take k).map ints)]) (lists.length) (le_len hC rfl) ⟨rfl, rfl⟩ ⟨0, rfl, Nat.zero_le _, rfl, rfl⟩ ?_
 rintro mz vs rows - - ⟨k, rfl, hk, rfl, rfl⟩
 have hl : (lists.take k).length ≤ k := by rw [List.length_take]; omega
 refine vc_seq fun K5 hK5 => ?_
 refine vc_seq fun K6 hK6 => ?_
 refine vc_region ?_
 refine vo_move_pv rfl rfl ?_
 refine vo_move_pv rfl rfl ?_
 refine vo_len_pv rfl rfl Try.underlying22 ?_
 refine vo_binI rfl rfl rfl rfl trivial ?_
 refine vo_nil ?_
 refine hK6 _ ?_
 refine vc_cond rfl (fun hc1 => ?_) (fun hc1 => ?_)
 ·try simp only [zq0, zq1, zq2, zq3, zq4, zq5, zq6, zq7, zq8, zq9, zqa, zqb, zqc, zqd, zqe, zqf] at hc1
  refine vc_skip ?_
  refine hK5 _ ?_
  refine vc_seq fun K7 hK7 => ?_
  refine vc_block ?_
  refine vc_region ?_
  refine vo_move_ref rfl rfl ?_
  refine vo_move_pv rfl rfl ?_
  refine vo_move_pv rfl rfl ?_
  refine vo_index_pv (.sl none 1 []) rfl rfl rfl E22.und inf49 sz49 sd sd ?_
  simp only [Int.toNat_natCast, Int.toNat_zero, getD_ints, getD_intss, getD_bools, getD_bytes, PV.cells]
  refine vo_load_adr rfl rfl Try.underlying49 rfl ?_
  refine vo_call [] Try.func127 rfl rfl rfl rfl rfl rfl rfl (copyInts_sat (lens hllists _ (by omega))) ?_
  rintro _ _ ⟨nl9, rfl, rfl⟩
  refine ⟨Nat.le_of_ble_eq_true rfl, ⟨rfl, rfl, rfl, rfl⟩, .inl rfl, ?_⟩
  refine vo_stN ?_
  refine vo_build_tree E22 rfl rfl rfl rfl (fits_of rfl) (fun _ _ _ _ _ h => (own_tp h (plain_ints _)).1.weak) (by omega) ?_
  refine vo_stN ?_
  refine vo_append_tree E22 rfl (by omega) (by omega) rfl rfl rfl rfl rfl sd sd (by simp) ?_
  refine vo_stN ?_
  try simp only [app_ints, app_intss, app_bools]
  refine vo_assign_ref rfl rfl ?_
  refine vo_nil ?_
  refine hK7 _ ?_
  refine vc_region ?_
  refine vo_move_pv rfl rfl ?_
  refine vo_binI rfl rfl rfl rfl sd ?_
  refine vo_assign_pv rfl rfl ?_
  refine vo_nil ?_
  change again _ _ _ _ _ _
  refine again_mk rfl rfl rfl rfl ⟨_, ?_, k + 1, rfl, ?_, rfl, (row1_tree (snoc_take (by omega)))⟩
  ·omega
  ·omega
 ·try simp only [zq0, zq1, zq2, zq3, zq4, zq5, zq6, zq7, zq8, zq9, zqa, zqb, zqc, zqd, zqe, zqf] at hc1
  refine vc_exit ?_
  refine hK3 _ ?_
  refine vc_seq fun K8 hK8 => ?_
  refine vc_region ?_
  refine vo_move_ref rfl rfl ?_
  refine vo_assign_ref rfl rfl ?_
  refine vo_nil ?_
  refine hK8 _ ?_
  refine vc_ret ?_
  change retG _ _ _ _ _
  refine retG_one 0 hC rfl rfl rfl rfl rfl ?_
  exact ⟨_, rfl, row1_tree (take_all (by omega))⟩


end Go.Vl

namespace Go.Vl
set_option linter.unusedVariables false
set_option linter.unusedSimpArgs false
open Go.Proofs

def acOK (b : List (List Int)) (l : List Int) : Prop := VB b ∧ VB (b ++ [l]) ∧ ordM (b ++ [l]) b.length ≠ []
instance {b : List (List Int)} {l : List Int} : Decidable (acOK b l) := by unfold acOK; infer_instance
def acR (b : List (List Int)) (l : List Int) : List (List Int) := if acOK b l then b ++ [l] else []
theorem acR_no {b : List (List Int)} {l : List Int} (h : ¬ acOK b l) : acR b l = [] := if_neg h
theorem acR_yes {b : List (List Int)} {l : List Int} (h : acOK b l) : acR b l = b ++ [l] := if_pos h
theorem lens_app1 {b : List (List Int)} {l : List Int} {n : Nat} (h : ∀ x ∈ b, x.length < n) (h2 : l.length < n) : ∀ x ∈ b ++ [l], x.length < n := by
  intro x hx
  rcases List.mem_append.1 hx with h3 | h3
  · exact h x h3
  · rw [List.mem_singleton.1 h3]; exact h2
theorem rac_no {b : List (List Int)} {l : List Int} (h : ¬ acOK b l) {el : TypeId} {e : Nat} {nl : Option Bool} {hh : Option (Nat × Option Value)} {B : Bool} (hB : B = false) :
    [SV.ref 0, bo B] = [SV.ref 0, bo (decide (acOK b l))] ∧ [Row.tree el e nl hh []] = [Row.tree el e nl hh ((acR b l).map ints)] := by
  rw [acR_no h, hB, decide_eq_false h]; exact ⟨rfl, rfl⟩
theorem rac_yes {b : List (List Int)} {l : List Int} (h : acOK b l) {el : TypeId} {e : Nat} {nl : Option Bool} {hh : Option (Nat × Option Value)} {B : Bool} (hB : B = true) :
    [SV.ref 0, bo B] = [SV.ref 0, bo (decide (acOK b l))] ∧ [Row.tree el e nl hh ((b ++ [l]).map ints)] = [Row.tree el e nl hh ((acR b l).map ints)] := by
  rw [acR_yes h, hB, decide_eq_true h]; exact ⟨rfl, rfl⟩

theorem specAddClass_sat {nl0 : Option Bool} {bases : List (List Int)} {nl1 : Option Bool} {list : List Int} (hbs : bases.length < 999999999) (hlbases : ∀ l ∈ bases, l.length < 1000000000) (hlist : list.length < 1000000000) : SatAt Try.prog 138 [.pv false (.sl nl0 1 (bases.map ints)), .pv false (.sl nl1 1 (list.map intP))] [] (fun res rows => ∃ nl, res = [.ref 0, bo (decide (acOK bases list))] ∧ rows = [Row.tree 49 1 nl none ((acR bases list).map ints)]) := by
 have hbases : bases.length < 1000000000 := by omega
 refine sat_entry_g (ts := [4, 5]) Try.func138 rfl rfl (by decide) (Nat.le_of_ble_eq_true rfl) fun C hC => ?_
 rw [Try.ntmps138]
 replace hC : C.nb = 0 := hC
 refine vc_seq fun K1 hK1 => ?_
 refine vc_region ?_
 refine vo_assign_pv rfl rfl ?_
 refine vo_assign_pv rfl rfl ?_
 refine vo_nil ?_
 refine hK1 _ ?_
 refine vc_seq fun K2 hK2 => ?_
 refine vc_region ?_
 refine vo_move_pv rfl rfl ?_
 refine vo_call [] Try.func113 rfl rfl rfl rfl rfl rfl rfl (specCopyLists_sat hbases hlbases) ?_
 rintro _ _ ⟨nl8, rfl, rfl⟩
 refine ⟨Nat.le_of_ble_eq_true rfl, ⟨rfl, rfl, rfl, rfl⟩, .inl rfl, ?_⟩
 refine vo_stN ?_
 refine vo_move_pv rfl rfl ?_
 refine vo_call [] Try.func127 rfl rfl rfl rfl rfl rfl rfl (copyInts_sat hlist) ?_
 rintro _ _ ⟨nl7, rfl, rfl⟩
 refine ⟨Nat.le_of_ble_eq_true rfl, ⟨rfl, rfl, rfl, rfl⟩, .inl rfl, ?_⟩
 refine vo_stN ?_
 refine vo_build_tree E22 rfl rfl rfl rfl (fits_of rfl) (fun _ _ _ _ _ h => (own_tp h (plain_ints _)).1.weak) (by omega) ?_
 refine vo_stN ?_
 refine vo_append_tree E22 rfl (by omega) (by omega) rfl rfl rfl rfl rfl sd sd (by simp) ?_
 refine vo_stN ?_
 try simp only [app_ints, app_intss, app_bools]
 refine vo_assign_ref rfl rfl ?_
 refine vo_nil ?_
 refine hK2 _ ?_
 refine vc_seq fun K3 hK3 => ?_
 refine vc_seq fun K4 hK4 => ?_
 refine vc_region ?_
 refine vo_move_pv rfl rfl ?_
 refine vo_call0 Try.func79 rfl rfl rfl rfl (specValidBases0_sat hbases hlbases) ?_
 rintro _ _ ⟨rfl, rfl⟩
 refine ⟨rfl, rfl, .inl rfl, ?_⟩
 refine vo_not rfl rfl ?_
 refine vo_move_pv rfl rfl ?_
 refine vo_split 16 rfl (fun hg1 => ?_) (fun hg1 => ?_)
 ·try simp only [zq0, zq1, zq2, zq3, zq4, zq5, zq6, zq7, zq8, zq9, zqa, zqb, zqc, zqd, zqe, zqf] at hg1
  refine vo_guard_off rfl rfl rfl rfl rfl ?_
  refine vo_guard_off rfl rfl rfl rfl rfl ?_
  refine vo_guard_off rfl rfl rfl rfl rfl ?_
  refine vo_pick_t rfl rfl ?_
  refine vo_move_pv rfl rfl ?_
  refine vo_guard_off rfl rfl rfl rfl rfl ?_
  refine vo_guard_off rfl rfl rfl rfl rfl ?_
  refine vo_guard_off rfl rfl rfl rfl rfl ?_
  refine vo_guard_off rfl rfl rfl rfl rfl ?_
  refine vo_guard_off rfl rfl rfl rfl rfl ?_
  refine vo_guard_off rfl rfl rfl rfl rfl ?_
  refine vo_pick_t rfl rfl ?_
  refine vo_nil ?_
  refine hK4 _ ?_
  refine vc_cond_t rfl ?_
  refine vc_seq fun K5 hK5 => ?_
  refine vc_region ?_
  refine vo_assign_pv rfl rfl ?_
  refine vo_assign_pv rfl rfl ?_
  refine vo_nil ?_
  refine hK5 _ ?_
  refine vc_own_nil 4 E22 rfl ?_
  refine vc_totree 3 rfl (by intro x hx; cases hx) ?_
  refine vc_ret ?_
  change retG _ _ _ _ _
  refine retG_one 3 hC rfl rfl rfl rfl rfl ?_
  exact ⟨_, rac_no (fun h => hg1 h.1) rfl⟩
 ·try simp only [zq0, zq1, zq2, zq3, zq4, zq5, zq6, zq7, zq8, zq9, zqa, zqb, zqc, zqd, zqe, zqf] at hg1
  refine vo_guard_on rfl rfl rfl ?_
  refine vo_move_ref rfl rfl ?_
  refine vo_guard_on rfl rfl rfl ?_
  refine vo_call0 Try.func79 rfl rfl rfl rfl (specValidBases0_sat (bases := bases ++ [list]) (by rw [List.length_append, List.length_singleton]; omega) (lens_app1 hlbases hlist)) ?_
  rintro _ _ ⟨rfl, rfl⟩
  refine ⟨rfl, rfl, .inr rfl, ?_⟩
  refine vo_guard_on rfl rfl rfl ?_
  refine vo_not rfl rfl ?_
  refine vo_pick_f rfl rfl ?_
  refine vo_move_pv rfl rfl ?_
  refine vo_split 21 rfl (fun hg2 => ?_) (fun hg2 => ?_)
  ·try simp only [zq0, zq1, zq2, zq3, zq4, zq5, zq6, zq7, zq8, zq9, zqa, zqb, zqc, zqd, zqe, zqf] at hg2
   refine vo_guard_off rfl rfl rfl rfl rfl ?_
   refine vo_guard_off rfl rfl rfl rfl rfl ?_
   refine vo_guard_off rfl rfl rfl rfl rfl ?_
   refine vo_guard_off rfl rfl rfl rfl rfl ?_
   refine vo_guard_off rfl rfl rfl rfl rfl ?_
   refine vo_guard_off rfl rfl rfl rfl rfl ?_
   refine vo_pick_t rfl rfl ?_
   refine vo_nil ?_
   refine hK4 _ ?_
   refine vc_cond_t rfl ?_
   refine vc_seq fun K6 hK6 => ?_
   refine vc_region ?_
   refine vo_assign_pv rfl rfl ?_
   refine vo_assign_pv rfl rfl ?_
   refine vo_nil ?_
   refine hK6 _ ?_
   refine vc_own_nil 4 E22 rfl ?_
   refine vc_totree 3 rfl (by intro x hx; cases hx) ?_
   refine vc_ret ?_
   change retG _ _ _ _ _
   refine retG_one 3 hC rfl rfl rfl rfl rfl ?_
   exact ⟨_, rac_no (fun h => hg2 h.2.1) rfl⟩
  ·try simp only [zq0, zq1, zq2, zq3, zq4, zq5, zq6, zq7, zq8, zq9, zqa, zqb, zqc, zqd, zqe, zqf] at hg2
   have hv2 := hg2
   refine vo_guard_on rfl rfl rfl ?_
   refine vo_move_ref rfl rfl ?_
   refine vo_guard_on rfl rfl rfl ?_
   refine vo_move_pv rfl rfl ?_
   refine vo_guard_on rfl rfl rfl ?_
   refine vo_len_pv rfl rfl Try.underlying22 ?_
   refine vo_guard_on rfl rfl rfl ?_
   refine vo_call [] Try.func108 rfl rfl rfl rfl rfl rfl rfl (orderOf_sat (bases := bases ++ [list]) (by rw [List.length_append, List.length_singleton]; omega) (lens_app1 hlbases hlist) hv2 (bases.map ints).length (by rw [List.length_append, List.length_singleton, List.length_map]; omega)) ?_
   rintro _ _ ⟨nl6, rfl, rfl⟩
   refine ⟨Nat.le_of_ble_eq_true rfl, ⟨rfl, rfl, rfl, rfl⟩, .inr ⟨rfl, rfl⟩, ?_⟩
   refine vo_stN ?_
   refine vo_guard_on rfl rfl rfl ?_
   refine vo_len_ref rfl rfl rfl Try.underlying49 ?_
   refine vo_guard_on rfl rfl rfl ?_
   refine vo_binI rfl rfl rfl rfl trivial ?_
   refine vo_pick_f rfl rfl ?_
   refine vo_nil ?_
   refine hK4 _ ?_
   refine vc_cond rfl (fun hc3 => ?_) (fun hc3 => ?_)
   ·try simp only [zq0, zq1, zq2, zq3, zq4, zq5, zq6, zq7, zq8, zq9, zqa, zqb, zqc, zqd, zqe, zqf] at hc3
    refine vc_seq fun K7 hK7 => ?_
    refine vc_region ?_
    refine vo_assign_pv rfl rfl ?_
    refine vo_assign_pv rfl rfl ?_
    refine vo_nil ?_
    refine hK7 _ ?_
    refine vc_own_nil 4 E22 rfl ?_
    refine vc_totree 4 rfl (by intro x hx; cases hx) ?_
    refine vc_ret ?_
    change retG _ _ _ _ _
    refine retG_one 4 hC rfl rfl rfl rfl rfl ?_
    exact ⟨_, rac_no (fun h => h.2.2 (List.eq_nil_of_length_eq_zero (by omega))) rfl⟩
   ·try simp only [zq0, zq1, zq2, zq3, zq4, zq5, zq6, zq7, zq8, zq9, zqa, zqb, zqc, zqd, zqe, zqf] at hc3
    refine vc_skip ?_
    refine hK3 _ ?_
    refine vc_seq fun K8 hK8 => ?_
    refine vc_region ?_
    refine vo_move_ref rfl rfl ?_
    refine vo_assign_ref rfl rfl ?_
    refine vo_assign_pv rfl rfl ?_
    refine vo_nil ?_
    refine hK8 _ ?_
    refine vc_ret ?_
    change retG _ _ _ _ _
    refine retG_one 0 hC rfl rfl rfl rfl rfl ?_
    have hA : acOK bases list := ⟨hg1, hv2, fun e => hc3 (by simp only [List.length_map, e]; rfl)⟩
    exact ⟨_, rac_yes hA rfl⟩

end Go.Vl

namespace Go.Vl
set_option linter.unusedVariables false
set_option linter.unusedSimpArgs false
open Go.Proofs

def mkLL : Int → List (List Int) → List (List Int)
  | _, [] => []
  | k, l :: r => markL k l.length :: mkLL (k + l.length) r
def mkE : Int → List (List Int) → Int
  | k, [] => k
  | k, l :: r => mkE (k + l.length) r
theorem acR_lens {b : List (List Int)} {l : List Int} {n : Nat} (h : ∀ x ∈ b, x.length < n) (h2 : l.length < n) : ∀ x ∈ acR b l, x.length < n := by
  by_cases h3 : acOK b l
  · rw [acR_yes h3]; exact lens_app1 h h2
  · rw [acR_no h3]; intro x hx; cases hx

end Go.Vl

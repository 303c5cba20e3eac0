/- Part 5 of the texts that the proof of FnPlaceOf is built on. -/
import Derived.Test.YtpiodcmkdehifaaVl4
import Derived.ProofKit
import Derived.OpenShut
import Derived.Below
import Derived.Deep.Matrix
namespace Go.Vl
set_option linter.unusedVariables false
set_option linter.unusedSimpArgs false
open Go.Proofs

theorem hid_in {fs : List (Int × Int)} {i : Nat} (h : i < fs.length) : (i : Int) ∈ idxB (hidB fs) ↔ hidAt fs i (fs.drop (i+1)) = true := by
  unfold idxB
  rw [mem_idxT, hidB_len]
  constructor
  · rintro ⟨j, h1, h2, h3⟩
    have : i = j := by omega
    subst this
    rwa [hidB_get h] at h3
  · intro h2; exact ⟨i, rfl, h, by rw [hidB_get h]; exact h2⟩
theorem hid_asc (b s : List (List Int)) (c : Int) : (hidR b s c).Pairwise (· < ·) := idxT_asc _ _

theorem FnHiddenFields_sat {nl : Option Bool} {c : List (Fin 256)} : SatAt Try.prog 8 [.pv false (.sl nl 1 (c.map byteP))] [] (fun res rows => res = [bo true] ∧ rows = []) := by
  refine sat_entry (ts := [2]) Try.func8 rfl rfl (by decide) (Nat.le_of_ble_eq_true rfl) fun C hC => ?_
  rw [Try.ntmps8]
  replace hC : C.nb = 0 := hC
  refine vc_seq fun K1 hK1 => ?_
  refine vc_region ?_
  refine vo_assign_pv rfl rfl ?_
  refine vo_nil ?_
  refine hK1 _ ?_
  refine vc_seq fun K2 hK2 => ?_
  refine vc_seq fun K3 hK3 => ?_
  refine vc_region ?_
  refine vo_move_pv rfl rfl ?_
  refine vo_len_pv rfl rfl Try.underlying22 ?_
  refine vo_binI rfl rfl rfl rfl trivial ?_
  refine vo_nil ?_
  refine hK3 _ ?_
  refine vc_cond rfl (fun hc1 => ?_) (fun hc1 => ?_)
  · try simp only [decide_eq_true_eq, decide_eq_false_iff_not, beq_iff_eq, bne_iff_ne, beq_eq_false_iff_ne, bne_eq_false_iff_eq, Bool.not_eq_true, Bool.not_eq_false, Bool.not_eq_eq_eq_not, Bool.not_true, Bool.not_false, List.length_map, Int.not_lt, Int.not_le, ne_eq, Decidable.not_not] at hc1
    refine vc_seq fun K4 hK4 => ?_
    refine vc_region ?_
    refine vo_assign_pv rfl rfl ?_
    refine vo_nil ?_
    refine hK4 _ ?_
    refine vc_ret ?_
    change retPv _ _ _ _ _
    refine retPv_mk rfl rfl rfl ⟨?_, rfl⟩
    rfl
  · try simp only [decide_eq_true_eq, decide_eq_false_iff_not, beq_iff_eq, bne_iff_ne, beq_eq_false_iff_ne, bne_eq_false_iff_eq, Bool.not_eq_true, Bool.not_eq_false, Bool.not_eq_eq_eq_not, Bool.not_true, Bool.not_false, List.length_map, Int.not_lt, Int.not_le, ne_eq, Decidable.not_not] at hc1
    refine vc_skip ?_
    refine hK2 _ ?_
    refine vc_seq fun K5 hK5 => ?_
    refine vc_region ?_
    refine vo_move_pv rfl rfl ?_
    refine vo_call [] Try.func31 rfl rfl rfl rfl rfl rfl rfl (DrawHiddenFields_sat (by omega)) ?_
    rintro _ _ ⟨B, S, z, f, ⟨h1, h2, h3, h5, h6, h7, h8⟩, rfl, rfl⟩
    refine ⟨Nat.le_of_ble_eq_true rfl, ⟨rfl, rfl, rfl⟩, .inl rfl, ?_⟩
    refine vo_stN ?_
    refine vo_move rfl ?_
    refine vo_extract rfl rfl rfl ?_
    refine vo_extract rfl rfl rfl ?_
    refine vo_extract rfl rfl rfl ?_
    refine vo_assign_pv rfl rfl ?_
    refine vo_assign_ref rfl rfl ?_
    refine vo_assign_pv rfl rfl ?_
    refine vo_nil ?_
    refine hK5 _ ?_
    refine vc_seq fun K6 hK6 => ?_
    refine vc_region ?_
    refine vo_move_pv rfl rfl ?_
    refine vo_move_ref rfl rfl ?_
    refine vo_move_pv rfl rfl ?_
    refine vo_call [] Try.func32 rfl rfl rfl rfl rfl rfl rfl (implHiddenFields_sat (c := z) (by omega) (lt3 h3) (by omega) (lt3 h8)) ?_
    rintro _ _ ⟨nl10, rfl, rfl⟩
    refine ⟨Nat.le_of_ble_eq_true rfl, ⟨rfl, rfl, rfl⟩, .inr ⟨rfl, rfl⟩, ?_⟩
    refine vo_stN ?_
    refine vo_assign_ref rfl rfl ?_
    refine vo_nil ?_
    refine hK6 _ ?_
    refine vc_seq fun K7 hK7 => ?_
    refine vc_seq fun K8 hK8 => ?_
    refine vc_region ?_
    refine vo_move_ref rfl rfl ?_
    refine vo_move_pv rfl rfl ?_
    refine vo_move_ref rfl rfl ?_
    refine vo_move_pv rfl rfl ?_
    refine vo_call [] Try.func34 rfl rfl rfl rfl rfl rfl rfl (specHiddenFields_sat (c := z) (by omega) (lt3 h3) (by omega) (lt3 h8)) ?_
    rintro _ _ ⟨nl11, rfl, rfl⟩
    refine ⟨Nat.le_of_ble_eq_true rfl, ⟨rfl, rfl, rfl⟩, .inr ⟨rfl, rfl⟩, ?_⟩
    refine vo_stN ?_
    refine vo_call0 Try.func33 rfl rfl rfl rfl (equalInts_sat (a := hidR B S z) (b := hidR B S z) hidR_len hidR_len) ?_
    rintro _ _ ⟨rfl, rfl⟩
    refine ⟨rfl, rfl, .inr rfl, ?_⟩
    refine vo_not rfl rfl ?_
    refine vo_move_pv rfl rfl ?_
    refine vo_split 31 rfl (fun hg2 => ?_) (fun hg2 => ?_)
    · try simp only [decide_eq_true_eq, decide_eq_false_iff_not, beq_iff_eq, bne_iff_ne, beq_eq_false_iff_ne, bne_eq_false_iff_eq, Bool.not_eq_true, Bool.not_eq_false, Bool.not_eq_eq_eq_not, Bool.not_true, Bool.not_false, List.length_map, Int.not_lt, Int.not_le, ne_eq, Decidable.not_not] at hg2
      refine vo_guard_off rfl rfl rfl rfl rfl ?_
      refine vo_guard_off rfl rfl rfl rfl rfl ?_
      refine vo_guard_off rfl rfl rfl rfl rfl ?_
      refine vo_guard_off rfl rfl rfl rfl rfl ?_
      refine vo_guard_off rfl rfl rfl rfl rfl ?_
      refine vo_pick_t rfl rfl ?_
      refine vo_nil ?_
      refine hK8 _ ?_
      refine vc_cond_t rfl ?_
      refine vc_seq fun K9 hK9 => ?_
      refine vc_region ?_
      refine vo_move_ref rfl rfl ?_
      refine vo_move_pv rfl rfl ?_
      refine vo_move_ref rfl rfl ?_
      refine vo_move_pv rfl rfl ?_
      refine vo_call [] Try.func34 rfl rfl rfl rfl rfl rfl rfl (specHiddenFields_sat (c := z) (by omega) (lt3 h3) (by omega) (lt3 h8)) ?_
      rintro _ _ ⟨nl12, rfl, rfl⟩
      refine ⟨Nat.le_of_ble_eq_true rfl, ⟨rfl, rfl, rfl⟩, .inr ⟨rfl, rfl⟩, ?_⟩
      refine vo_stN ?_
      refine vo_call0 Try.func33 rfl rfl rfl rfl (equalInts_sat (a := hidR B S z) (b := hidR B S z) hidR_len hidR_len) ?_
      rintro _ _ ⟨rfl, rfl⟩
      refine ⟨rfl, rfl, .inr rfl, ?_⟩
      refine vo_assign_pv rfl rfl ?_
      refine vo_nil ?_
      refine hK9 _ ?_
      refine vc_ret ?_
      change retPv _ _ _ _ _
      refine retPv_mk rfl rfl rfl ⟨?_, rfl⟩
      first | rfl | exact absurd trivial (by assumption) | exact absurd rfl (by assumption) | (refine (congrArg (fun b => [bo b]) (?_ : _ = _) : [bo _] = [bo _]); exact decide_eq_true rfl)
    · try simp only [decide_eq_true_eq, decide_eq_false_iff_not, beq_iff_eq, bne_iff_ne, beq_eq_false_iff_ne, bne_eq_false_iff_eq, Bool.not_eq_true, Bool.not_eq_false, Bool.not_eq_eq_eq_not, Bool.not_true, Bool.not_false, List.length_map, Int.not_lt, Int.not_le, ne_eq, Decidable.not_not] at hg2
      refine vo_guard_on rfl rfl rfl ?_
      refine vo_move_pv rfl rfl ?_
      refine vo_guard_on rfl rfl rfl ?_
      refine vo_move_ref rfl rfl ?_
      refine vo_guard_on rfl rfl rfl ?_
      refine vo_move_pv rfl rfl ?_
      refine vo_guard_on rfl rfl rfl ?_
      refine vo_call0 Try.func13 rfl rfl rfl rfl (implSolidOf_sat (c := z) (by omega) (lt3 h3) (by omega) (lt3 h8)) ?_
      rintro _ _ ⟨rfl, rfl⟩
      refine ⟨rfl, rfl, .inr rfl, ?_⟩
      refine vo_guard_on rfl rfl rfl ?_
      refine vo_binI rfl rfl rfl rfl trivial ?_
      refine vo_pick_f rfl rfl ?_
      refine vo_nil ?_
      refine hK8 _ ?_
      refine vc_cond rfl (fun hc3 => ?_) (fun hc3 => ?_)
      · try simp only [decide_eq_true_eq, decide_eq_false_iff_not, beq_iff_eq, bne_iff_ne, beq_eq_false_iff_ne, bne_eq_false_iff_eq, Bool.not_eq_true, Bool.not_eq_false, Bool.not_eq_eq_eq_not, Bool.not_true, Bool.not_false, List.length_map, Int.not_lt, Int.not_le, ne_eq, Decidable.not_not] at hc3
        refine vc_seq fun K10 hK10 => ?_
        refine vc_region ?_
        refine vo_move_ref rfl rfl ?_
        refine vo_move_pv rfl rfl ?_
        refine vo_move_ref rfl rfl ?_
        refine vo_move_pv rfl rfl ?_
        refine vo_call [] Try.func34 rfl rfl rfl rfl rfl rfl rfl (specHiddenFields_sat (c := z) (by omega) (lt3 h3) (by omega) (lt3 h8)) ?_
        rintro _ _ ⟨nl12, rfl, rfl⟩
        refine ⟨Nat.le_of_ble_eq_true rfl, ⟨rfl, rfl, rfl⟩, .inr ⟨rfl, rfl⟩, ?_⟩
        refine vo_stN ?_
        refine vo_call0 Try.func33 rfl rfl rfl rfl (equalInts_sat (a := hidR B S z) (b := hidR B S z) hidR_len hidR_len) ?_
        rintro _ _ ⟨rfl, rfl⟩
        refine ⟨rfl, rfl, .inr rfl, ?_⟩
        refine vo_assign_pv rfl rfl ?_
        refine vo_nil ?_
        refine hK10 _ ?_
        refine vc_ret ?_
        change retPv _ _ _ _ _
        refine retPv_mk rfl rfl rfl ⟨?_, rfl⟩
        first | rfl | exact absurd trivial (by assumption) | exact absurd rfl (by assumption) | (refine (congrArg (fun b => [bo b]) (?_ : _ = _) : [bo _] = [bo _]); exact decide_eq_true rfl)
      · try simp only [decide_eq_true_eq, decide_eq_false_iff_not, beq_iff_eq, bne_iff_ne, beq_eq_false_iff_ne, bne_eq_false_iff_eq, Bool.not_eq_true, Bool.not_eq_false, Bool.not_eq_eq_eq_not, Bool.not_true, Bool.not_false, List.length_map, Int.not_lt, Int.not_le, ne_eq, Decidable.not_not] at hc3
        have hq := fldQ_len (b := B) (s := S) (c := z)
        have hqm : ((fldQ B S z).map fldP).length = (fldQ B S z).length := List.length_map ..
        refine vc_expose 0 (by omega) rfl ?_
        refine vc_stN ?_
        refine vc_skip ?_
        refine hK7 _ ?_
        refine vc_seq fun K11 hK11 => ?_
        refine vc_region ?_
        refine vo_move_pv rfl rfl ?_
        refine vo_move_pv rfl rfl ?_
        refine vo_move_pv rfl rfl ?_
        refine vo_call0 Try.func10 rfl rfl rfl rfl (implFieldsOf_sat (c := z) (by omega) (lt3 h3) (by omega) (lt3 h8)) ?_
        rintro _ _ ⟨rfl, rfl⟩
        refine ⟨rfl, rfl, .inl rfl, ?_⟩
        refine vo_assign_pv rfl rfl ?_
        refine vo_nil ?_
        refine hK11 _ ?_
        refine vc_seq fun K12 hK12 => ?_
        refine vc_seq fun K13 hK13 => ?_
        refine vc_region ?_
        refine vo_assign_pv rfl rfl ?_
        refine vo_nil ?_
        refine hK13 _ ?_
        refine vc_block ?_
        refine vc_stN ?_
        refine vc_loopF [6, 7] [8] [.ref 1, _] _ (fun mz vs => ∃ (k : Nat), mz = (fldQ B S z).length - k ∧ (k ≤ (fldQ B S z).length) ∧ vs = [i64 k]) ((fldQ B S z).length) rfl rfl (le_len hC rfl) ⟨rfl, rfl, rfl⟩ ⟨0, rfl, Nat.zero_le _, rfl⟩ ?_
        rintro mz vs - ⟨k, rfl, hk, rfl⟩
        refine vc_stN ?_
        refine vc_seq fun K14 hK14 => ?_
        refine vc_seq fun K15 hK15 => ?_
        refine vc_region ?_
        refine vo_move_pv rfl rfl ?_
        refine vo_move_pv rfl rfl ?_
        refine vo_len_pv rfl rfl Try.underlying26 ?_
        refine vo_binI rfl rfl rfl rfl trivial ?_
        refine vo_nil ?_
        refine hK15 _ ?_
        refine vc_cond rfl (fun hc4 => ?_) (fun hc4 => ?_)
        · try simp only [decide_eq_true_eq, decide_eq_false_iff_not, beq_iff_eq, bne_iff_ne, beq_eq_false_iff_ne, bne_eq_false_iff_eq, Bool.not_eq_true, Bool.not_eq_false, Bool.not_eq_eq_eq_not, Bool.not_true, Bool.not_false, List.length_map, Int.not_lt, Int.not_le, ne_eq, Decidable.not_not] at hc4
          refine vc_skip ?_
          refine hK14 _ ?_
          refine vc_seq fun K16 hK16 => ?_
          refine vc_block ?_
          refine vc_seq fun K17 hK17 => ?_
          refine vc_region ?_
          refine vo_assign_pv rfl rfl ?_
          refine vo_nil ?_
          refine hK17 _ ?_
          refine vc_seq fun K18 hK18 => ?_
          refine vc_seq fun K19 hK19 => ?_
          refine vc_region ?_
          refine vo_move_pv rfl rfl ?_
          refine vo_binI rfl rfl rfl rfl sd ?_
          refine vo_assign_pv rfl rfl ?_
          refine vo_nil ?_
          refine hK19 _ ?_
          refine vc_block ?_
          refine vc_stN ?_
          refine vc_loopF [6, 7, 8] [9, 10] [.ref 1, _, i64 k] _ (fun mz vs => ∃ (j : Nat) (hh : Bool), mz = (fldQ B S z).length - j ∧ ((k + 1 ≤ j ∧ j ≤ (fldQ B S z).length)) ∧ (hh = hidAt (fldQ B S z) k (((fldQ B S z).take j).drop (k+1))) ∧ vs = [bo hh, i64 j]) ((fldQ B S z).length - (k + 1)) rfl rfl (le_len hC rfl) ⟨rfl, rfl, rfl⟩ ⟨k + 1, false, rfl, (by omega), (hidAt_nil _ _), rfl⟩ ?_
          rintro mz vs - ⟨j, hh, rfl, hk2, hh2, rfl⟩
          refine vc_stN ?_
          refine vc_seq fun K20 hK20 => ?_
          refine vc_seq fun K21 hK21 => ?_
          refine vc_region ?_
          refine vo_move_pv rfl rfl ?_
          refine vo_move_pv rfl rfl ?_
          refine vo_len_pv rfl rfl Try.underlying26 ?_
          refine vo_binI rfl rfl rfl rfl trivial ?_
          refine vo_nil ?_
          refine hK21 _ ?_
          refine vc_cond rfl (fun hc5 => ?_) (fun hc5 => ?_)
          · try simp only [decide_eq_true_eq, decide_eq_false_iff_not, beq_iff_eq, bne_iff_ne, beq_eq_false_iff_ne, bne_eq_false_iff_eq, Bool.not_eq_true, Bool.not_eq_false, Bool.not_eq_eq_eq_not, Bool.not_true, Bool.not_false, List.length_map, Int.not_lt, Int.not_le, ne_eq, Decidable.not_not] at hc5
            refine vc_skip ?_
            refine hK20 _ ?_
            refine vc_seq fun K22 hK22 => ?_
            refine vc_block ?_
            refine vc_draw (by kernel_rfl) ?_
            change VD _ _ _ 15 _ _ _
            refine vd_light 0 rfl rfl rfl (by kernel_rfl) (by kernel_rfl) (by kernel_rfl) (wnt_none rfl) (lt_move_pv rfl) ?_
            refine vd_light 1 rfl rfl rfl (by kernel_rfl) (by kernel_rfl) (by kernel_rfl) (wnt_none rfl) (lt_move_pv rfl) ?_
            refine vd_split 63 rfl (fun hg6 => ?_) (fun hg6 => ?_)
            · try simp only [decide_eq_true_eq, decide_eq_false_iff_not, beq_iff_eq, bne_iff_ne, beq_eq_false_iff_ne, bne_eq_false_iff_eq, Bool.not_eq_true, Bool.not_eq_false, Bool.not_eq_eq_eq_not, Bool.not_true, Bool.not_false, List.length_map, Int.not_lt, Int.not_le, ne_eq, Decidable.not_not] at hg6
              refine vd_skip 2 rfl rfl rfl (by kernel_rfl) (by kernel_rfl) (by kernel_rfl) (wnt_off rfl rfl rfl rfl rfl) ?_
              refine vd_skip 3 rfl rfl rfl (by kernel_rfl) (by kernel_rfl) (by kernel_rfl) (wnt_off rfl rfl rfl rfl rfl) ?_
              refine vd_skip 4 rfl rfl rfl (by kernel_rfl) (by kernel_rfl) (by kernel_rfl) (wnt_off rfl rfl rfl rfl rfl) ?_
              refine vd_skip 5 rfl rfl rfl (by kernel_rfl) (by kernel_rfl) (by kernel_rfl) (wnt_off rfl rfl rfl rfl rfl) ?_
              refine vd_skip 6 rfl rfl rfl (by kernel_rfl) (by kernel_rfl) (by kernel_rfl) (wnt_off rfl rfl rfl rfl rfl) ?_
              refine vd_skip 7 rfl rfl rfl (by kernel_rfl) (by kernel_rfl) (by kernel_rfl) (wnt_off rfl rfl rfl rfl rfl) ?_
              refine vd_skip 8 rfl rfl rfl (by kernel_rfl) (by kernel_rfl) (by kernel_rfl) (wnt_off rfl rfl rfl rfl rfl) ?_
              refine vd_skip 9 rfl rfl rfl (by kernel_rfl) (by kernel_rfl) (by kernel_rfl) (wnt_off rfl rfl rfl rfl rfl) ?_
              refine vd_skip 10 rfl rfl rfl (by kernel_rfl) (by kernel_rfl) (by kernel_rfl) (wnt_off rfl rfl rfl rfl rfl) ?_
              refine vd_skip 11 rfl rfl rfl (by kernel_rfl) (by kernel_rfl) (by kernel_rfl) (wnt_off rfl rfl rfl rfl rfl) ?_
              refine vd_skip 12 rfl rfl rfl (by kernel_rfl) (by kernel_rfl) (by kernel_rfl) (wnt_off rfl rfl rfl rfl rfl) ?_
              refine vd_light 13 rfl rfl rfl (by kernel_rfl) (by kernel_rfl) (by kernel_rfl) (wnt_none rfl) (lt_pick_t rfl) ?_
              refine vd_light 14 rfl rfl rfl (by kernel_rfl) (by kernel_rfl) (by kernel_rfl) (wnt_none rfl) (lt_assign_pv rfl) ?_
              refine vd_nil (by kernel_rfl) ?_
              refine hK22 _ ?_
              refine vc_region ?_
              refine vo_move_pv rfl rfl ?_
              refine vo_binI rfl rfl rfl rfl sd ?_
              refine vo_assign_pv rfl rfl ?_
              refine vo_nil ?_
              change againF _ _ _ _ _ _ _ _ _
              refine againF_mk rfl rfl rfl rfl rfl rfl ⟨_, ?_, j + 1, true, rfl, ?_, ?_, rfl⟩
              · omega
              · omega
              · rw [hidAt_take (by omega) (by omega), ← hh2, (by assumption : hh = true)]; rfl
            · try simp only [decide_eq_true_eq, decide_eq_false_iff_not, beq_iff_eq, bne_iff_ne, beq_eq_false_iff_ne, bne_eq_false_iff_eq, Bool.not_eq_true, Bool.not_eq_false, Bool.not_eq_eq_eq_not, Bool.not_true, Bool.not_false, List.length_map, Int.not_lt, Int.not_le, ne_eq, Decidable.not_not] at hg6
              refine vd_light 2 rfl rfl rfl (by kernel_rfl) (by kernel_rfl) (by kernel_rfl) (wnt_on rfl rfl rfl rfl) (lt_move_pv rfl) ?_
              refine vd_light 3 rfl rfl rfl (by kernel_rfl) (by kernel_rfl) (by kernel_rfl) (wnt_on rfl rfl rfl rfl) (lt_move_pv rfl) ?_
              refine vd_light 4 rfl rfl rfl (by kernel_rfl) (by kernel_rfl) (by kernel_rfl) (wnt_on rfl rfl rfl rfl) (lt_index_pv (.agg [(.int .i64 0), (.int .i64 0)]) rfl rfl E26.und inf33 sz33 sd sd) ?_
              simp only [Int.toNat_natCast, Int.toNat_zero, getD_ints, getD_intss, getD_bools, getD_bytes, PV.cells, getD_flds]
              refine vd_light 5 rfl rfl rfl (by kernel_rfl) (by kernel_rfl) (by kernel_rfl) (wnt_on rfl rfl rfl rfl) (lt_fieldAddr_adr rfl Try.underlying33 rfl inf3 (by rw [sz3]; decide)) ?_
              refine vd_light 6 rfl rfl rfl (by kernel_rfl) (by kernel_rfl) (by kernel_rfl) (wnt_on rfl rfl rfl rfl) (lt_load_adr rfl Try.underlying3 rfl) ?_
              refine vd_light 7 rfl rfl rfl (by kernel_rfl) (by kernel_rfl) (by kernel_rfl) (wnt_on rfl rfl rfl rfl) (lt_move_pv rfl) ?_
              refine vd_light 8 rfl rfl rfl (by kernel_rfl) (by kernel_rfl) (by kernel_rfl) (wnt_on rfl rfl rfl rfl) (lt_move_pv rfl) ?_
              refine vd_light 9 rfl rfl rfl (by kernel_rfl) (by kernel_rfl) (by kernel_rfl) (wnt_on rfl rfl rfl rfl) (lt_index_pv (.agg [(.int .i64 0), (.int .i64 0)]) rfl rfl E26.und inf33 sz33 sd sd) ?_
              simp only [Int.toNat_natCast, Int.toNat_zero, getD_ints, getD_intss, getD_bools, getD_bytes, PV.cells, getD_flds]
              refine vd_light 10 rfl rfl rfl (by kernel_rfl) (by kernel_rfl) (by kernel_rfl) (wnt_on rfl rfl rfl rfl) (lt_fieldAddr_adr rfl Try.underlying33 rfl inf3 (by rw [sz3]; decide)) ?_
              refine vd_light 11 rfl rfl rfl (by kernel_rfl) (by kernel_rfl) (by kernel_rfl) (wnt_on rfl rfl rfl rfl) (lt_load_adr rfl Try.underlying3 rfl) ?_
              refine vd_light 12 rfl rfl rfl (by kernel_rfl) (by kernel_rfl) (by kernel_rfl) (wnt_on rfl rfl rfl rfl) (lt_binI rfl rfl rfl trivial) ?_
              refine vd_light 13 rfl rfl rfl (by kernel_rfl) (by kernel_rfl) (by kernel_rfl) (wnt_none rfl) (lt_pick_f rfl) ?_
              refine vd_light 14 rfl rfl rfl (by kernel_rfl) (by kernel_rfl) (by kernel_rfl) (wnt_none rfl) (lt_assign_pv rfl) ?_
              refine vd_nil (by kernel_rfl) ?_
              refine hK22 _ ?_
              refine vc_region ?_
              refine vo_move_pv rfl rfl ?_
              refine vo_binI rfl rfl rfl rfl sd ?_
              refine vo_assign_pv rfl rfl ?_
              refine vo_nil ?_
              change againF _ _ _ _ _ _ _ _ _
              refine againF_mk rfl rfl rfl rfl rfl rfl ⟨_, ?_, j + 1, decide (((fldQ B S z).getD j (0, 0)).2 = ((fldQ B S z).getD k (0, 0)).2), rfl, ?_, ?_, rfl⟩
              · omega
              · omega
              · rw [hidAt_take (by omega) (by omega), ← hh2, (by assumption : hh = false)]; rfl
          · try simp only [decide_eq_true_eq, decide_eq_false_iff_not, beq_iff_eq, bne_iff_ne, beq_eq_false_iff_ne, bne_eq_false_iff_eq, Bool.not_eq_true, Bool.not_eq_false, Bool.not_eq_eq_eq_not, Bool.not_true, Bool.not_false, List.length_map, Int.not_lt, Int.not_le, ne_eq, Decidable.not_not] at hc5
            rw [hidAt_end (by omega)] at hh2
            have hin := hid_in (fs := fldQ B S z) (i := k) (by omega)
            rw [← hh2] at hin
            refine vc_exit ?_
            refine hK18 _ ?_
            refine vc_seq fun K23 hK23 => ?_
            refine vc_region ?_
            refine vo_move_ref rfl rfl ?_
            refine vo_move_pv rfl rfl ?_
            refine vo_call0 Try.func22 rfl rfl rfl rfl (isIn_sat (list := hidR B S z) (n := (k : Int)) hidR_len) ?_
            rintro _ _ ⟨rfl, rfl⟩
            refine ⟨rfl, rfl, .inr rfl, ?_⟩
            refine vo_move_pv rfl rfl ?_
            refine vo_binB rfl rfl rfl rfl Try.underlying4 ?_
            refine vo_nil ?_
            refine hK23 _ ?_
            refine vc_cond rfl (fun hc7 => ?_) (fun hc7 => ?_)
            · try simp only [decide_eq_true_eq, decide_eq_false_iff_not, beq_iff_eq, bne_iff_ne, beq_eq_false_iff_ne, bne_eq_false_iff_eq, Bool.not_eq_true, Bool.not_eq_false, Bool.not_eq_eq_eq_not, Bool.not_true, Bool.not_false, List.length_map, Int.not_lt, Int.not_le, ne_eq, Decidable.not_not] at hc7
              refine vc_seq fun K24 hK24 => ?_
              refine vc_region ?_
              refine vo_assign_pv rfl rfl ?_
              refine vo_nil ?_
              refine hK24 _ ?_
              refine vc_ret ?_
              change retPv _ _ _ _ _
              refine retPv_mk rfl rfl rfl ⟨?_, rfl⟩
              first | rfl | exact absurd trivial (by assumption) | exact absurd rfl (by assumption) | (refine (congrArg (fun b => [bo b]) (?_ : _ = _) : [bo _] = [bo _]); exact decide_eq_true rfl) | (rw [hb1 (hid_asc B S z)]; rfl) | exact absurd (show decide ((k : Int) ∈ hidR B S z) = hh by unfold hidR; cases hh <;> simp [hin]) hc7
            · try simp only [decide_eq_true_eq, decide_eq_false_iff_not, beq_iff_eq, bne_iff_ne, beq_eq_false_iff_ne, bne_eq_false_iff_eq, Bool.not_eq_true, Bool.not_eq_false, Bool.not_eq_eq_eq_not, Bool.not_true, Bool.not_false, List.length_map, Int.not_lt, Int.not_le, ne_eq, Decidable.not_not] at hc7
              refine vc_skip ?_
              refine hK16 _ ?_
              refine vc_region ?_
              refine vo_move_pv rfl rfl ?_
              refine vo_binI rfl rfl rfl rfl sd ?_
              refine vo_assign_pv rfl rfl ?_
              refine vo_nil ?_
              change againF _ _ _ _ _ _ _ _ _
              refine againF_mk rfl rfl rfl rfl rfl rfl ⟨_, ?_, k + 1, rfl, ?_, rfl⟩
              · omega
              · omega
        · try simp only [decide_eq_true_eq, decide_eq_false_iff_not, beq_iff_eq, bne_iff_ne, beq_eq_false_iff_ne, bne_eq_false_iff_eq, Bool.not_eq_true, Bool.not_eq_false, Bool.not_eq_eq_eq_not, Bool.not_true, Bool.not_false, List.length_map, Int.not_lt, Int.not_le, ne_eq, Decidable.not_not] at hc4
          refine vc_exit ?_
          refine hK12 _ ?_
          refine vc_seq fun K25 hK25 => ?_
          refine vc_region ?_
          refine vo_move_ref rfl rfl ?_
          refine vo_call0 Try.func35 rfl rfl rfl rfl (ascends_sat (list := hidR B S z) hidR_len) ?_
          rintro _ _ ⟨b1, hb1, rfl, rfl⟩
          refine ⟨rfl, rfl, .inr rfl, ?_⟩
          refine vo_assign_pv rfl rfl ?_
          refine vo_nil ?_
          refine hK25 _ ?_
          refine vc_ret ?_
          change retPv _ _ _ _ _
          refine retPv_mk rfl rfl rfl ⟨?_, rfl⟩
          first | rfl | exact absurd trivial (by assumption) | exact absurd rfl (by assumption) | (refine (congrArg (fun b => [bo b]) (?_ : _ = _) : [bo _] = [bo _]); exact decide_eq_true rfl) | (rw [hb1 (hid_asc B S z)]; rfl) | exact absurd (show decide ((k : Int) ∈ hidR B S z) = hh by unfold hidR; cases hh <;> simp [hin]) hc7

end Go.Vl

namespace Go.Vl
set_option linter.unusedVariables false
set_option linter.unusedSimpArgs false
open Go.Proofs

theorem fld_sol {b s : List (List Int)} (hs : VS b s) {c : Nat} (hc : c < b.length) (h : 0 ≤ solM b s c) : fldM b s (solM b s c).toNat = fldM b s c := by
  have hid := solM_idem hs c hc h
  have hlt := solM_lt hs hc
  rw [fld_chn hs (solM b s c).toNat (by omega) (by omega), fld_chn hs c hc h, chn_same hs (by omega) hc hid]
theorem fld_pre {b s : List (List Int)} (hs : VS b s) : ∀ c : Nat, c < b.length → 0 ≤ solM b s c → ∀ x ∈ abvR b c, 0 ≤ solM b s x.toNat ∧ fldM b s x.toNat <+: fldM b s c := by
  intro c
  induction c using Nat.strongRecOn with
  | ind c ih =>
    intro hc h x hx
    rcases abvR_cases hs.1 hx with rfl | ⟨d, hd, hxd⟩
    · rw [Int.toNat_natCast]; exact ⟨h, List.prefix_refl _⟩
    · have hc0 : c ≠ 0 := by intro e; subst e; rw [hs.1.2.2.1] at hd; cases hd
      have hdb := hs.1.bd hd
      obtain ⟨h1, h2⟩ := bst_spec hs hc hc0
      have hb := h1.2 h
      obtain ⟨g1, g2, g3, g4⟩ := h2 hb
      have h00 : (0 : Int) ∈ abvR b 0 := abvR_self hs.1 (by omega) (by omega)
      obtain ⟨_, _, p3⟩ := solF_pos (solL b s c) 0 h00 g4
      have hmd : solM b s d.toNat ∈ abvR b (solF b 0 (solL b s c)) := p3 _ (solL_mem.2 ⟨d, hd, rfl⟩)
      have hmd2 := (abvR_mem hmd).2
      have hsd : 0 ≤ solM b s d.toNat := hmd2.1
      have hsb : 0 ≤ solM b s (bstM b s c).toNat := by omega
      obtain ⟨k1, k2⟩ := ih d.toNat (by omega) (by omega) hsd x (by rwa [show ((d.toNat : Nat) : Int) = d by omega])
      refine ⟨k1, k2.trans ?_⟩
      have hle := solM_lt hs (show (bstM b s c).toNat < b.length by omega)
      have hG := (abvR_mem (solM_G hs (show (bstM b s c).toNat < b.length by omega) hsb).above).2
      have hdm : fldM b s d.toNat <+: fldM b s (bstM b s c).toNat := by
        rw [← fld_sol hs (show d.toNat < b.length by omega) hsd, ← fld_sol hs (show (bstM b s c).toNat < b.length by omega) hsb]
        exact (ih (solM b s (bstM b s c).toNat).toNat (by omega) (by omega) (by rw [solM_idem hs _ (by omega) hsb]; exact hsb) (solM b s d.toNat) (by
          rw [show (((solM b s (bstM b s c).toNat).toNat : Nat) : Int) = solM b s (bstM b s c).toNat by omega, g3]; exact hmd)).2
      rw [fldM_eq hs hc hb]
      exact hdm.trans (List.prefix_append _ _)
theorem fldQ_M {B S : List (List Int)} {z : Int} (h : 0 ≤ solR B S z) : fldQ B S z = fldM B S z.toNat := by unfold fldQ; rw [if_pos h]
theorem fldQ_pre {B S : List (List Int)} {z x : Int} (h : 0 ≤ solR B S z) (hx : x ∈ abvR B z) : 0 ≤ solR B S x ∧ fldQ B S x <+: fldQ B S z := by
  obtain ⟨⟨hv, h0, h1⟩, hm⟩ := solR_ok h
  have hxb := (abvR_mem hx).2
  have e0 : ((z.toNat : Nat) : Int) = z := by omega
  obtain ⟨k1, k2⟩ := fld_pre hv z.toNat (by omega) hm x (by rw [e0]; exact hx)
  have k3 : 0 ≤ solR B S x := by rw [solR_val ⟨hv, by omega, by omega⟩]; exact k1
  exact ⟨k3, by rw [fldQ_M h, fldQ_M k3]; exact k2⟩
theorem fldQ_tail {B S : List (List Int)} {z : Int} (h : 0 ≤ solR B S z) : ∃ P, fldQ B S z = P ++ (S.getD z.toNat []).map (fun n => (z, n)) := by
  obtain ⟨⟨hv, h0, h1⟩, hm⟩ := solR_ok h
  rw [fldQ_M h]
  by_cases hz : z.toNat = 0
  · rw [hz, hv.2.2.1]; exact ⟨fldM B S 0, by simp⟩
  · have hb := (bst_spec hv (c := z.toNat) (by omega) hz).1.2 hm
    rw [fldM_eq hv (by omega) hb, show ((z.toNat : Nat) : Int) = z by omega]
    exact ⟨_, rfl⟩
theorem fldQ_same {B S : List (List Int)} {z : Int} (h : 0 ≤ solR B S z) : fldQ B S (solR B S z) = fldQ B S z := by
  have hq := solL_of h
  exact bec_fld ⟨by rw [hq.same]; exact h, hq.same⟩
theorem pre_take {a b : List (Int × Int)} (h : a <+: b) : a.length ≤ b.length ∧ b.take a.length = a := by
  obtain ⟨t, rfl⟩ := h
  exact ⟨by rw [List.length_append]; omega, List.take_left' rfl⟩
theorem tail_at {P : List (Int × Int)} {l : List Int} {z : Int} {i : Nat} (h : i < l.length) : (P ++ l.map fun n => (z, n)).getD ((P ++ l.map fun n => (z, n)).length - l.length + i) (0, 0) = (z, l.getD i 0) := by
  have e : (P ++ l.map fun n => (z, n)).length - l.length + i = P.length + i := by rw [List.length_append, List.length_map]; omega
  rw [e]
  simp [List.getD, List.getElem?_append_right, h]
theorem lens3 {B : List (List Int)} (h : ∀ l ∈ B, l.length ≤ 3) (n : Nat) : (B.getD n []).length ≤ 3 := by
  by_cases hn : n < B.length
  · exact h _ (getD_mem hn [])
  · simp [List.getD, List.getElem?_eq_none (by omega : B.length ≤ n)]
theorem tail_ix {a b k : Nat} (h : b ≤ a) : ((a : Int) - (b : Int) + (k : Int)).toNat = a - b + k := by omega
theorem tail_len {P : List (Int × Int)} {l : List Int} {z : Int} : l.length ≤ (P ++ l.map fun n => (z, n)).length := by rw [List.length_append, List.length_map]; omega

theorem specFieldsOf_sat {nl0 : Option Bool} {bases : List (List Int)} {nl1 : Option Bool} {slots : List (List Int)} {c : Int} (hbases : bases.length < 1000000000) (hlbases : ∀ l ∈ bases, l.length < 1000000000) (hslots : slots.length < 1000000000) (hlslots : ∀ l ∈ slots, l.length < 1000000000) : SatAt Try.prog 12 [.pv false (.sl nl0 1 (bases.map ints)), .pv false (.sl nl1 1 (slots.map ints)), i64 c] [] (fun res rows => ∃ nl, res = [.ref 0] ∧ rows = [Row.own 33 2 nl true ((fldQ bases slots c).map fldP)]) := by
  refine sat_entry_g (ts := [6]) Try.func12 rfl rfl (by decide) (Nat.le_of_ble_eq_true rfl) fun C hC => ?_
  rw [Try.ntmps12]
  replace hC : C.nb = 0 := hC
  refine vc_seq fun K1 hK1 => ?_
  refine vc_region ?_
  refine vo_assign_pv rfl rfl ?_
  refine vo_nil ?_
  refine hK1 _ ?_
  refine vc_seq fun K2 hK2 => ?_
  refine vc_seq fun K3 hK3 => ?_
  refine vc_region ?_
  refine vo_move_pv rfl rfl ?_
  refine vo_move_pv rfl rfl ?_
  refine vo_move_pv rfl rfl ?_
  refine vo_call0 Try.func39 rfl rfl rfl rfl (validField_sat hbases hlbases hslots hlslots) ?_
  rintro _ _ ⟨rfl, rfl⟩
  refine ⟨rfl, rfl, .inl rfl, ?_⟩
  refine vo_not rfl rfl ?_
  refine vo_move_pv rfl rfl ?_
  refine vo_split 12 rfl (fun hg1 => ?_) (fun hg1 => ?_)
  · try simp only [decide_eq_true_eq, decide_eq_false_iff_not, beq_iff_eq, bne_iff_ne, beq_eq_false_iff_ne, bne_eq_false_iff_eq, Bool.not_eq_true, Bool.not_eq_false, Bool.not_eq_eq_eq_not, Bool.not_true, Bool.not_false, List.length_map, Int.not_lt, Int.not_le, ne_eq, Decidable.not_not] at hg1
    refine vo_guard_off rfl rfl rfl rfl rfl ?_
    refine vo_guard_off rfl rfl rfl rfl rfl ?_
    refine vo_guard_off rfl rfl rfl rfl rfl ?_
    refine vo_guard_off rfl rfl rfl rfl rfl ?_
    refine vo_guard_off rfl rfl rfl rfl rfl ?_
    refine vo_pick_t rfl rfl ?_
    refine vo_nil ?_
    refine hK3 _ ?_
    refine vc_cond_t rfl ?_
    refine vc_seq fun K4 hK4 => ?_
    refine vc_region ?_
    refine vo_assign_pv rfl rfl ?_
    refine vo_nil ?_
    refine hK4 _ ?_
    refine vc_own_nil 6 E26 rfl ?_
    refine vc_ret ?_
    change retG _ _ _ _ _
    refine retG_one 0 hC rfl rfl rfl rfl rfl ?_
    have hno : solR bases slots c < 0 := by rw [solR_no hg1]; omega
    rw [fldQ_no hno]; exact ⟨_, rfl, rfl⟩
  · try simp only [decide_eq_true_eq, decide_eq_false_iff_not, beq_iff_eq, bne_iff_ne, beq_eq_false_iff_ne, bne_eq_false_iff_eq, Bool.not_eq_true, Bool.not_eq_false, Bool.not_eq_eq_eq_not, Bool.not_true, Bool.not_false, List.length_map, Int.not_lt, Int.not_le, ne_eq, Decidable.not_not] at hg1
    obtain ⟨hs, h0, h1⟩ := hg1
    obtain ⟨n, rfl⟩ := Int.eq_ofNat_of_zero_le h0
    have hn : n < bases.length := by omega
    refine vo_guard_on rfl rfl rfl ?_
    refine vo_move_pv rfl rfl ?_
    refine vo_guard_on rfl rfl rfl ?_
    refine vo_move_pv rfl rfl ?_
    refine vo_guard_on rfl rfl rfl ?_
    refine vo_move_pv rfl rfl ?_
    refine vo_guard_on rfl rfl rfl ?_
    refine vo_call0 Try.func40 rfl rfl rfl rfl (solid_satN hbases hlbases hslots hlslots hs n hn) ?_
    rintro _ _ ⟨rfl, rfl⟩
    refine ⟨rfl, rfl, .inl rfl, ?_⟩
    refine vo_guard_on rfl rfl rfl ?_
    refine vo_binI rfl rfl rfl rfl trivial ?_
    refine vo_pick_f rfl rfl ?_
    refine vo_nil ?_
    refine hK3 _ ?_
    refine vc_cond rfl (fun hc2 => ?_) (fun hc2 => ?_)
    · try simp only [decide_eq_true_eq, decide_eq_false_iff_not, beq_iff_eq, bne_iff_ne, beq_eq_false_iff_ne, bne_eq_false_iff_eq, Bool.not_eq_true, Bool.not_eq_false, Bool.not_eq_eq_eq_not, Bool.not_true, Bool.not_false, List.length_map, Int.not_lt, Int.not_le, ne_eq, Decidable.not_not] at hc2
      refine vc_seq fun K5 hK5 => ?_
      refine vc_region ?_
      refine vo_assign_pv rfl rfl ?_
      refine vo_nil ?_
      refine hK5 _ ?_
      refine vc_own_nil 6 E26 rfl ?_
      refine vc_ret ?_
      change retG _ _ _ _ _
      refine retG_one 0 hC rfl rfl rfl rfl rfl ?_
      have hno : solR bases slots n < 0 := by rw [solR_of hs hn]; omega
      rw [fldQ_no hno]; exact ⟨_, rfl, rfl⟩
    · try simp only [decide_eq_true_eq, decide_eq_false_iff_not, beq_iff_eq, bne_iff_ne, beq_eq_false_iff_ne, bne_eq_false_iff_eq, Bool.not_eq_true, Bool.not_eq_false, Bool.not_eq_eq_eq_not, Bool.not_true, Bool.not_false, List.length_map, Int.not_lt, Int.not_le, ne_eq, Decidable.not_not] at hc2
      have hfl := fldQ_of hs hn (by omega)
      have hle := fieldsM_len hs hn
      refine vc_skip ?_
      refine hK2 _ ?_
      refine vc_seq fun K6 hK6 => ?_
      refine vc_region ?_
      refine vo_move_pv rfl rfl ?_
      refine vo_move_pv rfl rfl ?_
      refine vo_move_pv rfl rfl ?_
      refine vo_call [] Try.func41 rfl rfl rfl rfl rfl rfl rfl (fields_sat hbases hlbases hslots hlslots hs hn) ?_
      rintro _ _ ⟨nl9, rfl, rfl⟩
      refine ⟨Nat.le_of_ble_eq_true rfl, ⟨rfl, rfl, rfl⟩, .inl rfl, ?_⟩
      refine vo_stN ?_
      refine vo_assign_ref rfl rfl ?_
      refine vo_nil ?_
      refine hK6 _ ?_
      refine vc_ret ?_
      change retG _ _ _ _ _
      refine retG_one 0 hC rfl rfl rfl rfl rfl ?_
      rw [hfl]; exact ⟨_, rfl, rfl⟩


theorem FnFieldsOf_sat {nl : Option Bool} {c : List (Fin 256)} : SatAt Try.prog 3 [.pv false (.sl nl 1 (c.map byteP))] [] (fun res rows => res = [bo true] ∧ rows = []) := by
  refine sat_entry (ts := [2]) Try.func3 rfl rfl (by decide) (Nat.le_of_ble_eq_true rfl) fun C hC => ?_
  rw [Try.ntmps3]
  replace hC : C.nb = 0 := hC
  refine vc_seq fun K1 hK1 => ?_
  refine vc_region ?_
  refine vo_assign_pv rfl rfl ?_
  refine vo_nil ?_
  refine hK1 _ ?_
  refine vc_seq fun K2 hK2 => ?_
  refine vc_seq fun K3 hK3 => ?_
  refine vc_region ?_
  refine vo_move_pv rfl rfl ?_
  refine vo_len_pv rfl rfl Try.underlying22 ?_
  refine vo_binI rfl rfl rfl rfl trivial ?_
  refine vo_nil ?_
  refine hK3 _ ?_
  refine vc_cond rfl (fun hc1 => ?_) (fun hc1 => ?_)
  · try simp only [decide_eq_true_eq, decide_eq_false_iff_not, beq_iff_eq, bne_iff_ne, beq_eq_false_iff_ne, bne_eq_false_iff_eq, Bool.not_eq_true, Bool.not_eq_false, Bool.not_eq_eq_eq_not, Bool.not_true, Bool.not_false, List.length_map, Int.not_lt, Int.not_le, ne_eq, Decidable.not_not] at hc1
    refine vc_seq fun K4 hK4 => ?_
    refine vc_region ?_
    refine vo_assign_pv rfl rfl ?_
    refine vo_nil ?_
    refine hK4 _ ?_
    refine vc_ret ?_
    change retPv _ _ _ _ _
    refine retPv_mk rfl rfl rfl ⟨?_, rfl⟩
    rfl
  · try simp only [decide_eq_true_eq, decide_eq_false_iff_not, beq_iff_eq, bne_iff_ne, beq_eq_false_iff_ne, bne_eq_false_iff_eq, Bool.not_eq_true, Bool.not_eq_false, Bool.not_eq_eq_eq_not, Bool.not_true, Bool.not_false, List.length_map, Int.not_lt, Int.not_le, ne_eq, Decidable.not_not] at hc1
    refine vc_skip ?_
    refine hK2 _ ?_
    refine vc_seq fun K5 hK5 => ?_
    refine vc_region ?_
    refine vo_move_pv rfl rfl ?_
    refine vo_call [] Try.func9 rfl rfl rfl rfl rfl rfl rfl (DrawFieldsOf_sat (by omega)) ?_
    rintro _ _ ⟨B, S, z, f, ⟨h1, h2, h3, h5, h6, h7, h8⟩, rfl, rfl⟩
    refine ⟨Nat.le_of_ble_eq_true rfl, ⟨rfl, rfl, rfl⟩, .inl rfl, ?_⟩
    refine vo_stN ?_
    refine vo_move rfl ?_
    refine vo_extract rfl rfl rfl ?_
    refine vo_extract rfl rfl rfl ?_
    refine vo_extract rfl rfl rfl ?_
    refine vo_assign_pv rfl rfl ?_
    refine vo_assign_ref rfl rfl ?_
    refine vo_expose 0 (by omega) rfl ?_
    refine vo_stN ?_
    refine vo_assign_pv rfl rfl ?_
    refine vo_nil ?_
    refine hK5 _ ?_
    refine vc_seq fun K6 hK6 => ?_
    refine vc_region ?_
    refine vo_move_pv rfl rfl ?_
    refine vo_move_pv rfl rfl ?_
    refine vo_move_pv rfl rfl ?_
    refine vo_call0 Try.func10 rfl rfl rfl rfl (implFieldsOf_sat (c := z) (by omega) (lt3 h3) (by omega) (lt3 h8)) ?_
    rintro _ _ ⟨rfl, rfl⟩
    refine ⟨rfl, rfl, .inl rfl, ?_⟩
    refine vo_assign_pv rfl rfl ?_
    refine vo_nil ?_
    refine hK6 _ ?_
    refine vc_seq fun K7 hK7 => ?_
    refine vc_seq fun K8 hK8 => ?_
    refine vc_region ?_
    refine vo_move_pv rfl rfl ?_
    refine vo_move_pv rfl rfl ?_
    refine vo_move_pv rfl rfl ?_
    refine vo_move_pv rfl rfl ?_
    refine vo_call [] Try.func12 rfl rfl rfl rfl rfl rfl rfl (specFieldsOf_sat (c := z) (by omega) (lt3 h3) (by omega) (lt3 h8)) ?_
    rintro _ _ ⟨nl10, rfl, rfl⟩
    refine ⟨Nat.le_of_ble_eq_true rfl, ⟨rfl, rfl, rfl⟩, .inl rfl, ?_⟩
    refine vo_stN ?_
    refine vo_call0 Try.func11 rfl rfl rfl rfl (equalFields_sat (a := (fldQ B S z)) (b := (fldQ B S z)) (Nat.lt_of_le_of_lt fldQ_len (by decide)) (Nat.lt_of_le_of_lt fldQ_len (by decide))) ?_
    rintro _ _ ⟨rfl, rfl⟩
    refine ⟨rfl, rfl, .inr rfl, ?_⟩
    refine vo_not rfl rfl ?_
    refine vo_move_pv rfl rfl ?_
    refine vo_split 32 rfl (fun hg2 => ?_) (fun hg2 => ?_)
    · try simp only [decide_eq_true_eq, decide_eq_false_iff_not, beq_iff_eq, bne_iff_ne, beq_eq_false_iff_ne, bne_eq_false_iff_eq, Bool.not_eq_true, Bool.not_eq_false, Bool.not_eq_eq_eq_not, Bool.not_true, Bool.not_false, List.length_map, Int.not_lt, Int.not_le, ne_eq, Decidable.not_not] at hg2
      refine vo_guard_off rfl rfl rfl rfl rfl ?_
      refine vo_guard_off rfl rfl rfl rfl rfl ?_
      refine vo_guard_off rfl rfl rfl rfl rfl ?_
      refine vo_guard_off rfl rfl rfl rfl rfl ?_
      refine vo_guard_off rfl rfl rfl rfl rfl ?_
      refine vo_pick_t rfl rfl ?_
      refine vo_nil ?_
      refine hK8 _ ?_
      refine vc_cond_t rfl ?_
      refine vc_seq fun K9 hK9 => ?_
      refine vc_region ?_
      refine vo_move_pv rfl rfl ?_
      refine vo_move_pv rfl rfl ?_
      refine vo_move_pv rfl rfl ?_
      refine vo_move_pv rfl rfl ?_
      refine vo_call [] Try.func12 rfl rfl rfl rfl rfl rfl rfl (specFieldsOf_sat (c := z) (by omega) (lt3 h3) (by omega) (lt3 h8)) ?_
      rintro _ _ ⟨nl11, rfl, rfl⟩
      refine ⟨Nat.le_of_ble_eq_true rfl, ⟨rfl, rfl, rfl⟩, .inl rfl, ?_⟩
      refine vo_stN ?_
      refine vo_call0 Try.func11 rfl rfl rfl rfl (equalFields_sat (a := (fldQ B S z)) (b := (fldQ B S z)) (Nat.lt_of_le_of_lt fldQ_len (by decide)) (Nat.lt_of_le_of_lt fldQ_len (by decide))) ?_
      rintro _ _ ⟨rfl, rfl⟩
      refine ⟨rfl, rfl, .inr rfl, ?_⟩
      refine vo_assign_pv rfl rfl ?_
      refine vo_nil ?_
      refine hK9 _ ?_
      refine vc_ret ?_
      change retPv _ _ _ _ _
      refine retPv_mk rfl rfl rfl ⟨?_, rfl⟩
      first | rfl | exact absurd trivial (by assumption) | exact absurd rfl (by assumption) | (refine (congrArg (fun b => [bo b]) (?_ : _ = _) : [bo _] = [bo _]); exact decide_eq_true rfl) | exact absurd hsame (by assumption) | (refine (congrArg (fun b => [bo b]) (?_ : _ = _) : [bo _] = [bo _]); exact decide_eq_true hsame) | (exfalso; omega) | (exfalso; rw [tail_ix htl, hT] at hc9; simp at hc9; done)
    · try simp only [decide_eq_true_eq, decide_eq_false_iff_not, beq_iff_eq, bne_iff_ne, beq_eq_false_iff_ne, bne_eq_false_iff_eq, Bool.not_eq_true, Bool.not_eq_false, Bool.not_eq_eq_eq_not, Bool.not_true, Bool.not_false, List.length_map, Int.not_lt, Int.not_le, ne_eq, Decidable.not_not] at hg2
      refine vo_guard_on rfl rfl rfl ?_
      refine vo_move_pv rfl rfl ?_
      refine vo_guard_on rfl rfl rfl ?_
      refine vo_move_pv rfl rfl ?_
      refine vo_guard_on rfl rfl rfl ?_
      refine vo_move_pv rfl rfl ?_
      refine vo_guard_on rfl rfl rfl ?_
      refine vo_call0 Try.func13 rfl rfl rfl rfl (implSolidOf_sat (c := z) (by omega) (lt3 h3) (by omega) (lt3 h8)) ?_
      rintro _ _ ⟨rfl, rfl⟩
      refine ⟨rfl, rfl, .inl rfl, ?_⟩
      refine vo_guard_on rfl rfl rfl ?_
      refine vo_binI rfl rfl rfl rfl trivial ?_
      refine vo_pick_f rfl rfl ?_
      refine vo_nil ?_
      refine hK8 _ ?_
      refine vc_cond rfl (fun hc3 => ?_) (fun hc3 => ?_)
      · try simp only [decide_eq_true_eq, decide_eq_false_iff_not, beq_iff_eq, bne_iff_ne, beq_eq_false_iff_ne, bne_eq_false_iff_eq, Bool.not_eq_true, Bool.not_eq_false, Bool.not_eq_eq_eq_not, Bool.not_true, Bool.not_false, List.length_map, Int.not_lt, Int.not_le, ne_eq, Decidable.not_not] at hc3
        refine vc_seq fun K10 hK10 => ?_
        refine vc_region ?_
        refine vo_move_pv rfl rfl ?_
        refine vo_move_pv rfl rfl ?_
        refine vo_move_pv rfl rfl ?_
        refine vo_move_pv rfl rfl ?_
        refine vo_call [] Try.func12 rfl rfl rfl rfl rfl rfl rfl (specFieldsOf_sat (c := z) (by omega) (lt3 h3) (by omega) (lt3 h8)) ?_
        rintro _ _ ⟨nl11, rfl, rfl⟩
        refine ⟨Nat.le_of_ble_eq_true rfl, ⟨rfl, rfl, rfl⟩, .inl rfl, ?_⟩
        refine vo_stN ?_
        refine vo_call0 Try.func11 rfl rfl rfl rfl (equalFields_sat (a := (fldQ B S z)) (b := (fldQ B S z)) (Nat.lt_of_le_of_lt fldQ_len (by decide)) (Nat.lt_of_le_of_lt fldQ_len (by decide))) ?_
        rintro _ _ ⟨rfl, rfl⟩
        refine ⟨rfl, rfl, .inr rfl, ?_⟩
        refine vo_assign_pv rfl rfl ?_
        refine vo_nil ?_
        refine hK10 _ ?_
        refine vc_ret ?_
        change retPv _ _ _ _ _
        refine retPv_mk rfl rfl rfl ⟨?_, rfl⟩
        first | rfl | exact absurd trivial (by assumption) | exact absurd rfl (by assumption) | (refine (congrArg (fun b => [bo b]) (?_ : _ = _) : [bo _] = [bo _]); exact decide_eq_true rfl) | exact absurd hsame (by assumption) | (refine (congrArg (fun b => [bo b]) (?_ : _ = _) : [bo _] = [bo _]); exact decide_eq_true hsame) | (exfalso; omega) | (exfalso; rw [tail_ix htl, hT] at hc9; simp at hc9; done)
      · try simp only [decide_eq_true_eq, decide_eq_false_iff_not, beq_iff_eq, bne_iff_ne, beq_eq_false_iff_ne, bne_eq_false_iff_eq, Bool.not_eq_true, Bool.not_eq_false, Bool.not_eq_eq_eq_not, Bool.not_true, Bool.not_false, List.length_map, Int.not_lt, Int.not_le, ne_eq, Decidable.not_not] at hc3
        have hsr : 0 ≤ solR B S z := by omega
        have hal := abvR_len (b := B) (c := z) (show B.length < 1000000000 by omega)
        obtain ⟨P, hP⟩ := fldQ_tail hsr
        have hsame := fldQ_same hsr
        obtain ⟨⟨hvs, hz0, hz1⟩, hm⟩ := solR_ok hsr
        have hq := fldQ_len (b := B) (s := S) (c := z)
        have htl : (S.getD z.toNat []).length ≤ (fldQ B S z).length := by rw [hP]; exact tail_len
        have hs3 : (S.getD z.toNat []).length ≤ 3 := lens3 h8 _
        have hqm : ((fldQ B S z).map fldP).length = (fldQ B S z).length := List.length_map ..
        have hsm : (List.map intP (S.getD z.toNat [])).length = (S.getD z.toNat []).length := List.length_map ..
        refine vc_skip ?_
        refine hK7 _ ?_
        refine vc_seq fun K11 hK11 => ?_
        refine vc_region ?_
        refine vo_move_pv rfl rfl ?_
        refine vo_move_pv rfl rfl ?_
        refine vo_call [] Try.func14 rfl rfl rfl rfl rfl rfl rfl (implAboveOf_sat (c := z) (by omega) (lt3 h3)) ?_
        rintro _ _ ⟨nl6, rfl, rfl⟩
        refine ⟨Nat.le_of_ble_eq_true rfl, ⟨rfl, rfl, rfl⟩, .inl rfl, ?_⟩
        refine vo_stN ?_
        refine vo_assign_ref rfl rfl ?_
        refine vo_nil ?_
        refine hK11 _ ?_
        refine vc_seq fun K12 hK12 => ?_
        refine vc_seq fun K13 hK13 => ?_
        refine vc_region ?_
        refine vo_assign_pv rfl rfl ?_
        refine vo_nil ?_
        refine hK13 _ ?_
        refine vc_block ?_
        refine vc_stN ?_
        refine vc_loopF [3, 4, 5, 6, 7] [8] [_, _, _, _, .ref 2] _ (fun mz vs => ∃ (k : Nat), mz = (abvR B z).length - k ∧ (k ≤ (abvR B z).length) ∧ vs = [i64 k]) ((abvR B z).length) rfl rfl (le_len hC rfl) ⟨rfl, rfl, rfl⟩ ⟨0, rfl, Nat.zero_le _, rfl⟩ ?_
        rintro mz vs - ⟨k, rfl, hk, rfl⟩
        refine vc_stN ?_
        refine vc_seq fun K14 hK14 => ?_
        refine vc_seq fun K15 hK15 => ?_
        refine vc_region ?_
        refine vo_move_pv rfl rfl ?_
        refine vo_move_ref rfl rfl ?_
        refine vo_len_ref rfl rfl rfl Try.underlying30 ?_
        refine vo_binI rfl rfl rfl rfl trivial ?_
        refine vo_nil ?_
        refine hK15 _ ?_
        refine vc_cond rfl (fun hc4 => ?_) (fun hc4 => ?_)
        · try simp only [decide_eq_true_eq, decide_eq_false_iff_not, beq_iff_eq, bne_iff_ne, beq_eq_false_iff_ne, bne_eq_false_iff_eq, Bool.not_eq_true, Bool.not_eq_false, Bool.not_eq_eq_eq_not, Bool.not_true, Bool.not_false, List.length_map, Int.not_lt, Int.not_le, ne_eq, Decidable.not_not] at hc4
          obtain ⟨hp1, hp2⟩ := fldQ_pre hsr (getD_mem (show k < (abvR B z).length by omega) 0)
          obtain ⟨hp3, hp4⟩ := pre_take hp2
          refine vc_skip ?_
          refine hK14 _ ?_
          refine vc_seq fun K16 hK16 => ?_
          refine vc_block ?_
          refine vc_seq fun K17 hK17 => ?_
          refine vc_region ?_
          refine vo_move_pv rfl rfl ?_
          refine vo_move_pv rfl rfl ?_
          refine vo_move_ref rfl rfl ?_
          refine vo_move_pv rfl rfl ?_
          refine vo_index_ref rfl rfl rfl rfl E30.und inf3 sz3 sd sd ?_
          try simp only [Int.toNat_natCast]
          refine vo_load_own rfl rfl rfl Try.underlying3 rfl sd (getD_ints _ _) rfl ?_
          try simp only [Int.toNat_natCast]
          refine vo_call0 Try.func10 rfl rfl rfl rfl (implFieldsOf_sat (c := ((abvR B z).getD k 0)) (by omega) (lt3 h3) (by omega) (lt3 h8)) ?_
          rintro _ _ ⟨rfl, rfl⟩
          refine ⟨rfl, rfl, .inl rfl, ?_⟩
          refine vo_assign_pv rfl rfl ?_
          refine vo_nil ?_
          refine hK17 _ ?_
          refine vc_seq fun K18 hK18 => ?_
          refine vc_region ?_
          refine vo_move_pv rfl rfl ?_
          refine vo_len_pv rfl rfl Try.underlying26 ?_
          refine vo_move_pv rfl rfl ?_
          refine vo_len_pv rfl rfl Try.underlying26 ?_
          refine vo_binI rfl rfl rfl rfl trivial ?_
          refine vo_move_pv rfl rfl ?_
          refine vo_split 66 rfl (fun hg5 => ?_) (fun hg5 => ?_)
          · try simp only [decide_eq_true_eq, decide_eq_false_iff_not, beq_iff_eq, bne_iff_ne, beq_eq_false_iff_ne, bne_eq_false_iff_eq, Bool.not_eq_true, Bool.not_eq_false, Bool.not_eq_eq_eq_not, Bool.not_true, Bool.not_false, List.length_map, Int.not_lt, Int.not_le, ne_eq, Decidable.not_not] at hg5
            refine vo_guard_off rfl rfl rfl rfl rfl ?_
            refine vo_guard_off rfl rfl rfl rfl rfl ?_
            refine vo_guard_off rfl rfl rfl rfl rfl ?_
            refine vo_guard_off rfl rfl rfl rfl rfl ?_
            refine vo_guard_off rfl rfl rfl rfl rfl ?_
            refine vo_guard_off rfl rfl rfl rfl rfl ?_
            refine vo_guard_off rfl rfl rfl rfl rfl ?_
            refine vo_pick_t rfl rfl ?_
            refine vo_nil ?_
            refine hK18 _ ?_
            refine vc_cond_t rfl ?_
            refine vc_seq fun K19 hK19 => ?_
            refine vc_region ?_
            refine vo_assign_pv rfl rfl ?_
            refine vo_nil ?_
            refine hK19 _ ?_
            refine vc_ret ?_
            change retPv _ _ _ _ _
            refine retPv_mk rfl rfl rfl ⟨?_, rfl⟩
            first | rfl | exact absurd trivial (by assumption) | exact absurd rfl (by assumption) | (refine (congrArg (fun b => [bo b]) (?_ : _ = _) : [bo _] = [bo _]); exact decide_eq_true rfl) | exact absurd hsame (by assumption) | (refine (congrArg (fun b => [bo b]) (?_ : _ = _) : [bo _] = [bo _]); exact decide_eq_true hsame) | (exfalso; omega) | (exfalso; rw [tail_ix htl, hT] at hc9; simp at hc9; done)
          · try simp only [decide_eq_true_eq, decide_eq_false_iff_not, beq_iff_eq, bne_iff_ne, beq_eq_false_iff_ne, bne_eq_false_iff_eq, Bool.not_eq_true, Bool.not_eq_false, Bool.not_eq_eq_eq_not, Bool.not_true, Bool.not_false, List.length_map, Int.not_lt, Int.not_le, ne_eq, Decidable.not_not] at hg5
            refine vo_guard_on rfl rfl rfl ?_
            refine vo_move_pv rfl rfl ?_
            refine vo_guard_on rfl rfl rfl ?_
            refine vo_move_pv rfl rfl ?_
            refine vo_guard_on rfl rfl rfl ?_
            refine vo_len_pv rfl rfl Try.underlying26 ?_
            refine vo_guard_on rfl rfl rfl ?_
            refine vo_slice_pv rfl rfl rfl rfl E26.und inf33 sz33 sd sd sd ?_
            simp only [Int.toNat_natCast, Int.toNat_zero, List.drop_zero, Nat.sub_zero, ← List.map_drop, ← List.map_take]
            refine vo_st (by simp only [List.length_map, hp4]; exact eq_refl _) ?_
            refine vo_guard_on rfl rfl rfl ?_
            refine vo_move_pv rfl rfl ?_
            refine vo_guard_on rfl rfl rfl ?_
            refine vo_call0 Try.func11 rfl rfl rfl rfl (equalFields_sat (a := (fldQ B S ((abvR B z).getD k 0))) (b := (fldQ B S ((abvR B z).getD k 0))) (Nat.lt_of_le_of_lt fldQ_len (by decide)) (Nat.lt_of_le_of_lt fldQ_len (by decide))) ?_
            rintro _ _ ⟨rfl, rfl⟩
            refine ⟨rfl, rfl, .inl rfl, ?_⟩
            refine vo_guard_on rfl rfl rfl ?_
            refine vo_not rfl rfl ?_
            refine vo_pick_f rfl rfl ?_
            refine vo_nil ?_
            refine hK18 _ ?_
            refine vc_cond rfl (fun hc6 => ?_) (fun hc6 => ?_)
            · try simp only [decide_eq_true_eq, decide_eq_false_iff_not, beq_iff_eq, bne_iff_ne, beq_eq_false_iff_ne, bne_eq_false_iff_eq, Bool.not_eq_true, Bool.not_eq_false, Bool.not_eq_eq_eq_not, Bool.not_true, Bool.not_false, List.length_map, Int.not_lt, Int.not_le, ne_eq, Decidable.not_not] at hc6
              refine vc_seq fun K20 hK20 => ?_
              refine vc_region ?_
              refine vo_assign_pv rfl rfl ?_
              refine vo_nil ?_
              refine hK20 _ ?_
              refine vc_ret ?_
              change retPv _ _ _ _ _
              refine retPv_mk rfl rfl rfl ⟨?_, rfl⟩
              first | rfl | exact absurd trivial (by assumption) | exact absurd rfl (by assumption) | (refine (congrArg (fun b => [bo b]) (?_ : _ = _) : [bo _] = [bo _]); exact decide_eq_true rfl) | exact absurd hsame (by assumption) | (refine (congrArg (fun b => [bo b]) (?_ : _ = _) : [bo _] = [bo _]); exact decide_eq_true hsame) | (exfalso; omega) | (exfalso; rw [tail_ix htl, hT] at hc9; simp at hc9; done)
            · try simp only [decide_eq_true_eq, decide_eq_false_iff_not, beq_iff_eq, bne_iff_ne, beq_eq_false_iff_ne, bne_eq_false_iff_eq, Bool.not_eq_true, Bool.not_eq_false, Bool.not_eq_eq_eq_not, Bool.not_true, Bool.not_false, List.length_map, Int.not_lt, Int.not_le, ne_eq, Decidable.not_not] at hc6
              refine vc_skip ?_
              refine hK16 _ ?_
              refine vc_region ?_
              refine vo_move_pv rfl rfl ?_
              refine vo_binI rfl rfl rfl rfl sd ?_
              refine vo_assign_pv rfl rfl ?_
              refine vo_nil ?_
              change againF _ _ _ _ _ _ _ _ _
              refine againF_mk rfl rfl rfl rfl rfl rfl ⟨_, ?_, k + 1, rfl, ?_, rfl⟩
              · omega
              · omega
        · try simp only [decide_eq_true_eq, decide_eq_false_iff_not, beq_iff_eq, bne_iff_ne, beq_eq_false_iff_ne, bne_eq_false_iff_eq, Bool.not_eq_true, Bool.not_eq_false, Bool.not_eq_eq_eq_not, Bool.not_true, Bool.not_false, List.length_map, Int.not_lt, Int.not_le, ne_eq, Decidable.not_not] at hc4
          refine vc_exit ?_
          refine hK12 _ ?_
          refine vc_seq fun K21 hK21 => ?_
          refine vc_region ?_
          refine vo_move_pv rfl rfl ?_
          refine vo_len_pv rfl rfl Try.underlying26 ?_
          refine vo_move_pv rfl rfl ?_
          refine vo_move_pv rfl rfl ?_
          refine vo_index_pv (.sl none 1 []) rfl rfl rfl E23.und inf30 sz30 sd sd ?_
          simp only [Int.toNat_natCast, Int.toNat_zero, getD_ints, getD_intss, getD_bools, getD_bytes, PV.cells, getD_flds]
          refine vo_load_adr rfl rfl Try.underlying30 rfl ?_
          refine vo_len_pv rfl rfl Try.underlying30 ?_
          refine vo_binI rfl rfl rfl rfl sd ?_
          refine vo_assign_pv rfl rfl ?_
          refine vo_nil ?_
          refine hK21 _ ?_
          refine vc_seq fun K22 hK22 => ?_
          refine vc_seq fun K23 hK23 => ?_
          refine vc_region ?_
          refine vo_assign_pv rfl rfl ?_
          refine vo_nil ?_
          refine hK23 _ ?_
          refine vc_block ?_
          refine vc_stN ?_
          refine vc_loopF [3, 4, 5, 6, 10] [11] [_, _, _, _, _] _ (fun mz vs => ∃ (k : Nat), mz = (S.getD z.toNat []).length - k ∧ (k ≤ (S.getD z.toNat []).length) ∧ vs = [i64 k]) ((S.getD z.toNat []).length) rfl rfl (le_len hC rfl) ⟨rfl, rfl, rfl⟩ ⟨0, rfl, Nat.zero_le _, rfl⟩ ?_
          rintro mz vs - ⟨k, rfl, hk, rfl⟩
          refine vc_stN ?_
          refine vc_seq fun K24 hK24 => ?_
          refine vc_seq fun K25 hK25 => ?_
          refine vc_region ?_
          refine vo_move_pv rfl rfl ?_
          refine vo_move_pv rfl rfl ?_
          refine vo_move_pv rfl rfl ?_
          refine vo_index_pv (.sl none 1 []) rfl rfl rfl E23.und inf30 sz30 sd sd ?_
          simp only [Int.toNat_natCast, Int.toNat_zero, getD_ints, getD_intss, getD_bools, getD_bytes, PV.cells, getD_flds]
          refine vo_load_adr rfl rfl Try.underlying30 rfl ?_
          refine vo_len_pv rfl rfl Try.underlying30 ?_
          refine vo_binI rfl rfl rfl rfl trivial ?_
          refine vo_nil ?_
          refine hK25 _ ?_
          refine vc_cond rfl (fun hc7 => ?_) (fun hc7 => ?_)
          · try simp only [decide_eq_true_eq, decide_eq_false_iff_not, beq_iff_eq, bne_iff_ne, beq_eq_false_iff_ne, bne_eq_false_iff_eq, Bool.not_eq_true, Bool.not_eq_false, Bool.not_eq_eq_eq_not, Bool.not_true, Bool.not_false, List.length_map, Int.not_lt, Int.not_le, ne_eq, Decidable.not_not] at hc7
            have hT : (fldQ B S z).getD ((fldQ B S z).length - (S.getD z.toNat []).length + k) (0, 0) = (z, (S.getD z.toNat []).getD k 0) := by rw [hP]; exact tail_at (by omega)
            refine vc_skip ?_
            refine hK24 _ ?_
            refine vc_seq fun K26 hK26 => ?_
            refine vc_block ?_
            refine vc_seq fun K27 hK27 => ?_
            refine vc_draw (by kernel_rfl) ?_
            change VD _ _ _ 20 _ _ _
            refine vd_light 0 rfl rfl rfl (by kernel_rfl) (by kernel_rfl) (by kernel_rfl) (wnt_none rfl) (lt_move_pv rfl) ?_
            refine vd_light 1 rfl rfl rfl (by kernel_rfl) (by kernel_rfl) (by kernel_rfl) (wnt_none rfl) (lt_binI rfl rfl rfl trivial) ?_
            refine vd_light 2 rfl rfl rfl (by kernel_rfl) (by kernel_rfl) (by kernel_rfl) (wnt_none rfl) (lt_move_pv rfl) ?_
            refine vd_split 94 rfl (fun hg8 => ?_) (fun hg8 => ?_)
            · try simp only [decide_eq_true_eq, decide_eq_false_iff_not, beq_iff_eq, bne_iff_ne, beq_eq_false_iff_ne, bne_eq_false_iff_eq, Bool.not_eq_true, Bool.not_eq_false, Bool.not_eq_eq_eq_not, Bool.not_true, Bool.not_false, List.length_map, Int.not_lt, Int.not_le, ne_eq, Decidable.not_not] at hg8
              refine vd_skip 3 rfl rfl rfl (by kernel_rfl) (by kernel_rfl) (by kernel_rfl) (wnt_off rfl rfl rfl rfl rfl) ?_
              refine vd_skip 4 rfl rfl rfl (by kernel_rfl) (by kernel_rfl) (by kernel_rfl) (wnt_off rfl rfl rfl rfl rfl) ?_
              refine vd_skip 5 rfl rfl rfl (by kernel_rfl) (by kernel_rfl) (by kernel_rfl) (wnt_off rfl rfl rfl rfl rfl) ?_
              refine vd_skip 6 rfl rfl rfl (by kernel_rfl) (by kernel_rfl) (by kernel_rfl) (wnt_off rfl rfl rfl rfl rfl) ?_
              refine vd_skip 7 rfl rfl rfl (by kernel_rfl) (by kernel_rfl) (by kernel_rfl) (wnt_off rfl rfl rfl rfl rfl) ?_
              refine vd_skip 8 rfl rfl rfl (by kernel_rfl) (by kernel_rfl) (by kernel_rfl) (wnt_off rfl rfl rfl rfl rfl) ?_
              refine vd_skip 9 rfl rfl rfl (by kernel_rfl) (by kernel_rfl) (by kernel_rfl) (wnt_off rfl rfl rfl rfl rfl) ?_
              refine vd_skip 10 rfl rfl rfl (by kernel_rfl) (by kernel_rfl) (by kernel_rfl) (wnt_off rfl rfl rfl rfl rfl) ?_
              refine vd_skip 11 rfl rfl rfl (by kernel_rfl) (by kernel_rfl) (by kernel_rfl) (wnt_off rfl rfl rfl rfl rfl) ?_
              refine vd_skip 12 rfl rfl rfl (by kernel_rfl) (by kernel_rfl) (by kernel_rfl) (wnt_off rfl rfl rfl rfl rfl) ?_
              refine vd_skip 13 rfl rfl rfl (by kernel_rfl) (by kernel_rfl) (by kernel_rfl) (wnt_off rfl rfl rfl rfl rfl) ?_
              refine vd_skip 14 rfl rfl rfl (by kernel_rfl) (by kernel_rfl) (by kernel_rfl) (wnt_off rfl rfl rfl rfl rfl) ?_
              refine vd_skip 15 rfl rfl rfl (by kernel_rfl) (by kernel_rfl) (by kernel_rfl) (wnt_off rfl rfl rfl rfl rfl) ?_
              refine vd_skip 16 rfl rfl rfl (by kernel_rfl) (by kernel_rfl) (by kernel_rfl) (wnt_off rfl rfl rfl rfl rfl) ?_
              refine vd_skip 17 rfl rfl rfl (by kernel_rfl) (by kernel_rfl) (by kernel_rfl) (wnt_off rfl rfl rfl rfl rfl) ?_
              refine vd_skip 18 rfl rfl rfl (by kernel_rfl) (by kernel_rfl) (by kernel_rfl) (wnt_off rfl rfl rfl rfl rfl) ?_
              refine vd_light 19 rfl rfl rfl (by kernel_rfl) (by kernel_rfl) (by kernel_rfl) (wnt_none rfl) (lt_pick_t rfl) ?_
              refine vd_nil (by kernel_rfl) ?_
              refine hK27 _ ?_
              refine vc_cond_t rfl ?_
              refine vc_seq fun K28 hK28 => ?_
              refine vc_region ?_
              refine vo_assign_pv rfl rfl ?_
              refine vo_nil ?_
              refine hK28 _ ?_
              refine vc_ret ?_
              change retPv _ _ _ _ _
              refine retPv_mk rfl rfl rfl ⟨?_, rfl⟩
              first | rfl | exact absurd trivial (by assumption) | exact absurd rfl (by assumption) | (refine (congrArg (fun b => [bo b]) (?_ : _ = _) : [bo _] = [bo _]); exact decide_eq_true rfl) | exact absurd hsame (by assumption) | (refine (congrArg (fun b => [bo b]) (?_ : _ = _) : [bo _] = [bo _]); exact decide_eq_true hsame) | (exfalso; omega) | (exfalso; rw [tail_ix htl, hT] at hc9; simp at hc9; done)
            · try simp only [decide_eq_true_eq, decide_eq_false_iff_not, beq_iff_eq, bne_iff_ne, beq_eq_false_iff_ne, bne_eq_false_iff_eq, Bool.not_eq_true, Bool.not_eq_false, Bool.not_eq_eq_eq_not, Bool.not_true, Bool.not_false, List.length_map, Int.not_lt, Int.not_le, ne_eq, Decidable.not_not] at hg8
              refine vd_light 3 rfl rfl rfl (by kernel_rfl) (by kernel_rfl) (by kernel_rfl) (wnt_on rfl rfl rfl rfl) (lt_move_pv rfl) ?_
              refine vd_light 4 rfl rfl rfl (by kernel_rfl) (by kernel_rfl) (by kernel_rfl) (wnt_on rfl rfl rfl rfl) (lt_move_pv rfl) ?_
              refine vd_light 5 rfl rfl rfl (by kernel_rfl) (by kernel_rfl) (by kernel_rfl) (wnt_on rfl rfl rfl rfl) (lt_move_pv rfl) ?_
              refine vd_light 6 rfl rfl rfl (by kernel_rfl) (by kernel_rfl) (by kernel_rfl) (wnt_on rfl rfl rfl rfl) (lt_binI rfl rfl rfl sd) ?_
              refine vd_light 7 rfl rfl rfl (by kernel_rfl) (by kernel_rfl) (by kernel_rfl) (wnt_on rfl rfl rfl rfl) (lt_index_pv (.agg [(.int .i64 0), (.int .i64 0)]) rfl rfl E26.und inf33 sz33 sd sd) ?_
              simp only [Int.toNat_natCast, Int.toNat_zero, getD_ints, getD_intss, getD_bools, getD_bytes, PV.cells, getD_flds]
              refine vd_light 8 rfl rfl rfl (by kernel_rfl) (by kernel_rfl) (by kernel_rfl) (wnt_on rfl rfl rfl rfl) (lt_load_adrS rfl Try.underlying33 rfl inf33 sz33 rfl) ?_
              refine vd_st (by (try simp only [St.put, PV.cells, PV.scal, List.drop_succ_cons, List.drop_zero, List.take_succ_cons, List.take_zero, List.map_cons, List.map_nil, Bool.or_true, Bool.or_false, Bool.false_or, Bool.true_or, fldP]); exact eq_refl _) ?_
              refine vd_light 9 rfl rfl rfl (by kernel_rfl) (by kernel_rfl) (by kernel_rfl) (wnt_on rfl rfl rfl rfl) (lt_move_pv rfl) ?_
              refine vd_light 10 rfl rfl rfl (by kernel_rfl) (by kernel_rfl) (by kernel_rfl) (wnt_on rfl rfl rfl rfl) (lt_move_pv rfl) ?_
              refine vd_light 11 rfl rfl rfl (by kernel_rfl) (by kernel_rfl) (by kernel_rfl) (wnt_on rfl rfl rfl rfl) (lt_move_pv rfl) ?_
              refine vd_light 12 rfl rfl rfl (by kernel_rfl) (by kernel_rfl) (by kernel_rfl) (wnt_on rfl rfl rfl rfl) (lt_index_pv (.sl none 1 []) rfl rfl E23.und inf30 sz30 sd sd) ?_
              simp only [Int.toNat_natCast, Int.toNat_zero, getD_ints, getD_intss, getD_bools, getD_bytes, PV.cells, getD_flds]
              refine vd_light 13 rfl rfl rfl (by kernel_rfl) (by kernel_rfl) (by kernel_rfl) (wnt_on rfl rfl rfl rfl) (lt_load_adr rfl Try.underlying30 rfl) ?_
              refine vd_light 14 rfl rfl rfl (by kernel_rfl) (by kernel_rfl) (by kernel_rfl) (wnt_on rfl rfl rfl rfl) (lt_move_pv rfl) ?_
              refine vd_light 15 rfl rfl rfl (by kernel_rfl) (by kernel_rfl) (by kernel_rfl) (wnt_on rfl rfl rfl rfl) (lt_index_pv (.int .i64 0) rfl rfl E30.und inf3 sz3 sd sd) ?_
              simp only [Int.toNat_natCast, Int.toNat_zero, getD_ints, getD_intss, getD_bools, getD_bytes, PV.cells, getD_flds]
              refine vd_light 16 rfl rfl rfl (by kernel_rfl) (by kernel_rfl) (by kernel_rfl) (wnt_on rfl rfl rfl rfl) (lt_load_adr rfl Try.underlying3 rfl) ?_
              refine vd_light 17 rfl rfl rfl (by kernel_rfl) (by kernel_rfl) (by kernel_rfl) (wnt_on rfl rfl rfl rfl) (lt_build S33 rfl rfl) ?_
              refine vd_light 18 rfl rfl rfl (by kernel_rfl) (by kernel_rfl) (by kernel_rfl) (wnt_on rfl rfl rfl rfl) (lt_neqS2 Q33 rfl rfl) ?_
              refine vd_light 19 rfl rfl rfl (by kernel_rfl) (by kernel_rfl) (by kernel_rfl) (wnt_none rfl) (lt_pick_f rfl) ?_
              refine vd_nil (by kernel_rfl) ?_
              refine hK27 _ ?_
              refine vc_cond rfl (fun hc9 => ?_) (fun hc9 => ?_)
              · try simp only [decide_eq_true_eq, decide_eq_false_iff_not, beq_iff_eq, bne_iff_ne, beq_eq_false_iff_ne, bne_eq_false_iff_eq, Bool.not_eq_true, Bool.not_eq_false, Bool.not_eq_eq_eq_not, Bool.not_true, Bool.not_false, List.length_map, Int.not_lt, Int.not_le, ne_eq, Decidable.not_not] at hc9
                refine vc_seq fun K29 hK29 => ?_
                refine vc_region ?_
                refine vo_assign_pv rfl rfl ?_
                refine vo_nil ?_
                refine hK29 _ ?_
                refine vc_ret ?_
                change retPv _ _ _ _ _
                refine retPv_mk rfl rfl rfl ⟨?_, rfl⟩
                first | rfl | exact absurd trivial (by assumption) | exact absurd rfl (by assumption) | (refine (congrArg (fun b => [bo b]) (?_ : _ = _) : [bo _] = [bo _]); exact decide_eq_true rfl) | exact absurd hsame (by assumption) | (refine (congrArg (fun b => [bo b]) (?_ : _ = _) : [bo _] = [bo _]); exact decide_eq_true hsame) | (exfalso; omega) | (exfalso; rw [tail_ix htl, hT] at hc9; simp at hc9; done)
              · try simp only [decide_eq_true_eq, decide_eq_false_iff_not, beq_iff_eq, bne_iff_ne, beq_eq_false_iff_ne, bne_eq_false_iff_eq, Bool.not_eq_true, Bool.not_eq_false, Bool.not_eq_eq_eq_not, Bool.not_true, Bool.not_false, List.length_map, Int.not_lt, Int.not_le, ne_eq, Decidable.not_not] at hc9
                refine vc_skip ?_
                refine hK26 _ ?_
                refine vc_region ?_
                refine vo_move_pv rfl rfl ?_
                refine vo_binI rfl rfl rfl rfl sd ?_
                refine vo_assign_pv rfl rfl ?_
                refine vo_nil ?_
                change againF _ _ _ _ _ _ _ _ _
                refine againF_mk rfl rfl rfl rfl rfl rfl ⟨_, ?_, k + 1, rfl, ?_, rfl⟩
                · omega
                · omega
          · try simp only [decide_eq_true_eq, decide_eq_false_iff_not, beq_iff_eq, bne_iff_ne, beq_eq_false_iff_ne, bne_eq_false_iff_eq, Bool.not_eq_true, Bool.not_eq_false, Bool.not_eq_eq_eq_not, Bool.not_true, Bool.not_false, List.length_map, Int.not_lt, Int.not_le, ne_eq, Decidable.not_not] at hc7
            refine vc_exit ?_
            refine hK22 _ ?_
            refine vc_seq fun K30 hK30 => ?_
            refine vc_region ?_
            refine vo_move_pv rfl rfl ?_
            refine vo_move_pv rfl rfl ?_
            refine vo_move_pv rfl rfl ?_
            refine vo_move_pv rfl rfl ?_
            refine vo_move_pv rfl rfl ?_
            refine vo_call0 Try.func13 rfl rfl rfl rfl (implSolidOf_sat (c := z) (by omega) (lt3 h3) (by omega) (lt3 h8)) ?_
            rintro _ _ ⟨rfl, rfl⟩
            refine ⟨rfl, rfl, .inl rfl, ?_⟩
            refine vo_call0 Try.func10 rfl rfl rfl rfl (implFieldsOf_sat (c := (solR B S z)) (by omega) (lt3 h3) (by omega) (lt3 h8)) ?_
            rintro _ _ ⟨rfl, rfl⟩
            refine ⟨rfl, rfl, .inl rfl, ?_⟩
            refine vo_move_pv rfl rfl ?_
            refine vo_call0 Try.func11 rfl rfl rfl rfl (equalFields_sat (a := (fldQ B S (solR B S z))) (b := (fldQ B S z)) (Nat.lt_of_le_of_lt fldQ_len (by decide)) (Nat.lt_of_le_of_lt fldQ_len (by decide))) ?_
            rintro _ _ ⟨rfl, rfl⟩
            refine ⟨rfl, rfl, .inl rfl, ?_⟩
            refine vo_assign_pv rfl rfl ?_
            refine vo_nil ?_
            refine hK30 _ ?_
            refine vc_ret ?_
            change retPv _ _ _ _ _
            refine retPv_mk rfl rfl rfl ⟨?_, rfl⟩
            first | rfl | exact absurd trivial (by assumption) | exact absurd rfl (by assumption) | (refine (congrArg (fun b => [bo b]) (?_ : _ = _) : [bo _] = [bo _]); exact decide_eq_true rfl) | exact absurd hsame (by assumption) | (refine (congrArg (fun b => [bo b]) (?_ : _ = _) : [bo _] = [bo _]); exact decide_eq_true hsame) | (exfalso; omega) | (exfalso; rw [tail_ix htl, hT] at hc9; simp at hc9; done)

end Go.Vl

/- What yields the same in every world may be taken first, whatever else comes. -/
namespace Go.Vl
set_option linter.unusedVariables false
set_option linter.unusedSimpArgs false
open Go.RowKit

section
variable {P : Program} {ops : Array Oper} {Q : Go.Exit → Act → World → Prop}

def yields0 (P : Program) (ops : Array Oper) (o : Oper) (v : Value) (a : Act) : Prop :=
  (Region.wanted o (yielded ops a.tmps) = true ∧ ∀ w, (execOp a.eval o).run P w = .ok (.value v) w) ∨ (Region.wanted o (yielded ops a.tmps) = false ∧ v = undef)

theorem yields0.step {o : Oper} {v : Value} {a a' : Act} (h : yields0 P ops o v a) (he : execOp a'.eval o = execOp a.eval o)
    (hw : Region.wanted o (yielded ops a'.tmps) = Region.wanted o (yielded ops a.tmps)) : yields0 P ops o v a' := by
  unfold yields0 at *
  rw [he, hw]
  exact h

theorem yields0.op {i : Nat} {o : Oper} {v : Value} {a : Act} {w : World} (hi : ops[i]? = some o) (hy : yields0 P ops o v a) {K : Act → World → Prop} (h : K (a.put o.dst v) w) : wpOp P ops Q i K a w := by
  unfold wpOp
  simp only [hi]
  rcases hy with ⟨hw, hv⟩ | ⟨hw, rfl⟩
  · simp only [hw, if_true, Oper.wp, hv w, Oper.upon]; exact .inl h
  · simp only [hw, Bool.false_eq_true, if_false]; exact h

theorem op_before0 {j : Nat} {oi oj : Oper} {v : Value} (hj : ops[j]? = some oj) (hap : oi.apart ops oj = true) (hsi : ∀ cs b, oi.op ≠ .select cs b) (hsj : ∀ cs b, oj.op ≠ .select cs b)
    (hQ : ∀ c a w, ¬ Q (.panic c) a w) {K : Act → World → Prop} {a : Act} {w : World} (hy : yields0 P ops oi v a) (h : wpOp P ops Q j K (a.put oi.dst v) w) :
    wpOp P ops Q j (fun a' w' => yields0 P ops oi v a' ∧ K (a'.put oi.dst v) w') a w := by
  obtain ⟨h1, h2, h3⟩ := Oper.apart_spec hap
  have keep : ∀ (u : Value), yields0 P ops oi v (a.put oj.dst u) := fun u => hy.step (execOp_put oi hsi a oj.dst u h3) (wanted_put oi a oj.dst u h3)
  have fin : ∀ (u : Value) (w' : World), K ((a.put oi.dst v).put oj.dst u) w' → yields0 P ops oi v (a.put oj.dst u) ∧ K ((a.put oj.dst u).put oi.dst v) w' := by
    intro u w' hk
    exact ⟨keep u, by rw [← Act.put_comm a v u h2]; exact hk⟩
  unfold wpOp at *
  simp only [hj] at *
  rw [wanted_put oj a oi.dst v h1] at h
  by_cases hw : Region.wanted oj (yielded ops a.tmps) = true
  · rw [if_pos hw] at h ⊢
    rcases h with h | ⟨hasks, hlets⟩
    · left
      unfold Oper.wp at *
      rw [execOp_put oj hsj a oi.dst v h1] at h
      generalize (execOp a.eval oj).run P w = r at *
      cases r with
      | ok n w' =>
        cases n with
        | value u => exact fin u w' h
        | skip => exact fin undef w' h
        | defer d =>
          simp only [Oper.upon] at h ⊢
          refine ⟨?_, by rw [← Act.put_comm _ v undef h2, ← Act.put_defers]; exact h⟩
          have hy1 : yields0 P ops oi v { a with defers := d :: a.defers } := hy.step rfl rfl
          exact hy1.step (execOp_put oi hsi _ oj.dst undef h3) (wanted_put oi _ oj.dst undef h3)
        | enter f args =>
          simp only [Oper.upon] at h ⊢
          refine h.mono fun e w'' he => ?_
          cases e with
          | returned u => exact fin u w'' he
          | panicked c => exact (hQ _ _ _ he).elim
          | outgrown => exact he
        | row row args => exact Rows.mono h fun u w'' he => fin u w'' he
        | _ => exact h
      | halt x w' =>
        cases x <;> simp only [Oper.upon] at h ⊢
        exact (hQ _ _ _ h).elim
    · right
      refine ⟨?_, hlets⟩
      unfold Oper.asks at *
      rw [execOp_put oj hsj a oi.dst v h1] at hasks
      exact hasks
  · rw [if_neg hw] at h ⊢
    exact fin undef w h

theorem anyL_first0 {late : List Nat} {i : Nat} {oi : Oper} {v : Value} (hi : ops[i]? = some oi) (hsel : ∀ (j : Nat) (o : Oper) cs b, ops[j]? = some o → o.op ≠ .select cs b) (hQ : ∀ c a w, ¬ Q (.panic c) a w) :
    ∀ (n : Nat) (listed : Array Bool) (a : Act) (w : World),
      (∀ j oj, ops[j]? = some oj → j ≠ i → listed.getD j true = false → (∀ e ∈ oj.after, Region.binds .any e = true → e.on ≠ i) → oi.apart ops oj = true) →
      i ∈ Region.ready .any ops listed → yields0 P ops oi v a → anyL late P ops Q n (listed.setIfInBounds i true) (a.put oi.dst v) w → anyL late P ops Q (n + 1) listed a w := by
  intro n
  induction n with
  | zero =>
    intro listed a w _ hr hy H
    refine ⟨fun h => (by rw [h] at hr; cases hr), fun j hj => ?_⟩
    by_cases hji : j = i
    · subst hji; exact hy.op hi ⟨.inl (ExtW.refl w), H⟩
    · have := ready_mono hj hji
      rw [H.1] at this
      cases this
  | succ n ih =>
    intro listed a w hfree hr hy H
    refine ⟨fun h => (by rw [h] at hr; cases hr), fun j hj => ?_⟩
    by_cases hji : j = i
    · subst hji; exact hy.op hi ⟨.inl (ExtW.refl w), H⟩
    · have g1 := H.2 j (ready_mono hj hji)
      obtain ⟨hjun, oj, hoj, hall⟩ := mem_ready.1 hj
      have hnot : ∀ e ∈ oj.after, Region.binds .any e = true → e.on ≠ i := by
        intro e he hb heq
        have l1 := hall e he hb
        have l0 := (mem_ready.1 hr).1
        rw [heq] at l1
        rcases Nat.lt_or_ge i listed.size with h' | h'
        · simp [h'] at l0 l1
          rw [l0] at l1
          cases l1
        · simp [Array.getElem?_eq_none h'] at l1
      have g2 := op_before0 hoj (hfree j oj hoj hji hjun hnot) (fun cs b => hsel i oi cs b hi) (fun cs b => hsel j oj cs b hoj) hQ hy g1
      have hfree' : ∀ k ok, ops[k]? = some ok → k ≠ i → (listed.setIfInBounds j true).getD k true = false → (∀ e ∈ ok.after, Region.binds .any e = true → e.on ≠ i) → oi.apart ops ok = true := by
        intro k ok hk hki hun hno
        refine hfree k ok hk hki ?_ hno
        by_cases hjk : j = k
        · subst hjk; exact hjun
        · rw [getD_set_ne true hjk] at hun; exact hun
      refine wpOp_mono (fun a' w' g3 => ⟨g3.2.1, ih (listed.setIfInBounds j true) a' w' hfree' (ready_mono hr (Ne.symm hji)) g3.1 ?_⟩) g2
      rw [Array.setIfInBounds_comm _ _ hji]
      exact g3.2.2
end

/-- The operation hands back a value that no world changes. -/
def Lt0 (P : Program) (C : Ctx) (s : St) (o : Oper) (sv : SV) : Prop :=
  ∀ m a w, SimM C s m a w → ∃ v, (∀ w', (execOp a.eval o).run P w' = .ok (.value v) w') ∧ RS w (Gd C s.rows m w) m s.rows.length sv v

section
variable {late : List Nat} {P : Program} {C : Ctx} {ops : Array Oper} {K : St → Prop} {s : St} {n : Nat} {listed : Array Bool} {t : Nat} {ty : TypeId} {pos : String} {af : Array Edge}

theorem l0_move {x : Operand} : Lt0 P C s ⟨some t, .move x, ty, pos, af, none⟩ (getO s.env x) := fun m a w hs => ⟨a.eval x, fun _ => rfl, hs.get x⟩
theorem l0_move_pv {x : Operand} {f : Bool} {p : PV} (hx : getO s.env x = .pv f p) : Lt0 P C s ⟨some t, .move x, ty, pos, af, none⟩ (.pv f p) := by rw [← hx]; exact l0_move
theorem l0_move_ref {x : Operand} {id : Nat} (hx : getO s.env x = .ref id) : Lt0 P C s ⟨some t, .move x, ty, pos, af, none⟩ (.ref id) := by rw [← hx]; exact l0_move
theorem l0_move_ptr {x : Operand} {id e i o : Nat} (hx : getO s.env x = .ptr id e i o) : Lt0 P C s ⟨some t, .move x, ty, pos, af, none⟩ (.ptr id e i o) := by rw [← hx]; exact l0_move

theorem vl_light0 (i : Nat) {o : Oper} {t : Nat} {sv : SV} (hi : ops[i]? = some o) (hd : o.dst = some t) (ht : Nat.blt t s.n = true) (hr : (Region.ready .any ops listed).contains i = true) (hns : Region.noSelect ops = true)
    (hf : Region.free .any ops listed i = true) (hw : Wnt C ops s o true) (hl : Lt0 P C s { o with guard := none } sv) (next : VL late P C ops n (listed.setIfInBounds i true) K (s.put t sv)) : VL late P C ops (n + 1) listed K s := by
  intro m a w hs
  obtain ⟨v, hrun, hv⟩ := hl m a w hs
  refine anyL_first0 hi (Region.noSelect_spec hns) post0_panic n listed a w (Region.free_spec hi hf) (by simpa using hr) (.inl ⟨hw m a w hs, hrun⟩) ?_
  rw [hd]
  exact next m _ _ (hs.put (blt_lt ht) hv)
end
end Go.Vl

/- A row that holds numbers alone points nowhere. -/
namespace Go.Vl
set_option linter.unusedVariables false
set_option linter.unusedSimpArgs false
open Go.RowKit

theorem clean_row {w : World} {G G' : Bool → Nat → Prop} {m m' : Nat → MV} {N N' : Nat} {mv : MV} {t : TypeId} {e : Nat} {nl : Option Bool} {f : Bool} {xs : List PV} (h : RowOK w G m N mv (.own t e nl f xs)) (hp : ∀ x ∈ xs, ∀ c ∈ x.cells, c.scal = true) :
    RowOK w G' m' N' mv (.own t e nl true xs) := by
  cases h with
  | own v t e nl f xs vs hown h1 h2 hw hr =>
    refine .own v t e nl true xs vs hown h1 h2 hw fun i x j c hx hc => ?_
    obtain ⟨u, hu, hq⟩ := hr i x j c hx hc
    exact ⟨u, hu, hq.scal_any (hp x (List.mem_of_getElem? hx) c (List.mem_of_getElem? hc))⟩

section
variable {P : Program} {C : Ctx} {Q : Go.Exit → St → Prop} {s : St} {ops : Array Oper}

theorem SimM.clean {m : Nat → MV} {a : Act} {w : World} (hs : SimM C s m a w) (id : Nat) {el e : Nat} {nl : Option Bool} {f : Bool} {xs : List PV} (hrow : s.rows[id]? = some (.own el e nl f xs)) (hp : ∀ x ∈ xs, ∀ c ∈ x.cells, c.scal = true) :
    SimM C ⟨s.n, s.env, s.rows.set id (.own el e nl true xs)⟩ m a w :=
  hs.storeRow (w' := w) (bo := none) ⟨_, hrow, rfl⟩ (fun _ e => by cases e) ⟨rfl, rfl, rfl, Nat.le_refl _, fun _ _ _ => rfl⟩ _ (fun hG => clean_row (hs.rows id _ hrow) hp)

theorem scal_ints (l : List Int) : ∀ x ∈ l.map intP, ∀ c ∈ x.cells, c.scal = true := by
  intro x hx c hc
  obtain ⟨n, _, rfl⟩ := List.mem_map.1 hx
  simp [PV.cells] at hc
  subst hc; rfl
theorem vo_clean {l : List Oper} (id : Nat) {el e : Nat} {nl : Option Bool} {f : Bool} {xs : List PV} (hrow : s.rows[id]? = some (.own el e nl f xs)) (hp : ∀ x ∈ xs, ∀ c ∈ x.cells, c.scal = true)
    (next : VO P C ops l Q ⟨s.n, s.env, s.rows.set id (.own el e nl true xs)⟩) : VO P C ops l Q s := fun a w ⟨m, hs⟩ => next a w ⟨m, hs.clean id hrow hp⟩
theorem vc_clean {code : Code} (id : Nat) {el e : Nat} {nl : Option Bool} {f : Bool} {xs : List PV} (hrow : s.rows[id]? = some (.own el e nl f xs)) (hp : ∀ x ∈ xs, ∀ c ∈ x.cells, c.scal = true)
    (next : VC P C code Q ⟨s.n, s.env, s.rows.set id (.own el e nl true xs)⟩) : VC P C code Q s := fun a w ⟨m, hs⟩ => next a w ⟨m, hs.clean id hrow hp⟩
theorem retG_norm {C : Ctx} {ts : List Nat} {R : List SV → List Row → Prop} {s : St} (h : retG C ts R .ret s) : retG C ts R .normal s := ⟨.inl rfl, h.2⟩
end
end Go.Vl

/- Statements at which two orders of evaluation are known: what holds in whatever order holds in both. -/
namespace Go.Vl
set_option linter.unusedVariables false
set_option linter.unusedSimpArgs false
open Go.RowKit

section
variable {P : Program} {ops : Array Oper} {Q : Go.Exit → Act → World → Prop}

theorem binds_sub {md : Region.Mode} {e : Edge} (h : Region.binds .any e = true) : Region.binds md e = true := by
  unfold Region.binds at *
  split at h <;> simp_all

theorem ready_sub {md : Region.Mode} {listed : Array Bool} {i : Nat} (h : i ∈ Region.ready md ops listed) : i ∈ Region.ready .any ops listed := by
  obtain ⟨h1, o, ho, h2⟩ := mem_ready.1 h
  exact mem_ready.2 ⟨h1, o, ho, fun e he hb => h2 e he (binds_sub hb)⟩

/-- An order in which all can come. -/
def orderB (md : Region.Mode) (ops : Array Oper) : List Nat → List Nat → Bool
  | seen, [] => (List.range ops.size).all fun j => seen.contains j
  | seen, i :: r => (match ops[i]? with
    | some o => o.after.all fun e => !Region.binds md e || seen.contains e.on
    | none => true) && orderB md ops (i :: seen) r

theorem order_spec {md : Region.Mode} {listed : Array Bool} (hsz : listed.size = ops.size) (hr : Region.ready md ops listed = []) : ∀ (perm seen : List Nat), (∀ j, seen.contains j = true → j < ops.size → listed.getD j false = true) → (∀ j, seen.contains j = true → j < ops.size) → (∀ i ∈ perm, i < ops.size) → orderB md ops seen perm = true → ∀ j, j < ops.size → listed.getD j false = true
  | [], seen, hs, _, _, h, j, hj => by
    simp only [orderB, List.all_eq_true, List.mem_range] at h
    exact hs j (h j hj) hj
  | i :: r, seen, hs, hlt, hp, h, j, hj => by
    simp only [orderB, Bool.and_eq_true] at h
    have hi := hp i List.mem_cons_self
    have hl : listed.getD i false = true := by
      have ho : ops[i]? = some ops[i] := Array.getElem?_eq_getElem hi
      rw [ho] at h
      have hi2 : i < listed.size := by omega
      by_cases hli : listed[i] = true
      · simp [Array.getD, hi2, hli]
      · exfalso
        have hm : i ∈ Region.ready md ops listed := mem_ready.2 ⟨by simp [Array.getD, hi2]; simpa using hli, _, ho, fun e he hb => by
          have h1 := Array.all_eq_true_iff_forall_mem.1 h.1 e he
          rw [hb] at h1
          have h2 : seen.contains e.on = true := by simpa using h1
          exact hs _ h2 (hlt _ h2)⟩
        rw [hr] at hm
        cases hm
    refine order_spec hsz hr r (i :: seen) (fun k hk hk2 => ?_) (fun k hk => ?_) (fun k hk => hp k (List.mem_cons_of_mem _ hk)) h.2 j hj
    · by_cases e : k = i
      · subst e; exact hl
      · refine hs k ?_ hk2
        simp only [List.contains_cons, Bool.or_eq_true, beq_iff_eq, e, false_or] at hk
        exact hk
    · by_cases e : k = i
      · subst e; exact hi
      · refine hlt k ?_
        simp only [List.contains_cons, Bool.or_eq_true, beq_iff_eq, e, false_or] at hk
        exact hk

theorem wpAny_md {md : Region.Mode} (H : ∀ listed : Array Bool, listed.size = ops.size → Region.ready md ops listed = [] → Region.ready .any ops listed = []) :
    ∀ (n : Nat) (listed : Array Bool) (a : Act) (w : World), listed.size = ops.size → wpAny P .any ops Q n listed a w → wpAny P md ops Q n listed a w
  | 0, listed, a, w, _, h => by
    refine ⟨?_, h.2⟩
    rw [List.eq_nil_iff_forall_not_mem]
    intro i hi
    have := ready_sub hi
    rw [h.1] at this
    cases this
  | n + 1, listed, a, w, hs, h => ⟨fun h0 => h.1 (H listed hs h0), fun i hi => wpOp_mono (fun a' w' h' => wpAny_md H n _ a' w' (by simpa using hs) h') (h.2 i (ready_sub hi))⟩

theorem order_any {md : Region.Mode} (perm : List Nat) (hp : perm.all (fun i => Nat.blt i ops.size) = true) (h : orderB md ops [] perm = true) (listed : Array Bool) (hsz : listed.size = ops.size) (hr : Region.ready md ops listed = []) : Region.ready .any ops listed = [] := by
  rw [List.all_eq_true] at hp
  have hall := order_spec hsz hr perm [] (fun j hj => by simp at hj) (fun j hj => by simp at hj) (fun i hi => blt_lt (hp i hi)) h
  rw [List.eq_nil_iff_forall_not_mem]
  intro i hi
  obtain ⟨h1, o, ho, _⟩ := mem_ready.1 hi
  have hi2 := (Array.getElem?_eq_some_iff.1 ho).1
  have := hall i hi2
  have hi3 : i < listed.size := by omega
  simp [Array.getD, hi3] at h1 this
  rw [h1] at this
  cases this
end

theorem vc_drawLD (late pt pg : List Nat) {P : Program} {C : Ctx} {ops : Array Oper} {s : St} {id : Nat} {Q : Go.Exit → St → Prop} (h1 : pt.all (fun i => Nat.blt i ops.size) = true) (h2 : orderB .text ops [] pt = true) (h3 : pg.all (fun i => Nat.blt i ops.size) = true) (h4 : orderB .gc ops [] pg = true)
    (h : VL late P C ops ops.size (Array.replicate ops.size false) (Q .normal) s) : VC P C (.region id ops true) Q s := by
  intro a w ⟨m, hs⟩
  refine wp_region_draw fun t => ?_
  have hany := any_of_anyL _ _ _ _ (h m a _ (hs.grow (w' := { w with drawn := w.drawn + 1 }) (ExtW.refl w) rfl rfl rfl))
  have hfin : ∀ e a' w', post0 C (Q .normal) e a' w' → post C Q e a' w' := by
    rintro e a' w' ⟨rfl, s', hs', hk⟩
    exact ⟨s', hs', hk⟩
  unfold Region.schedule
  split
  · exact wpOps_monoQ hfin _ _ _ (wpAny_sound ops.size t _ a _ hany)
  · split
    · exact wpOps_monoQ hfin _ _ _ (wpAny_sound ops.size _ _ a _ (wpAny_md (order_any pt h1 h2) _ _ _ _ (by simp) hany))
    · exact wpOps_monoQ hfin _ _ _ (wpAny_sound ops.size _ _ a _ (wpAny_md (order_any pg h3 h4) _ _ _ _ (by simp) hany))
end Go.Vl

/- A row takes another one in and may move: 'append' of a slice that is the program's own to a row whose slices are its own. -/
namespace Go.Vl
set_option linter.unusedVariables false
set_option linter.unusedSimpArgs false
open Go.RowKit

theorem SimM.joinRow {C : Ctx} {s : St} {m : Nat → MV} {a : Act} {w w' : World} (h : SimM C s m a w) {id j : Nat} (hne : id ≠ j) (hid : liveAt s.rows id) (hj : liveAt s.rows j) (hnb : C.nb ≤ id) (hnj : C.nb ≤ j)
    {bo : Option Nat} (hbo : ∀ b, bo = some b → (m id).S b) (hg : w.grownBy w' bo) (r : Row) (v : MV)
    (hb : ∀ b, v.S b → (m id).S b ∨ (m j).S b ∨ w.heap.size ≤ b)
    (hr : (∀ fr b, Gd C s.rows m w fr b → Gd C (((s.rows.map (Row.kill id)).set j .dead).set id r) (updM m id v) w' fr b ∧ w'.heap[b]? = w.heap[b]?) →
      RowOK w' (Gd C (((s.rows.map (Row.kill id)).set j .dead).set id r) (updM m id v) w') (updM m id v) s.rows.length v r) :
    SimM C ⟨s.n, killE id s.env, ((s.rows.map (Row.kill id)).set j .dead).set id r⟩ (updM m id v) a w' := by
  have hidl : id < s.rows.length := by
    obtain ⟨q, hq, _⟩ := hid
    exact (List.getElem?_eq_some_iff.1 hq).1
  have hjl : j < s.rows.length := by
    obtain ⟨q, hq, _⟩ := hj
    exact (List.getElem?_eq_some_iff.1 hq).1
  have hlive : ∀ i, liveAt (((s.rows.map (Row.kill id)).set j .dead).set id r) i → i ≠ j ∧ liveAt s.rows i := by
    intro i ⟨q, hq, hv⟩
    rw [List.getElem?_set] at hq
    split at hq
    · rename_i e; subst e; exact ⟨hne, hid⟩
    · rw [List.getElem?_set] at hq
      split at hq
      · simp [hjl] at hq; subst hq; cases hv
      · rename_i e; exact ⟨Ne.symm e, liveAt_kill ⟨q, hq, hv⟩⟩
  have hSof : ∀ i b, i ≠ j → liveAt s.rows i → (updM m id v i).S b → w.heap.size ≤ b ∨ ∃ k, liveAt s.rows k ∧ (m k).S b ∧ (k = i ∨ (i = id ∧ k = j)) := by
    intro i b hij hl hb1
    by_cases e : i = id
    · subst e
      rw [updM_same] at hb1
      rcases hb b hb1 with h1 | h1 | h1
      · exact .inr ⟨i, hl, h1, .inl rfl⟩
      · exact .inr ⟨j, hj, h1, .inr ⟨rfl, rfl⟩⟩
      · exact .inl h1
    · rw [updM_ne _ _ e] at hb1
      exact .inr ⟨i, hl, hb1, .inl rfl⟩
  have hbig : ∀ i b, i ≠ j → liveAt s.rows i → (updM m id v i).S b → w.heap.size ≤ b → i = id := by
    intro i b hij hl hb1 hsz
    by_cases e : i = id
    · exact e
    · rw [updM_ne _ _ e] at hb1
      have := h.lt hl hb1
      omega
  have hG : ∀ fr b, Gd C s.rows m w fr b → Gd C (((s.rows.map (Row.kill id)).set j .dead).set id r) (updM m id v) w' fr b ∧ w'.heap[b]? = w.heap[b]? := by
    refine Gd.step (fun b => (m id).S b) hg.size (fun k hk hn => hg.block k hk (fun e => hn (hbo k e.symm))) (fun k hk => ⟨id, hid, hk⟩) (fun b hlt ⟨i, hl, hbk⟩ => ?_)
    obtain ⟨h1, h2⟩ := hlive i hl
    rcases hSof i b h1 h2 hbk with h3 | ⟨k, h3, h4, _⟩
    · omega
    · exact ⟨k, h3, h4⟩
  have hlen : (((s.rows.map (Row.kill id)).set j .dead).set id r).length = s.rows.length := by simp
  exact {
    defs := h.defs
    size := h.size
    os := hg.os.trans h.os
    tape := hg.tape.trans h.tape
    output := hg.output.trans h.output
    hsz := Nat.le_trans h.hsz hg.size
    old := fun k hk hn => (hg.block k (by have := h.hsz; omega) (fun e => by have := h.newb id k hnb hid (hbo k e.symm); omega)).trans (h.old k hk hn)
    bor := fun i hi => by rw [updM_ne _ _ (by omega)]; exact h.bor i hi
    nbl := by have := h.nbl; show C.nb ≤ (((s.rows.map (Row.kill id)).set j .dead).set id r).length; rw [hlen]; exact this
    newb := fun i b hi hl hbk => by
      obtain ⟨h1, h2⟩ := hlive i hl
      rcases hSof i b h1 h2 hbk with h3 | ⟨k, h3, h4, h5⟩
      · have := h.hsz; omega
      · exact h.newb k b (by rcases h5 with rfl | ⟨_, rfl⟩ <;> omega) h3 h4
    dist := fun i1 i2 b h1 h2 hb1 hb2 => by
      obtain ⟨a1, a2⟩ := hlive i1 h1
      obtain ⟨c1, c2⟩ := hlive i2 h2
      rcases hSof i1 b a1 a2 hb1 with hz | ⟨k1, k2, k3, k4⟩
      · rw [hbig i1 b a1 a2 hb1 hz, hbig i2 b c1 c2 hb2 hz]
      · rcases hSof i2 b c1 c2 hb2 with hz | ⟨l1, l2, l3, l4⟩
        · rw [hbig i1 b a1 a2 hb1 hz, hbig i2 b c1 c2 hb2 hz]
        · have e := h.dist k1 l1 b k2 l2 k3 l3
          rcases k4 with rfl | ⟨rfl, rfl⟩ <;> rcases l4 with rfl | ⟨rfl, rfl⟩
          · exact e
          · exact absurd e a1
          · exact absurd e.symm c1
          · rfl
    rows := fun i q hq => by
      change (((s.rows.map (Row.kill id)).set j .dead).set id r)[i]? = some q at hq
      show RowOK w' _ _ (((s.rows.map (Row.kill id)).set j .dead).set id r).length _ q
      rw [hlen]
      rw [List.getElem?_set] at hq
      split at hq
      · rename_i e
        subst e
        simp [hidl] at hq
        subst hq
        rw [updM_same]
        exact hr hG
      · rename_i e
        rw [List.getElem?_set] at hq
        split at hq
        · simp [hjl] at hq; subst hq; exact .dead _
        · rename_i e2
          rw [getElem?_killRows] at hq
          simp only [Option.map_eq_some_iff] at hq
          obtain ⟨q', hq', rfl⟩ := hq
          rw [updM_ne _ _ (Ne.symm e)]
          exact RowOK.kill hG (fun k hk => updM_ne _ _ hk) (h.rows i q' hq') (fun hd b hbk => hg.block b (h.lt ⟨q', hq', hd⟩ hbk) (fun eb => e (h.dist id i b hid ⟨q', hq', hd⟩ (hbo b eb.symm) hbk)))
    env := fun u => by
      show RS w' _ _ (((s.rows.map (Row.kill id)).set j .dead).set id r).length (look (killE id s.env) u) _
      rw [hlen, look_killE]
      exact (h.env u).kill hG (fun k hk => updM_ne _ _ hk) }
end Go.Vl

/- Rows whose slices are their own: a slice literal of one such slice, and 'append'. -/
namespace Go.Vl
set_option linter.unusedVariables false
set_option linter.unusedSimpArgs false
open Go.RowKit

section
variable {P : Program} {C : Ctx} {Q : Go.Exit → St → Prop} {s : St} {ops : Array Oper} {rest : List Oper} {t : Nat} {ty : TypeId} {pos : String} {af : Array Edge}

/-- A slice of one element, which takes a row in. -/
theorem vo_build_tree {T el by' j : Nat} {d p : PV} {y : Operand} {rj : Row} (hI : ElInfo P T el 1 by' d) (ht : Nat.blt t s.n = true) (hy : getO s.env y = .ref j) (hrj : s.rows[j]? = some rj) (hlj : rj.live = true)
    (hp : p.fits 1) (hch : ∀ w G m N mv, RowOK w G m N mv rj → TP w p mv.v mv.S) (hnj : C.nb ≤ j)
    (next : VO P C ops rest Q ⟨s.n, (t, .ref s.rows.length) :: killE j s.env, (s.rows.map (Row.kill j)).set j .dead ++ [Row.tree el 1 (some false) none [p]]⟩) :
    VO P C ops (⟨some t, .buildSlice T 1 #[(0, y)], ty, pos, af, none⟩ :: rest) Q s := by
  obtain ⟨hT, ⟨inf, z, hinf, hsz, hbytes, hz, hzs, hzr⟩, hdf, he⟩ := hI
  refine vo_value (s1 := ⟨s.n, killE j s.env, (s.rows.map (Row.kill j)).set j .dead ++ [Row.tree el 1 (some false) none [p]]⟩) (sv := .ref s.rows.length) ht (fun m a w hs => ?_) next
  obtain ⟨hvy, hjl⟩ := hs.row hy
  have hTj := hch _ _ _ _ _ (hs.rows j _ hrj)
  have hone := hTj.oneCell
  have hljv : liveAt s.rows j := ⟨_, hrj, hlj⟩
  have hcells : (m j).v.cells.toList = [(m j).v] := oneCell_cells hone
  have hcs1 : (m j).v.cells.size = 1 := by
    have := congrArg List.length hcells
    simpa using this
  let w1 := w.alloc (.cells #[(m j).v] el)
  have hrun : (execOp a.eval ⟨some t, .buildSlice T 1 #[(0, y)], ty, pos, af, none⟩).run P w = .ok (.value (.slice (some ⟨w.heap.size, 0, none⟩) 1 1)) w1 := by
    have hf := Great.fill_whole he [(m j).v] ((Array.range (1 * 1)).map (z.cells[· % z.cells.size]!)) (by intro v hv; rw [List.mem_singleton.1 hv]; exact hcs1) (by simp)
    have hpl : (#[(0, y)].map fun (i, x) => (i, a.eval x)).toList = ([(m j).v].zipIdx 0).map fun x => (x.2, x.1) := by
      simp [hvy]
    have := run_buildSlice (P := P) w T el 1 (#[(0, y)].map fun (i, x) => (i, a.eval x)) #[(m j).v] inf z hT hinf hz (by rw [hsz]; omega) (by rw [hsz]; omega) (by rw [hsz, hpl]; rw [hf]; simp [hcells])
    simp only [execOp, Sem.run_bind, this, Result.andThen_ok]
    rfl
  have hheap : w1.heap[w.heap.size]? = some (.cells #[(m j).v] el (0, 0)) := heap_alloc_new w _
  have hown1 : w1.ownsRow 0 el 1 (.slice (some ⟨w.heap.size, 0, none⟩) 1 1) 1 [(m j).v] := ⟨rfl, .inr ⟨w.heap.size, 1, #[(m j).v], rfl, Nat.zero_le _, hheap, Nat.le_refl _, by simp [maxLen], rfl, rfl⟩⟩
  have hfits : ∀ (i : Nat) (x : PV), [p][i]? = some x → x.fits 1 := by
    intro i x hx
    match i, hx with
    | 0, hx => cases hx; exact hp
  have hadd := hs.addRow (w' := w1) (World.grownBy_alloc w _ none) (.tree el 1 (some false) (some (0, none)) [p]) ⟨.slice (some ⟨w.heap.size, 0, none⟩) 1 1, fun b => b = w.heap.size⟩
    (fun b hb => by rw [hb]; exact Nat.le_refl _) (fun hG => by
      refine .tree ⟨.slice (some ⟨w.heap.size, 0, none⟩) 1 1, fun b => b = w.heap.size⟩ el 1 (some false) (some (0, none)) [p] [(m j).v] (fun _ _ => False) hown1 (fun h => by cases h) (fun _ h => by cases h) hfits ?_ (fun _ _ _ h => h.elim) (fun _ _ h => h.elim) (fun _ _ _ h => h) ?_ (fun _ _ h => by cases h)
      · intro i x jj c u hx hc hu
        have hi : i = 0 := by
          have := (List.getElem?_eq_some_iff.1 hx).1
          simp at this; exact this
        subst hi
        have hjj : jj = 0 := by
          have hf := hfits 0 x hx
          have := (List.getElem?_eq_some_iff.1 hc).1
          rw [hf.1] at this; omega
        subst hjj
        simp at hu
        exact .inr ⟨rfl, fun b h => h, by rw [← hu]; exact hone⟩
      · intro b
        constructor
        · intro h; left; show blk _ = some b; rw [show b = w.heap.size from h]; rfl
        · rintro (h | ⟨_, h⟩)
          · simp [blk] at h; exact h.symm
          · exact h.elim)
  obtain ⟨hs1, _⟩ := hadd
  have hne : s.rows.length ≠ j := by omega
  have hlid : liveAt (s.rows ++ [Row.tree el 1 (some false) (some (0, none)) [p]]) s.rows.length := ⟨Row.tree el 1 (some false) (some (0, none)) [p], by simp, rfl⟩
  have hlj1 : liveAt (s.rows ++ [Row.tree el 1 (some false) (some (0, none)) [p]]) j := ⟨rj, by rw [List.getElem?_append_left hjl]; exact hrj, hlj⟩
  have hmj : updM m s.rows.length ⟨.slice (some ⟨w.heap.size, 0, none⟩) 1 1, fun b => b = w.heap.size⟩ j = m j := updM_ne _ _ (Ne.symm hne)
  have hjb : ∀ b', (m j).S b' → b' < w.heap.size := fun b' h => hs.lt hljv h
  have hab := hs1.absorb (w' := w1) (id := s.rows.length) (j := j) hne hlid hlj1 hs.nbl hnj (b0 := w.heap.size) (by rw [updM_same]) ⟨rfl, rfl, rfl, Nat.le_refl _, fun _ _ _ => rfl⟩
    (fun b => b = w.heap.size ∨ (m j).S b) (fun b hb => by rw [updM_same, hmj]; exact hb) (.tree el 1 (some false) none [p]) (fun hG => by
      rw [updM_same]
      refine .tree ⟨.slice (some ⟨w.heap.size, 0, none⟩) 1 1, fun b => b = w.heap.size ∨ (m j).S b⟩ el 1 (some false) none [p] [(m j).v] (fun q b => q = 0 ∧ (m j).S b) hown1 (fun h => by cases h) (fun _ h => by cases h) hfits ?_ (fun q q' b h h' => by rw [h.1, h'.1]) (fun q b h h2 => ?_) (fun q b h h2 => ?_) ?_ (fun _ _ h => by cases h)
      · intro i x jj c u hx hc hu
        have hi : i = 0 := by
          have := (List.getElem?_eq_some_iff.1 hx).1
          simp at this; exact this
        subst hi
        have hjj : jj = 0 := by
          have hf := hfits 0 x hx
          have := (List.getElem?_eq_some_iff.1 hc).1
          rw [hf.1] at this; omega
        subst hjj
        simp at hu hx
        subst hu
        subst hx
        have hc1 : c = p := by
          rw [hTj.cells1] at hc
          simpa using hc.symm
        subst hc1
        refine .inl ?_
        have hSi : (fun b' => (0 * 1 + 0 = 0) ∧ (m j).S b') = (m j).S := by funext b'; simp
        show TP w1 c (m j).v (fun b' => (0 * 1 + 0 = 0) ∧ (m j).S b')
        rw [hSi]
        exact hTj.mono fun b' h => (World.grownBy_alloc w (.cells #[(m j).v] el) none).block b' (hjb b' h) (by simp)
      · simp [blk] at h2
        have := hjb b h.2
        omega
      · simp at h
        omega
      · intro b
        constructor
        · rintro (h | h)
          · left; rw [h]; rfl
          · exact .inr ⟨0, rfl, h⟩
        · rintro (h | ⟨_, _, h⟩)
          · simp [blk] at h; exact .inl h.symm
          · exact .inr h)
  have hrows : (((s.rows ++ [Row.tree el 1 (some false) (some (0, none)) [p]]).map (Row.kill j)).set j .dead).set s.rows.length (.tree el 1 (some false) none [p]) = (s.rows.map (Row.kill j)).set j .dead ++ [Row.tree el 1 (some false) none [p]] := by
    rw [List.map_append, List.set_append_left _ _ (by simpa using hjl), List.set_append_right _ _ (by simp)]
    simp
  rw [hrows] at hab
  refine ⟨_, _, _, hrun, hab, ?_⟩
  have := RS.ref (w := w1) (G := Gd C ((s.rows.map (Row.kill j)).set j .dead ++ [Row.tree el 1 (some false) none [p]]) (updM (updM m s.rows.length ⟨.slice (some ⟨w.heap.size, 0, none⟩) 1 1, fun b => b = w.heap.size⟩) s.rows.length ⟨((updM m s.rows.length ⟨.slice (some ⟨w.heap.size, 0, none⟩) 1 1, fun b => b = w.heap.size⟩) s.rows.length).v, fun b => b = w.heap.size ∨ (m j).S b⟩) w1)
    (m := updM (updM m s.rows.length ⟨.slice (some ⟨w.heap.size, 0, none⟩) 1 1, fun b => b = w.heap.size⟩) s.rows.length ⟨((updM m s.rows.length ⟨.slice (some ⟨w.heap.size, 0, none⟩) 1 1, fun b => b = w.heap.size⟩) s.rows.length).v, fun b => b = w.heap.size ∨ (m j).S b⟩)
    (N := ((s.rows.map (Row.kill j)).set j .dead ++ [Row.tree el 1 (some false) none [p]]).length) s.rows.length (by simp)
  rw [updM_same] at this
  simpa [updM_same] using this

/-- 'append' of such a slice to a row whose slices are its own. -/
theorem vo_append_tree {x y : Operand} {id k T el by' : Nat} {nl nly : Option Bool} {xs ys : List PV} {d : PV} (hI : ElInfo P T el 1 by' d) (ht : Nat.blt t s.n = true) (hnb : C.nb ≤ id) (hnk : C.nb ≤ k) (hne : Nat.beq id k = false)
    (hx : getO s.env x = .ref id) (hrow : s.rows[id]? = some (.tree el 1 nl none xs)) (hy : getO s.env y = .ref k) (hrk : s.rows[k]? = some (.tree el 1 nly none ys))
    (hby : (xs.length + ys.length) * by' ≤ 140737488355328) (hmx : xs.length + ys.length ≤ 9223372036854775807) (hys : 0 < ys.length)
    (next : VO P C ops rest Q ⟨s.n, (t, .ref id) :: killE id s.env, ((s.rows.map (Row.kill id)).set k .dead).set id (Row.tree el 1 (if nl = some false then some false else none) none (xs ++ ys))⟩) :
    VO P C ops (⟨some t, .call ⟨.builtin .append, #[x, y], #[T, T]⟩, ty, pos, af, none⟩ :: rest) Q s := by
  obtain ⟨hT, ⟨inf, z, hinf, hsz, hbytes, hz, hzs, hzr⟩, hdf, he⟩ := hI
  refine vo_value (s1 := ⟨s.n, killE id s.env, ((s.rows.map (Row.kill id)).set k .dead).set id (Row.tree el 1 (if nl = some false then some false else none) none (xs ++ ys))⟩) (sv := .ref id) ht (fun m a w hs => ?_) next
  have hne : id ≠ k := fun e => by subst e; rw [Nat.beq_refl] at hne; cases hne
  obtain ⟨hvx, hidl⟩ := hs.row hx
  obtain ⟨hvy, hkl⟩ := hs.row hy
  have hlid : liveAt s.rows id := ⟨_, hrow, rfl⟩
  have hlk : liveAt s.rows k := ⟨_, hrk, rfl⟩
  have hR := hs.rows id _ hrow
  have hK := hs.rows k _ hrk
  have hdist := hs.dist
  have hlti : ∀ b, (m id).S b → b < w.heap.size := fun b h => hs.lt hlid h
  have hltk : ∀ b, (m k).S b → b < w.heap.size := fun b h => hs.lt hlk h
  generalize hmi : m id = vi at *
  generalize hmk : m k = vk at *
  cases hR with
  | tree vi t1 e1 nl1 h1' xs1 vals Sf hown h1 h2 hw hr hd hn hz1 hS hkn =>
    cases hK with
    | tree vk t2 e2 nl2 h2' ys1 vals2 Sf2 hown2 k1 k2 hw2 hr2 hd2 hn2 hz2 hS2 hkn2 =>
      have hl1 : vals.length = xs.length := by have := hown.1; omega
      have hl2 : vals2.length = ys.length := by have := hown2.1; omega
      rcases hown2.2 with ⟨ey, hn0⟩ | ⟨g2, cap2, cur2, ey, h02, hh2, hle2, hmx2, hsz2, htk2⟩
      · omega
      · have hcell2 := World.ownsRow.cells hown2 (show vk.v.ownBlock = some g2 by rw [ey]; rfl)
        have hone2 : ∀ u ∈ vals2, u.oneCell' = true := by
          intro u hu
          obtain ⟨q, hq⟩ := List.getElem?_of_mem hu
          have hq1 : q < ys.length := by rw [← hl2]; exact (List.getElem?_eq_some_iff.1 hq).1
          have hxq : ys[q]? = some ys[q] := List.getElem?_eq_getElem hq1
          have hf := hw2 q _ hxq
          have h0 : 0 < ys[q].cells.length := by rw [hf.1]; omega
          have hc : ys[q].cells[0]? = some (ys[q].cells[0]'h0) := List.getElem?_eq_getElem h0
          exact (hr2 q _ 0 _ u hxq hc (by simpa using hq)).oneCell
        obtain ⟨v', w', hrun, hown', hg, hnil, hblk⟩ := run_append_own_at (P := P) w 0 T ty el inf z 1 by' hT hinf hz hsz hbytes hzs he vi.v xs.length vals hown ⟨g2, 0, none⟩ ys.length cap2 vals2 (by omega) hcell2 hone2
          (by simpa [maxLen] using hmx) hby (Nat.zero_le _)
        have hvb : vi.v.ownBlock = blk vi.v := by
          rcases hown.2 with ⟨e, _⟩ | ⟨g, cp, cur, e, _⟩ <;> rw [e] <;> rfl
        have hv'b : v'.ownBlock = blk v' := by
          rcases hown'.2 with ⟨e, _⟩ | ⟨g, cp, cur, e, _⟩ <;> rw [e] <;> rfl
        have hrun' : (Builtin.append_ #[T, T] ty #[a.eval x, a.eval y]).run P w = .ok v' w' := by
          rw [hvx, hvy, ey]; exact hrun
        have hblk2 : ∀ b, blk v' = some b → vi.S b ∨ w.heap.size ≤ b := by
          intro b hb
          rw [← hv'b] at hb
          rcases hblk with h3 | h3
          · left; refine (hS b).2 (.inl ?_); rw [← hvb, ← h3]; exact hb
          · right; rw [h3] at hb; cases hb; exact Nat.le_refl _
        have hdisj : ∀ b, vi.S b → vk.S b → False := fun b h3 h4 => hne (hdist id k b hlid hlk (by rw [hmi]; exact h3) (by rw [hmk]; exact h4))
        let Sf' : Nat → Nat → Prop := fun q b => if q < xs.length then Sf q b else Sf2 (q - xs.length) b
        have hSfi : ∀ q b, Sf q b → vi.S b := fun q b h => (hS b).2 (.inr ⟨q, h⟩)
        have hSfk : ∀ q b, Sf2 q b → vk.S b := fun q b h => (hS2 b).2 (.inr ⟨q, h⟩)
        have hj := hs.joinRow (w' := w') (bo := blk vi.v) hne hlid hlk hnb hnk (fun b hb => by rw [hmi]; exact (hS b).2 (.inl hb)) (by rw [← hvb]; exact hg) (.tree el 1 (if nl = some false then some false else none) none (xs ++ ys)) ⟨v', fun b => blk v' = some b ∨ ∃ q, Sf' q b⟩
          (fun b hb => by
            rw [hmi, hmk]
            rcases hb with hb | ⟨q, hb⟩
            · rcases hblk2 b hb with h3 | h3
              · exact .inl h3
              · exact .inr (.inr h3)
            · simp only [Sf'] at hb
              split at hb
              · exact .inl (hSfi _ _ hb)
              · exact .inr (.inl (hSfk _ _ hb))) (fun hG => by
            refine .tree ⟨v', fun b => blk v' = some b ∨ ∃ q, Sf' q b⟩ el 1 _ none (xs ++ ys) (vals ++ vals2) Sf' (by simpa using hown') (fun h => by split at h <;> simp at h) (fun h => ?_) (fits_append hw hw2) ?_ ?_ ?_ ?_ (fun b => Iff.rfl) (fun _ _ h => by cases h)
            · split at h
              · rename_i hnl
                intro hv'
                exact h2 hnl (hnil.1 hv').1
              · simp at h
            · intro i x jj c u hx hc hu
              have hjj : jj = 0 := by
                have hf := fits_append hw hw2 i x hx
                have := (List.getElem?_eq_some_iff.1 hc).1
                rw [hf.1] at this; omega
              subst hjj
              simp only [Nat.mul_one, Nat.add_zero] at hu ⊢
              rw [List.getElem?_append] at hx hu
              refine .inl ?_
              rcases Nat.lt_or_ge i xs.length with hi | hi
              · rw [if_pos hi] at hx
                rw [if_pos (by omega)] at hu
                have hSi : Sf' i = Sf i := by funext b; simp [Sf', hi]
                rw [hSi]
                have h3 := (hr i x 0 c u hx hc (by simpa using hu)).tp
                simp only [Nat.mul_one, Nat.add_zero] at h3
                exact h3.mono fun b hb => hg.block b (hlti b (hSfi _ _ hb)) (fun e => hn i b hb (by rw [← hvb]; exact e.symm))
              · rw [if_neg (by omega)] at hx
                rw [if_neg (by omega)] at hu
                have hSi : Sf' i = Sf2 (i - xs.length) := by funext b; simp [Sf', Nat.not_lt.2 hi]
                rw [hSi]
                rw [hl1] at hu
                have h3 := (hr2 (i - xs.length) x 0 c u hx hc (by simpa using hu)).tp
                simp only [Nat.mul_one, Nat.add_zero] at h3
                exact h3.mono fun b hb => hg.block b (hltk b (hSfk _ _ hb)) (fun e => hdisj b ((hS b).2 (.inl (by rw [← hvb]; exact e.symm))) (hSfk _ _ hb))
            · intro q q' b h3 h4
              simp only [Sf'] at h3 h4
              split at h3 <;> split at h4
              · exact hd q q' b h3 h4
              · exact (hdisj b (hSfi _ _ h3) (hSfk _ _ h4)).elim
              · exact (hdisj b (hSfi _ _ h4) (hSfk _ _ h3)).elim
              · have := hd2 _ _ b h3 h4; omega
            · intro q b h3 h4
              have h5 : b < w.heap.size := by
                simp only [Sf'] at h3
                split at h3
                · exact hlti b (hSfi _ _ h3)
                · exact hltk b (hSfk _ _ h3)
              rw [← hv'b] at h4
              rcases hblk with h6 | h6
              · rw [h6, hvb] at h4
                simp only [Sf'] at h3
                split at h3
                · exact hn q b h3 h4
                · exact hdisj b ((hS b).2 (.inl h4)) (hSfk _ _ h3)
              · rw [h6] at h4; cases h4; omega
            · intro q b h3 h4
              simp only [Sf'] at h4
              rw [List.length_append] at h3
              split at h4
              · omega
              · exact hz2 _ b (by omega) h4)
        refine ⟨v', w', _, by simp [execOp, resolve, invoke, builtin, hrun'], hj, ?_⟩
        have := RS.ref (w := w') (G := Gd C (((s.rows.map (Row.kill id)).set k .dead).set id (Row.tree el 1 (if nl = some false then some false else none) none (xs ++ ys))) (updM m id ⟨v', fun b => blk v' = some b ∨ ∃ q, Sf' q b⟩) w') (m := updM m id ⟨v', fun b => blk v' = some b ∨ ∃ q, Sf' q b⟩)
          (N := (((s.rows.map (Row.kill id)).set k .dead).set id (Row.tree el 1 (if nl = some false then some false else none) none (xs ++ ys))).length) id (by simpa using hidl)
        rw [updM_same] at this
        exact this
end
end Go.Vl

/- A row whose slices are its own becomes a row of slices that are read alone. -/
namespace Go.Vl
set_option linter.unusedVariables false
set_option linter.unusedSimpArgs false
open Go.RowKit
section
variable {P : Program} {C : Ctx} {Q : Go.Exit → St → Prop} {s : St} {ops : Array Oper}

theorem SimM.treeown {m : Nat → MV} {a : Act} {w : World} (h : SimM C s m a w) (id : Nat) (hnb : C.nb ≤ id) {el e : Nat} {nl : Option Bool} {xs : List PV} (hrow : s.rows[id]? = some (.tree el e nl none xs)) :
    SimM C ⟨s.n, s.env, s.rows.set id (.own el e nl false xs)⟩ (updM m id (.of (m id).v)) a w := by
  have hidl : id < s.rows.length := (List.getElem?_eq_some_iff.1 hrow).1
  have hid : liveAt s.rows id := ⟨_, hrow, rfl⟩
  have hlv : ∀ j, liveAt (s.rows.set id (.own el e nl false xs)) j → liveAt s.rows j := by
    intro j ⟨q, hq, hv⟩
    rw [List.getElem?_set] at hq
    split at hq
    · rename_i e; subst e; exact hid
    · exact ⟨q, hq, hv⟩
  have hblk : ∀ b, blk (m id).v = some b → (m id).S b := by
    have := h.rows id _ hrow
    generalize m id = v at *
    cases this with
    | tree mv t e nl h xs vals Sf hown h1 h2 hw hr hd hn hz hS hkn => exact fun b hb => (hS b).2 (.inl hb)
  have hsub : ∀ j b, (updM m id (.of (m id).v) j).S b → (m j).S b := by
    intro j b hb
    by_cases e : j = id
    · subst e; rw [updM_same] at hb; exact hblk b hb
    · rwa [updM_ne _ _ e] at hb
  have hv : ∀ j, (updM m id (.of (m id).v) j).v = (m j).v := by
    intro j
    by_cases e : j = id
    · subst e; rw [updM_same]; rfl
    · rw [updM_ne _ _ e]
  have hG : ∀ f b, Gd C s.rows m w f b → Gd C (s.rows.set id (.own el e nl false xs)) (updM m id (.of (m id).v)) w f b ∧ w.heap[b]? = w.heap[b]? := fun f b hb =>
    Gd.step (fun _ => False) (Nat.le_refl _) (fun _ _ _ => rfl) (fun _ hf => hf.elim) (fun b _ ⟨j, hl, hbk⟩ => ⟨j, hlv j hl, hsub j b hbk⟩) f b hb
  exact {
    defs := h.defs
    size := h.size
    os := h.os
    tape := h.tape
    output := h.output
    hsz := h.hsz
    old := h.old
    bor := fun j hj => by rw [updM_ne _ _ (by omega)]; exact h.bor j hj
    nbl := by have := h.nbl; simp; omega
    newb := fun j b hj hl hb => h.newb j b hj (hlv j hl) (hsub j b hb)
    dist := fun i j b hi hj hbi hbj => h.dist i j b (hlv i hi) (hlv j hj) (hsub i b hbi) (hsub j b hbj)
    rows := fun j q hq => by
      change (s.rows.set id (.own el e nl false xs))[j]? = some q at hq
      rw [List.getElem?_set] at hq
      split at hq
      · rename_i e0
        subst e0
        simp [hidl] at hq
        subst hq
        rw [updM_same]
        have hR := h.rows id _ hrow
        have hTP := TP.of_tree hR
        have hlt : ∀ b, (m id).S b → b < w.heap.size := TP.lt hTP
        have hnewb := fun b => h.newb id b hnb hid
        have hdist := h.dist
        generalize hmv : m id = v at *
        cases hR with
        | tree mv t e nl hh xs vals Sf hown h1 h2 hw hr hd hn hz hS hkn =>
          refine .own v.v el e nl false xs vals hown h1 h2 hw (fun i x j c hx hc => ?_)
          have hcl : c ∈ x.cells := List.mem_of_getElem? hc
          have hil : i < xs.length := (List.getElem?_eq_some_iff.1 hx).1
          have hjl : j < e := by
            have h9 := (List.getElem?_eq_some_iff.1 hc).1
            rwa [(hw i x hx).1] at h9
          have hvl : vals.length = xs.length * e := hown.1
          have hq : i * e + j < vals.length := by
            rw [hvl]
            calc i * e + j < i * e + e := by omega
              _ = (i + 1) * e := by rw [Nat.succ_mul]
              _ ≤ xs.length * e := Nat.mul_le_mul_right _ hil
          refine ⟨vals[i * e + j], List.getElem?_eq_getElem hq, ?_⟩
          refine ((hr i x j c _ hx hc (List.getElem?_eq_getElem hq)).tp).rp fun b hb => ?_
          have hSb : v.S b := (hS b).2 (.inr ⟨_, hb⟩)
          refine ⟨hlt b hSb, fun ⟨k, hl, hbk⟩ => ?_, fun _ => .inr (hnewb b hSb), fun h => by cases h⟩
          have hk : k = id := by
            have h5 := hsub k b hbk
            exact hdist k id b (hlv k hl) hid h5 (by rw [hmv]; exact hSb)
          subst hk
          rw [updM_same] at hbk
          exact hn _ _ hb hbk
      · rename_i e0
        rw [updM_ne _ _ (Ne.symm e0)]
        simpa using (h.rows j q hq).monoV hG (Nat.le_refl _) (fun j _ => hv j) (fun _ _ _ => rfl)
    env := fun t => by simpa using (h.env t).monoV hG (Nat.le_refl _) (fun j _ => hv j) }

theorem vo_treeown {l : List Oper} (id : Nat) (hnb : C.nb ≤ id) {el e : Nat} {nl : Option Bool} {xs : List PV} (hrow : s.rows[id]? = some (.tree el e nl none xs))
    (next : VO P C ops l Q ⟨s.n, s.env, s.rows.set id (.own el e nl false xs)⟩) : VO P C ops l Q s := fun a w ⟨m, hs⟩ => next a w ⟨_, hs.treeown id hnb hrow⟩
theorem vc_treeown {code : Code} (id : Nat) (hnb : C.nb ≤ id) {el e : Nat} {nl : Option Bool} {xs : List PV} (hrow : s.rows[id]? = some (.tree el e nl none xs))
    (next : VC P C code Q ⟨s.n, s.env, s.rows.set id (.own el e nl false xs)⟩) : VC P C code Q s := fun a w ⟨m, hs⟩ => next a w ⟨_, hs.treeown id hnb hrow⟩
end
end Go.Vl

/- 'append' to a row whose cells' type is not known (it was taken out of another), and a tree's cell that is known. -/
namespace Go.Vl
set_option linter.unusedVariables false
set_option linter.unusedSimpArgs false
open Go.RowKit
section
variable {P : Program} {C : Ctx} {Q : Go.Exit → St → Prop} {s : St} {ops : Array Oper} {rest : List Oper} {t : Nat} {ty : TypeId} {pos : String} {af : Array Edge}

theorem vo_valueX {α : Type} {op : Op} {s1 : α → St} {sv : SV} (ht : ∀ x, Nat.blt t (s1 x).n = true)
    (hrun : ∀ m a w, SimM C s m a w → ∃ x v w' m', (execOp a.eval ⟨some t, op, ty, pos, af, none⟩).run P w = .ok (.value v) w' ∧ SimM C (s1 x) m' a w' ∧ RS w' (Gd C (s1 x).rows m' w') m' (s1 x).rows.length sv v)
    (next : ∀ x, VO P C ops rest Q ((s1 x).put t sv)) : VO P C ops (⟨some t, op, ty, pos, af, none⟩ :: rest) Q s := by
  intro a w ⟨m, hs⟩
  obtain ⟨x, v, w', m', hr, hs', hv⟩ := hrun m a w hs
  refine wpList_plain rfl fun K hK => ?_
  unfold Oper.wp
  rw [hr, Oper.upon_value]
  exact hK _ _ (next x _ _ ⟨m', hs'.put (blt_lt (ht x)) hv⟩)

theorem run_none_any {w : World} {T ty el R : TypeId} {i : TypeInfo} {size n : Nat} {v : Value} {xs : List Value} (hT : P.underlying T = some (.slice el)) (hi : P.info? el = some i) (hown : w.ownsRow 0 R size v n xs) :
    (Builtin.append_ #[T, T] ty #[v, .slice none 0 0]).run P w = .ok v w := by
  rcases hown.2 with ⟨rfl, rfl⟩ | ⟨g, cap, cur, rfl, _, _, hnc, _⟩
  · simp [Builtin.append_, run_underlying hT, sizeOf, typeInfo, hi, Builtin.lenOf, Builtin.firstCells, loadCells, loadCellsFrom]
  · simp [Builtin.append_, run_underlying hT, sizeOf, typeInfo, hi, Builtin.lenOf, Builtin.firstCells, loadCells, loadCellsFrom, hnc, storeCells]

theorem run_append_any (w : World) {T ty el R : TypeId} {i : TypeInfo} {z : Value} {size bytes : Nat} (hT : P.underlying T = some (.slice el)) (hi : P.info? el = some i) (hz : i.zero = some z) (hsize : i.size = size) (hby : i.bytes = bytes) (hzs : z.cells.size = size) (hsz : 0 < size)
    {v : Value} {n : Nat} {xs : List Value} (hown : w.ownsRow 0 R size v n xs) (ad : Addr) {k : Nat} (c : Nat) {news : List Value} (hl : news.length = k * size) (hnews : ∀ j u, news[j]? = some u → w.cell? (ad.add j) = some u) (h1 : ∀ u ∈ news, u.oneCell' = true)
    (h63 : n + k ≤ maxLen) (hbytes : (n + k) * bytes ≤ 140737488355328) :
    ∃ v' w' R2, (Builtin.append_ #[T, T] ty #[v, .slice (some ad) k c]).run P w = .ok v' w' ∧ w'.ownsRow 0 R2 size v' (n + k) (xs ++ news) ∧ w.grownBy w' v.ownBlock ∧ (v' = .slice none 0 0 → v = .slice none 0 0) ∧
      (v'.ownBlock = v.ownBlock ∨ v'.ownBlock = some w.heap.size) := by
  rcases hown.2 with ⟨rfl, rfl⟩ | ⟨g, cap, cur, rfl, _, hg, hnc, hcm, hcs, htake⟩
  · have hx : xs = [] := List.eq_nil_of_length_eq_zero (by simpa using hown.1)
    subst hx
    obtain ⟨v', w', a1, a2, a3, a4, a5⟩ := run_append_own_at (P := P) w 0 T ty el i z size bytes hT hi hz hsize hby hzs hsz (.slice none 0 0) 0 [] (World.ownsRow_nil w 0 el size) ad k c news hl hnews h1 h63 hbytes (Nat.zero_le _)
    exact ⟨v', w', el, a1, a2, a3, fun h => (a4.1 h).1, a5⟩
  · subst hsize hby
    have hlen : (xs ++ news).length = (n + k) * i.size := by rw [List.length_append, hown.1, hl, Nat.add_mul]
    by_cases hroom : n + k ≤ cap
    · have hfit : n * i.size + news.length ≤ cur.size := by rw [hl, hcs, ← Nat.add_mul]; exact Nat.mul_le_mul_right _ hroom
      have hf := run_firstCells_some (P := P) w i.size k ad k c news hl hnews
      have hst := run_storeCells_at P g (n * i.size) R news 0 cur w hg (by simpa using hfit) h1
      simp only [Nat.add_zero] at hst
      have hrun : (Builtin.append_ #[T, T] ty #[.slice (some ⟨g, 0, none⟩) n cap, .slice (some ad) k c]).run P w = .ok (.slice (some ⟨g, 0, none⟩) (n + k) cap) (w.setRow g (cur.toList.take (n * i.size) ++ news ++ cur.toList.drop (n * i.size + news.length)).toArray) := by
        simp [Builtin.append_, run_underlying hT, sizeOf, typeInfo, hi, Builtin.lenOf, hroom, hf, Addr.add_lit, hst]
      refine ⟨_, _, R, hrun, ⟨hlen, .inr ⟨g, cap, _, rfl, Nat.zero_le _, setRow_heap w g cur _ R _ hg, hroom, hcm, ?_, ?_⟩⟩,
        ⟨rfl, rfl, rfl, by simp, fun j _ hj => setRow_other w g j _ (fun e => hj (by simp [Value.ownBlock, e]))⟩, (fun h => by cases h), .inl rfl⟩
      · simp only [List.size_toArray, List.length_append, List.length_take, List.length_drop, Array.length_toList]
        omega
      · rw [htake, ← hlen]
        exact List.take_left
    · have holds : ∀ j u, xs[j]? = some u → w.cell? ((⟨g, 0, none⟩ : Addr).add j) = some u := hown.cells (g := g) rfl
      have hr := run_append_grow (P := P) w T ty el i z hT hi hz ⟨g, 0, none⟩ n cap xs hown.1 holds ad k c news hl hnews (by omega) (by simp only [maxLen] at h63; omega) (growslice_fits (by omega) hbytes)
      have hge := grownCap_ge w (n + k) cap el
      refine ⟨_, _, el, hr, ⟨hlen, .inr ⟨w.heap.size, _, _, rfl, Nat.zero_le _, heap_alloc_new w.drew _, hge, grownCap_le_maxLen w (n + k) cap el h63, ?_, ?_⟩⟩, ⟨rfl, rfl, rfl, by simp, fun j hj _ => heap_alloc_old w.drew _ hj⟩, (fun h => by cases h), .inr rfl⟩
      · simp only [Array.size_append, List.size_toArray, size_zeroCells, hzs, hown.1, hl, ← Nat.add_mul]
        congr 1
        omega
      · simp only [Array.toList_append, List.append_assoc]
        rw [← List.append_assoc, ← hlen]
        exact List.take_left

/-- 'append' to a row whose cells' type is not known. -/
theorem vo_appendU {x y : Operand} {id T el R e by' : Nat} {nl : Option Bool} {fr f : Bool} {xs ys : List PV} {d : PV} (hI : ElInfo P T el e by' d) (ht : Nat.blt t s.n = true) (hnb : C.nb ≤ id)
    (hx : getO s.env x = .ref id) (hrow : s.rows[id]? = some (.own R e nl fr xs)) (hy : srcOf s.rows (getO s.env y) = some (f, e, ys))
    (hby : (xs.length + ys.length) * by' ≤ 140737488355328) (hmx : xs.length + ys.length ≤ 9223372036854775807)
    (next : ∀ R2, VO P C ops rest Q ⟨s.n, (t, .ref id) :: killE id s.env, (s.rows.map (Row.kill id)).set id (.own R2 e (if nl = some false then some false else none) (fr && f) (xs ++ ys))⟩) :
    VO P C ops (⟨some t, .call ⟨.builtin .append, #[x, y], #[T, T]⟩, ty, pos, af, none⟩ :: rest) Q s := by
  obtain ⟨hT, ⟨inf, z, hinf, hsz, hbytes, hz, hzs, hzr⟩, hfit, he⟩ := hI
  refine vo_valueX (s1 := fun R2 => { s with env := killE id s.env, rows := (s.rows.map (Row.kill id)).set id (.own R2 e (if nl = some false then some false else none) (fr && f) (xs ++ ys)) }) (sv := .ref id) (fun _ => ht) (fun m a w hs => ?_) next
  obtain ⟨hv, hid⟩ := hs.row hx
  have hlive : liveAt s.rows id := ⟨_, hrow, rfl⟩
  have hR := hs.rows id _ hrow
  have hsrc := hs.src hy he
  obtain ⟨ao, cap0, hshape, hcap0⟩ := own_shape hR
  have hV : (m id).v = .slice ao xs.length cap0 := by rw [hshape]; rfl
  have hSb : ∀ b, blk (m id).v = some b → (m id).S b := by rw [hshape]; exact fun _ h => h
  have hob : (m id).v.ownBlock = blk (m id).v := ownBlock_blk hV
  have hdone : ∀ (v' : Value) (w' : World), (Builtin.append_ #[T, T] ty #[a.eval x, a.eval y]).run P w = .ok v' w' →
      ∃ v' w' , (execOp a.eval ⟨some t, .call ⟨.builtin .append, #[x, y], #[T, T]⟩, ty, pos, af, none⟩).run P w = .ok (.value v') w' ∧ (Builtin.append_ #[T, T] ty #[a.eval x, a.eval y]).run P w = .ok v' w' := by
    intro v' w' h
    exact ⟨v', w', by simp [execOp, resolve, invoke, builtin, h], h⟩
  have hRk : ∀ R2 : TypeId, Row.kill id (.own R2 e (if nl = some false then some false else none) (fr && f) (xs ++ ys)) = .own R2 e (if nl = some false then some false else none) (fr && f) (xs ++ ys) := fun _ => rfl
  have fin : ∀ (R2 : TypeId) (v' : Value) (w' : World) (news : List Value), (Builtin.append_ #[T, T] ty #[a.eval x, a.eval y]).run P w = .ok v' w' → w.grownBy w' (blk (m id).v) → (∀ vs, w.ownsRow 0 R e (m id).v xs.length vs → w'.ownsRow 0 R2 e v' (xs.length + ys.length) (vs ++ news)) →
      (v' = .slice none 0 0 → (m id).v = .slice none 0 0) → (∀ b, blk v' = some b → (m id).S b ∨ w.heap.size ≤ b) →
      (∀ (i : Nat) (x : PV) (j : Nat) (c : PV), ys[i]? = some x → x.cells[j]? = some c → ∃ u, news[i * e + j]? = some u ∧ RP w (Gd C s.rows m w f) c u) → (∀ (i : Nat) (x : PV), ys[i]? = some x → x.fits e) →
      ∃ (R2 : TypeId) (v : Value) (w' : World) (m' : Nat → MV), (execOp a.eval ⟨some t, .call ⟨.builtin .append, #[x, y], #[T, T]⟩, ty, pos, af, none⟩).run P w = .ok (.value v) w' ∧
        SimM C { s with env := killE id s.env, rows := (s.rows.map (Row.kill id)).set id (.own R2 e (if nl = some false then some false else none) (fr && f) (xs ++ ys)) } m' a w' ∧
        RS w' (Gd C ((s.rows.map (Row.kill id)).set id (.own R2 e (if nl = some false then some false else none) (fr && f) (xs ++ ys))) m' w') m' ((s.rows.map (Row.kill id)).set id (.own R2 e (if nl = some false then some false else none) (fr && f) (xs ++ ys))).length (.ref id) v := by
    intro R2 v' w' news hrun hg hown hnil hblk hnews hfits
    refine ⟨R2, v', w', updM m id (.of v'), by simp [execOp, resolve, invoke, builtin, hrun], ?_, ?_⟩
    · refine hs.moveRow hlive hnb hSb hg _ (.of v') (hRk R2) hblk (fun hG => ?_)
      generalize hmv : m id = v at *
      cases hR with
      | own v t' e nl fr xs vs hown0 h1 h2 hw hr =>
        have hw0 : ∀ fl b, Gd C s.rows m w fl b → Gd C s.rows m w false b := fun fl b h => h.weak
        have hcomb : ∀ b, (Gd C s.rows m w fr b ∨ Gd C s.rows m w f b) → Gd C s.rows m w (fr && f) b := by
          intro b hb
          cases hf1 : fr && f with
          | false => rcases hb with hb | hb <;> exact hb.weak
          | true =>
            simp only [Bool.and_eq_true] at hf1
            obtain ⟨rfl, rfl⟩ := hf1
            rcases hb with hb | hb <;> exact hb
        refine .own v' R2 e _ _ (xs ++ ys) (vs ++ news) (by simpa using hown vs hown0) (fun h => by split at h <;> simp at h) (fun h => ?_) (fits_append hw hfits)
          (own_append (G := Gd C s.rows m w (fr && f)) (hG _) hown0.1 (fun i x j c hx hc => ?_) hw (fun i x j c hx hc => ?_))
        · split at h
          · rename_i hnl
            intro hv'
            exact h2 hnl (hnil hv')
          · simp at h
        · obtain ⟨u, hu, hp⟩ := hr i x j c hx hc
          exact ⟨u, hu, hp.mono fun b hb => ⟨hcomb b (.inl hb), rfl⟩⟩
        · obtain ⟨u, hu, hp⟩ := hnews i x j c hx hc
          exact ⟨u, hu, hp.mono fun b hb => hG _ b (hcomb b (.inr hb))⟩
    · have := RS.ref (w := w') (G := Gd C ((s.rows.map (Row.kill id)).set id (.own R2 e (if nl = some false then some false else none) (fr && f) (xs ++ ys))) (updM m id (.of v')) w') (m := updM m id (.of v'))
        (N := ((s.rows.map (Row.kill id)).set id (.own R2 e (if nl = some false then some false else none) (fr && f) (xs ++ ys))).length) id (by simpa using hid)
      rw [updM_same] at this
      exact this
  rcases hsrc with ⟨hvy, rfl⟩ | ⟨ad, len, cap, news, hvy, rfl, hnl, hnews, hnr, hn1, hfy⟩
  · have hown1 : ∃ vs, w.ownsRow 0 R e (m id).v xs.length vs := by
      generalize m id = v at *
      cases hR with
      | own v t' e nl fr xs vs hown0 => exact ⟨vs, hown0⟩
    obtain ⟨vs1, hown1⟩ := hown1
    refine fin R (m id).v w [] ?_ ⟨rfl, rfl, rfl, Nat.le_refl _, fun _ _ _ => rfl⟩ (fun vs h => by simpa using h) (fun h => h) (fun b hb => .inl (hSb b hb)) (fun i x j c hx => by simp at hx) (fun i x hx => by simp at hx)
    rw [hv, hvy]
    exact run_none_any hT hinf hown1
  · have hown1 : ∃ vs, w.ownsRow 0 R e (m id).v xs.length vs := by
      generalize m id = v at *
      cases hR with
      | own v t' e nl fr xs vs hown0 => exact ⟨vs, hown0⟩
    obtain ⟨vs1, hown1⟩ := hown1
    obtain ⟨v', w', R2, hrun, hown', hg, hnil, hblk⟩ := run_append_any w hT hinf hz hsz hbytes hzs he hown1 ad cap hnl hnews hn1
      (by simpa [maxLen] using hmx) hby
    have hv'shape : v'.ownBlock = blk v' := by
      rcases hown'.2 with ⟨rfl, _⟩ | ⟨g, cp, cur, rfl, _⟩ <;> rfl
    refine fin R2 v' w' news (by rw [hv, hvy]; exact hrun) (by rw [← hob]; exact hg) (fun vs h => ?_) (fun h => hnil h) (fun b hb => ?_) hnr hfy
    · have e1 : vs = vs1 := by
        rcases h.2 with ⟨e1, h0⟩ | ⟨g, cp, cur, e1, _, hh, _, _, _, htk⟩
        · have l1 := h.1
          have l2 := hown1.1
          rw [h0] at l1 l2
          simp at l1 l2
          rw [l1, l2]
        · rcases hown1.2 with ⟨e2, h0⟩ | ⟨g2, cp2, cur2, e2, _, hh2, _, _, _, htk2⟩
          · rw [e1] at e2; cases e2
          · rw [e1] at e2
            cases e2
            rw [hh] at hh2
            cases hh2
            rw [← htk, ← htk2]
      rw [e1]
      exact hown'
    · rw [← hv'shape] at hb
      rcases hblk with h1 | h1
      · left; refine hSb b ?_; rw [← hob, ← h1]; exact hb
      · right; rw [h1] at hb; cases hb; exact Nat.le_refl _


/-- One cell of a row whose slices are its own becomes known. -/
theorem SimM.know {m : Nat → MV} {a : Act} {w : World} (hs : SimM C s m a w) (id i : Nat) {R : TypeId} {nl : Option Bool} {xs : List PV} (hrow : s.rows[id]? = some (.tree R 1 nl none xs)) (hi : i < xs.length) :
    ∃ u, SimM C ⟨s.n, s.env, s.rows.set id (.tree R 1 nl (some (i, some u)) xs)⟩ m a w := by
  have hR := hs.rows id _ hrow
  have hv : ∃ u, ∀ G m2 N2, RowOK w G m2 N2 (m id) (.tree R 1 nl (some (i, some u)) xs) := by
    generalize m id = v at *
    cases hR with
    | tree mv t' e nl h xs vals Sf hown h1 h2 hw hr hd hn hz hS hkn =>
      have hil : i < vals.length := by rw [hown.1]; omega
      refine ⟨vals[i], fun G m2 N2 => .tree v R 1 nl _ xs vals Sf hown h1 h2 hw (fun i x j c u hx hc hu => ?_) hd hn hz hS (fun q u h => ?_)⟩
      · exact .inl (hr i x j c u hx hc hu).tp
      · cases h; exact List.getElem?_eq_getElem hil
  obtain ⟨u, hu⟩ := hv
  exact ⟨u, hs.storeRow (w' := w) (bo := none) ⟨_, hrow, rfl⟩ (fun _ e => by cases e) ⟨rfl, rfl, rfl, Nat.le_refl _, fun _ _ _ => rfl⟩ _ (fun hG => hu _ _ _)⟩
theorem vc_know {code : Code} (id i : Nat) {R : TypeId} {nl : Option Bool} {xs : List PV} (hrow : s.rows[id]? = some (.tree R 1 nl none xs)) (hi : i < xs.length)
    (next : ∀ u, VC P C code Q ⟨s.n, s.env, s.rows.set id (.tree R 1 nl (some (i, some u)) xs)⟩) : VC P C code Q s := fun a w ⟨m, hs⟩ => by
  obtain ⟨u, hu⟩ := hs.know id i hrow hi
  exact next u a w ⟨m, hu⟩

/-- A cell of a row whose slices are its own, where it is known. -/
theorem lt_load_known {x : Operand} {T id R i : Nat} {nl : Option Bool} {u : Value} {xs : List PV} {D : TypeDesc} (hx : getO s.env x = .ptr id 1 i 0) (hrow : s.rows[id]? = some (.tree R 1 nl (some (i, some u)) xs))
    (hT : P.underlying T = some D) (hD : D.isRow = false) (hi : i < xs.length) : Lt P C s ⟨some t, .load T x, ty, pos, af, none⟩ (.val u) := by
  intro m a w hs
  obtain ⟨b, hv, hb, hid⟩ := hs.ptr hx
  have hR := hs.rows id _ hrow
  have hcell : w.cell? ⟨b, i, none⟩ = some u := by
    generalize m id = v at *
    cases hR with
    | tree mv t' e nl h xs vals Sf hown h1 h2 hw hr hd hn hz hS hkn =>
      rcases hown.2 with ⟨e0, hn0⟩ | ⟨g, cap, cur, e0, _, hheap, hle, hmx, hcs, htk⟩
      · omega
      · have hgb : b = g := by rw [e0] at hb; simpa [blk] using hb.symm
        subst hgb
        have hu := hkn i u rfl
        rw [cell_of_row w b _ cur R (0, 0) hheap, ← Array.getElem?_toList]
        rw [← hu, ← htk, List.getElem?_take, if_pos (by omega)]
  refine ⟨u, fun w' hw' => ?_, .val u⟩
  have hcell := hw'.cell hcell
  have hagg : (isAgg T).run P w' = .ok false w' := by
    cases D <;> simp_all [isAgg, run_underlying hT]
  simp only [Nat.mul_one, Nat.add_zero] at hv
  simp [execOp, Instr.loadAt, hv, Instr.sureAddr, loadVar, hagg, load, Sem.run, hcell]
end
section
variable {late : List Nat} {P : Program} {C : Ctx} {ops : Array Oper} {K : St → Prop} {s s1 : St} {n : Nat} {listed : Array Bool}
def StepV (late : List Nat) (P : Program) (C : Ctx) (ops : Array Oper) (n : Nat) (listed : Array Bool) (K : St → Prop) (s : St) (i : Nat) : Prop :=
  ∀ m a w, SimM C s m a w → wpOp P ops (post0 C K) i (fun a' w' => (ExtW w w' ∨ late.contains i = true) ∧ anyL late P ops (post0 C K) n (listed.setIfInBounds i true) a' w') a w
theorem vl_any2 (i j : Nat) (hr : Region.ready .any ops listed = [i, j]) (h1 : StepV late P C ops n listed K s i) (h2 : StepV late P C ops n listed K s j) : VL late P C ops (n + 1) listed K s := by
  intro m a w hs
  refine ⟨fun h0 => (by rw [hr] at h0; cases h0), fun q hq => ?_⟩
  rw [hr] at hq
  simp at hq
  rcases hq with rfl | rfl
  · exact h1 m a w hs
  · exact h2 m a w hs
theorem vl_any3 (i j k : Nat) (hr : Region.ready .any ops listed = [i, j, k]) (h1 : StepV late P C ops n listed K s i) (h2 : StepV late P C ops n listed K s j) (h3 : StepV late P C ops n listed K s k) : VL late P C ops (n + 1) listed K s := by
  intro m a w hs
  refine ⟨fun h0 => (by rw [hr] at h0; cases h0), fun q hq => ?_⟩
  rw [hr] at hq
  simp at hq
  rcases hq with rfl | rfl | rfl
  · exact h1 m a w hs
  · exact h2 m a w hs
  · exact h3 m a w hs
theorem sv_ext (i : Nat) {t : Nat} {op : Op} {ty : TypeId} {pos : String} {af : Array Edge} {sv : SV} (hi : ops[i]? = some ⟨some t, op, ty, pos, af, none⟩) (ht : Nat.blt t s1.n = true)
    (hx : Xt P C s ⟨some t, op, ty, pos, af, none⟩ s1 sv) (next : VL late P C ops n (listed.setIfInBounds i true) K (s1.put t sv)) : StepV late P C ops n listed K s i := by
  intro m a w hs
  obtain ⟨v, w', m', h1, h2, h3, h4⟩ := hx m a w hs
  unfold wpOp
  simp only [hi]
  have hw : Region.wanted ⟨some t, op, ty, pos, af, none⟩ (yielded ops a.tmps) = true := by simp [Region.wanted]
  rw [if_pos hw]
  left
  unfold Oper.wp
  rw [h1, Oper.upon_value]
  exact ⟨.inl h4, next m' _ _ (h2.put (blt_lt ht) h3)⟩
end
end Go.Vl

/- Every order, one by one: for statements where an operation that writes may come before a reading one. -/
namespace Go.Vl
set_option linter.unusedVariables false
set_option linter.unusedSimpArgs false
open Go.RowKit
section
variable {late : List Nat} {P : Program} {C : Ctx} {ops : Array Oper} {K : St → Prop} {s s1 : St} {n : Nat} {listed : Array Bool}
theorem vl_any1 (i : Nat) (hr : Region.ready .any ops listed = [i]) (h1 : StepV late P C ops n listed K s i) : VL late P C ops (n + 1) listed K s := by
  intro m a w hs
  refine ⟨fun h0 => (by rw [hr] at h0; cases h0), fun q hq => ?_⟩
  rw [hr] at hq
  simp at hq
  subst hq
  exact h1 m a w hs
theorem vl_any4 (i j k l : Nat) (hr : Region.ready .any ops listed = [i, j, k, l]) (h1 : StepV late P C ops n listed K s i) (h2 : StepV late P C ops n listed K s j) (h3 : StepV late P C ops n listed K s k) (h4 : StepV late P C ops n listed K s l) : VL late P C ops (n + 1) listed K s := by
  intro m a w hs
  refine ⟨fun h0 => (by rw [hr] at h0; cases h0), fun q hq => ?_⟩
  rw [hr] at hq
  simp at hq
  rcases hq with rfl | rfl | rfl | rfl
  · exact h1 m a w hs
  · exact h2 m a w hs
  · exact h3 m a w hs
  · exact h4 m a w hs
theorem sv_light (i : Nat) {t : Nat} {op : Op} {ty : TypeId} {pos : String} {af : Array Edge} {sv : SV} (hi : ops[i]? = some ⟨some t, op, ty, pos, af, none⟩) (ht : Nat.blt t s.n = true)
    (hl : Lt P C s ⟨some t, op, ty, pos, af, none⟩ sv) (next : VL late P C ops n (listed.setIfInBounds i true) K (s.put t sv)) : StepV late P C ops n listed K s i := by
  intro m a w hs
  obtain ⟨v, hrun, hv⟩ := hl m a w hs
  have hy : yieldsE P ops ⟨some t, op, ty, pos, af, none⟩ v a w := .inl ⟨by simp [Region.wanted], hrun⟩
  exact hy.op hi ⟨.inl (ExtW.refl w), next m _ _ (hs.put (blt_lt ht) hv)⟩
theorem sv_one (i : Nat) {o : Oper} (hi : ops[i]? = some o) (hlate : late.contains i = true)
    (h : VO P C ops [o] (fun e s' => e = .normal ∧ VL late P C ops n (listed.setIfInBounds i true) K s') s) : StepV late P C ops n listed K s i := by
  intro m a w hs
  have h1 := h a w ⟨m, hs⟩
  have hfin : ∀ a' w', wpList P ops (post C (fun e s' => e = .normal ∧ VL late P C ops n (listed.setIfInBounds i true) K s')) [] a' w' → (ExtW w w' ∨ late.contains i = true) ∧ anyL late P ops (post0 C K) n (listed.setIfInBounds i true) a' w' := by
    rintro a' w' ⟨s', ⟨m', hs'⟩, _, h2⟩
    exact ⟨.inr hlate, h2 m' a' w' hs'⟩
  have hpost : ∀ e a' w', e ≠ .normal → post C (fun e s' => e = .normal ∧ VL late P C ops n (listed.setIfInBounds i true) K s') e a' w' → post0 C K e a' w' := by
    rintro e a' w' hne ⟨s', _, h2, _⟩
    exact absurd h2 hne
  unfold wpOp
  simp only [hi]
  unfold wpList at h1
  by_cases hw : Region.wanted o (yielded ops a.tmps) = true
  · rw [if_pos hw] at h1 ⊢
    rcases h1 with h1 | ⟨h1, a2, w2, h2⟩
    · exact .inl (wp_mono2 hpost hfin h1)
    · exact .inr ⟨h1, a2, w2, hpost _ _ _ (by simp) h2⟩
  · rw [if_neg hw] at h1 ⊢
    exact hfin _ _ h1
end
section
variable {P : Program} {C : Ctx} {s : St} {t : Nat} {ty : TypeId} {pos : String} {af : Array Edge}
theorem l0_index_ref {x i : Operand} {f2 : Bool} {id R e : Nat} {nl : Option Bool} {xs : List PV} {T el : TypeId} {k : IntKind} {n : Int} {inf : TypeInfo} 
 (hx : getO s.env x = .ref id) (hrow : (s.rows[id]?).bind Row.sl = some (R, e, nl, xs)) (hi : getO s.env i = .pv f2 (.int k n)) (hT : P.underlying T = some (.slice el)) (hinf : P.info? el = some inf) (hsz : inf.size = e)
 (h0 : 0 ≤ n) (hn : n < xs.length) : Lt0 P C s ⟨some t, .indexAddr T x i, ty, pos, af, none⟩ ((.ptr id e n.toNat 0)) := by
  intro m a w hs
  have e2 := hs.int hi
  obtain ⟨hv, hid⟩ := hs.row hx
  obtain ⟨j, rfl⟩ := Int.eq_ofNat_of_zero_le h0
  have hj : j < xs.length := by omega
  obtain ⟨⟨vals, hown⟩, _, _, _⟩ := hs.sl hrow
  · rcases hown.2 with ⟨e0, hn0⟩ | ⟨g, cap, cur, e0, _, hh, hle, hmx, hsz', htk⟩
    · omega
    · rw [e0] at hv
      refine ⟨.pointer (some ⟨g, j * e, none⟩), fun _ => ?_, ?_⟩
      · have hadd : (⟨g, 0, none⟩ : Addr).add (j * e) = ⟨g, j * e, none⟩ := by
          unfold Addr.add
          split
          · rename_i h0; simp [h0]
          · simp
        simp [execOp, Instr.indexAt, hv, e2, asIntOf, run_underlying hT, sizeOf, typeInfo, hinf, hsz, hj, hadd]
      · simp only [Int.toNat_natCast]
        exact .ptr id e j 0 g hid (by rw [e0]; rfl)
end
end Go.Vl

namespace Go.Vl
set_option linter.unusedVariables false
set_option linter.unusedSimpArgs false
open Go.Proofs

theorem findP_app {v : Int × Int} : ∀ (a t : List (Int × Int)) (i : Int), 0 ≤ i → 0 ≤ findP v a i → findP v (a ++ t) i = findP v a i
  | [], t, i, hi, h => by simp [findP] at h
  | x :: a, t, i, hi, h => by
    rw [List.cons_append]
    unfold findP at h ⊢
    split
    · rfl
    · rename_i hx
      rw [if_neg hx] at h
      exact findP_app a t (i+1) (by omega) h
theorem findP_pre {v : Int × Int} {a b : List (Int × Int)} (h : a <+: b) (h2 : 0 ≤ findP v a 0) : findP v b 0 = findP v a 0 := by
  obtain ⟨t, rfl⟩ := h
  exact findP_app a t 0 (Int.le_refl _) h2
theorem findP_at {v : Int × Int} : ∀ (a : List (Int × Int)) (i : Int), 0 ≤ i → 0 ≤ findP v a i → i ≤ findP v a i ∧ findP v a i < i + a.length ∧ a.getD (findP v a i - i).toNat (0, 0) = v
  | [], i, hi, h => by simp [findP] at h
  | x :: a, i, hi, h => by
    unfold findP at h ⊢
    split
    · rename_i hx
      refine ⟨Int.le_refl _, by rw [List.length_cons]; omega, ?_⟩
      rw [show (i - i).toNat = 0 by omega]
      exact Prod.ext hx.1 hx.2
    · rename_i hx
      rw [if_neg hx] at h
      obtain ⟨h1, h2, h3⟩ := findP_at a (i+1) (by omega) h
      refine ⟨by omega, by rw [List.length_cons]; omega, ?_⟩
      rw [show (findP v a (i+1) - i).toNat = (findP v a (i+1) - (i+1)).toNat + 1 by omega]
      exact h3
theorem fld_mem {b s : List (List Int)} (hs : VS b s) : ∀ c : Nat, c < b.length → ∀ p ∈ fldM b s c, p.1 ∈ abvR b c ∧ p.2 ∈ s.getD p.1.toNat [] := by
  intro c
  induction c using Nat.strongRecOn with
  | ind c ih =>
    intro hc p hp
    by_cases hb : bstM b s c < 0
    · rw [fldM_no hb] at hp; cases hp
    · have hc0 : c ≠ 0 := fun e => hb (by unfold bstM; rw [if_pos e]; omega)
      obtain ⟨g1, g2, g3, g4⟩ := (bst_spec hs hc hc0).2 (by omega)
      rw [fldM_eq hs hc (by omega)] at hp
      rcases List.mem_append.1 hp with h | h
      · obtain ⟨k1, k2⟩ := ih (bstM b s c).toNat (by omega) (by omega) p h
        rw [show (((bstM b s c).toNat : Nat) : Int) = bstM b s c by omega] at k1
        exact ⟨abvR_up hs.1 hc g1 k1, k2⟩
      · obtain ⟨n, h1, rfl⟩ := List.mem_map.1 h
        exact ⟨abvR_self hs.1 (by omega) (by omega), by simpa using h1⟩
/-- What the law asks of a place. -/
structure PlL (B S : List (List Int)) (z o n : Int) : Prop where
  sol : 0 ≤ solR B S z
  lt : findP (o, n) (fldQ B S z) 0 < (fldQ B S z).length
  get : (fldQ B S z).getD (findP (o, n) (fldQ B S z) 0).toNat (0, 0) = (o, n)
  abv : o ∈ abvR B z
  nm : n ∈ S.getD o.toNat []
  bel : ∀ x ∈ belR B z, 0 ≤ solR B S x → findP (o, n) (fldQ B S x) 0 = findP (o, n) (fldQ B S z) 0
theorem plL_of {B S : List (List Int)} {z o n : Int} (h : 0 ≤ findP (o, n) (fldQ B S z) 0) : PlL B S z o n := by
  have hsol : 0 ≤ solR B S z := by
    rcases ilt_ge (solR B S z) 0 with h1 | h1
    · rw [fldQ_no h1] at h; simp [findP] at h
    · exact h1
  obtain ⟨h1, h2, h3⟩ := findP_at _ 0 (Int.le_refl _) h
  rw [show findP (o, n) (fldQ B S z) 0 - 0 = findP (o, n) (fldQ B S z) 0 by omega] at h3
  obtain ⟨⟨hv, h0, hz1⟩, hm⟩ := solR_ok hsol
  have hmem : (o, n) ∈ fldM B S z.toNat := by
    rw [← fldQ_M hsol, ← h3]
    exact getD_mem (by omega) (0, 0)
  obtain ⟨k1, k2⟩ := fld_mem hv z.toNat (by omega) _ hmem
  rw [show ((z.toNat : Nat) : Int) = z by omega] at k1
  refine ⟨hsol, by omega, h3, k1, k2, fun x hx hsx => ?_⟩
  have hne : belR B z ≠ [] := fun e => by rw [e] at hx; cases hx
  obtain ⟨⟨_, hx0, hx1⟩, _⟩ := solR_ok hsx
  have hxa : z ∈ abvR B x := by
    have := (belR_mem hne (k := x.toNat) (by omega)).1 (by rwa [show ((x.toNat : Nat) : Int) = x by omega])
    rwa [show ((x.toNat : Nat) : Int) = x by omega] at this
  exact findP_pre (fldQ_pre hsx hxa).2 h

theorem DrawPlaceOf_sat {nl : Option Bool} {c : List (Fin 256)} (hl : c.length < 1000000000) : SatAt Try.prog 23 [.pv false (.sl nl 1 (c.map byteP))] [] (fun res rows => ∃ (B S : List (List Int)) (z o n : Int) (f : Bool), (1 ≤ B.length ∧ B.length ≤ 10 ∧ (∀ l ∈ B, l.length ≤ 3) ∧ -1 ≤ z ∧ z ≤ 12 ∧ S.length = B.length ∧ (∀ l ∈ S, l.length ≤ 3) ∧ 0 ≤ o ∧ o < B.length) ∧ res = [.pv f (.sl (some false) 1 (B.map ints)), .ref 0, i64 z, i64 o, i64 n] ∧ rows = [Row.own 30 1 (some false) true (S.map ints)]) := by
  refine sat_entry_g5 (ts := [2, 3, 4, 5, 6]) Try.func23 rfl rfl (by decide) (Nat.le_of_ble_eq_true rfl) fun C hC => ?_
  rw [Try.ntmps23]
  replace hC : C.nb = 0 := hC
  refine vc_seq fun K1 hK1 => ?_
  refine vc_region ?_
  refine vo_assign_pv rfl rfl ?_
  refine vo_assign_pv rfl rfl ?_
  refine vo_assign_pv rfl rfl ?_
  refine vo_assign_pv rfl rfl ?_
  refine vo_assign_pv rfl rfl ?_
  refine vo_nil ?_
  refine hK1 _ ?_
  refine vc_seq fun K2 hK2 => ?_
  refine vc_region ?_
  refine vo_move_pv rfl rfl ?_
  refine vo_call [] Try.func37 rfl rfl rfl rfl rfl rfl rfl (newReader_sat hl) ?_
  rintro _ _ ⟨nl2, c2, hc, rfl, rfl⟩
  refine ⟨Nat.le_of_ble_eq_true rfl, ⟨rfl, rfl, rfl⟩, .inl rfl, ?_⟩
  refine vo_stN ?_
  refine vo_assign_ptr rfl rfl ?_
  refine vo_nil ?_
  refine hK2 _ ?_
  refine vc_seq fun K3 hK3 => ?_
  refine vc_region ?_
  refine vo_move_ptr rfl rfl ?_
  refine vo_call [0] Try.func36 rfl rfl rfl rfl rfl rfl rfl (slotsOf_sat hc (by omega)) ?_
  rintro _ _ ⟨B, S, q, z, f, ⟨⟨h1, h2, h3, h5, h6, h7, h8⟩, h4⟩, rfl, rfl⟩
  refine ⟨Nat.le_of_ble_eq_true rfl, ⟨rfl, rfl, rfl⟩, .inl rfl, ?_⟩
  refine vo_stN ?_
  refine vo_move rfl ?_
  refine vo_extract rfl rfl rfl ?_
  refine vo_extract rfl rfl rfl ?_
  refine vo_extract rfl rfl rfl ?_
  refine vo_assign_pv rfl rfl ?_
  refine vo_assign_ref rfl rfl ?_
  refine vo_assign_pv rfl rfl ?_
  refine vo_nil ?_
  refine hK3 _ ?_
  refine vc_seq fun K4 hK4 => ?_
  refine vc_region ?_
  refine vo_move_ptr rfl rfl ?_
  refine vo_move_pv rfl rfl ?_
  refine vo_len_pv rfl rfl Try.underlying23 ?_
  refine vo_call [0] Try.func46 rfl rfl rfl rfl rfl rfl rfl (pick_sat hc (by omega)) ?_
  rintro _ _ ⟨o, ⟨ho0, ho1⟩, rfl, rfl⟩
  refine ⟨Nat.le_of_ble_eq_true rfl, ⟨rfl, rfl, rfl⟩, .inl rfl, ?_⟩
  refine vo_stN ?_
  have hBm : (List.map ints B).length = B.length := List.length_map ..
  have hSm : (List.map ints S).length = S.length := List.length_map ..
  have ho2 := ho1 (by omega)
  refine vo_assign_pv rfl rfl ?_
  refine vo_nil ?_
  refine hK4 _ ?_
  refine vc_seq fun K5 hK5 => ?_
  refine vc_region ?_
  refine vo_move_ptr rfl rfl ?_
  refine vo_call [0] Try.func46 rfl rfl rfl rfl rfl rfl rfl (pick_sat hc (by omega)) ?_
  rintro _ _ ⟨y, ⟨hy0, hy1⟩, rfl, rfl⟩
  refine ⟨Nat.le_of_ble_eq_true rfl, ⟨rfl, rfl, rfl⟩, .inl rfl, ?_⟩
  refine vo_stN ?_
  refine vo_assign_pv rfl rfl ?_
  refine vo_nil ?_
  refine hK5 _ ?_
  refine vc_seq fun K6 hK6 => ?_
  refine vc_seq fun K7 hK7 => ?_
  refine vc_region ?_
  refine vo_move_ref rfl rfl ?_
  refine vo_move_pv rfl rfl ?_
  refine vo_index_ref rfl rfl rfl rfl E23.und inf30 sz30 sd sd ?_
  try simp only [Int.toNat_natCast]
  refine vo_load_own rfl rfl rfl Try.underlying30 rfl sd (getD_intss _ _) rfl ?_
  try simp only [Int.toNat_natCast]
  refine vo_len_pv rfl rfl Try.underlying30 ?_
  refine vo_binI rfl rfl rfl rfl trivial ?_
  refine vo_move_pv rfl rfl ?_
  refine vo_split 33 rfl (fun hg1 => ?_) (fun hg1 => ?_)
  · try simp only [decide_eq_true_eq, decide_eq_false_iff_not, beq_iff_eq, bne_iff_ne, beq_eq_false_iff_ne, bne_eq_false_iff_eq, Bool.not_eq_true, Bool.not_eq_false, Bool.not_eq_eq_eq_not, Bool.not_true, Bool.not_false, List.length_map, Int.not_lt, Int.not_le, ne_eq, Decidable.not_not] at hg1
    refine vo_guard_on rfl rfl rfl ?_
    refine vo_move_ptr rfl rfl ?_
    refine vo_guard_on rfl rfl rfl ?_
    refine vo_call [0] Try.func46 rfl rfl rfl rfl rfl rfl rfl (pick_sat hc (by omega)) ?_
    rintro _ _ ⟨u, ⟨hu0, hu1⟩, rfl, rfl⟩
    refine ⟨Nat.le_of_ble_eq_true rfl, ⟨rfl, rfl, rfl⟩, .inl rfl, ?_⟩
    refine vo_stN ?_
    refine vo_guard_on rfl rfl rfl ?_
    refine vo_binI rfl rfl rfl rfl trivial ?_
    refine vo_pick_t rfl rfl ?_
    refine vo_nil ?_
    refine hK7 _ ?_
    refine vc_cond rfl (fun hc2 => ?_) (fun hc2 => ?_)
    · try simp only [decide_eq_true_eq, decide_eq_false_iff_not, beq_iff_eq, bne_iff_ne, beq_eq_false_iff_ne, bne_eq_false_iff_eq, Bool.not_eq_true, Bool.not_eq_false, Bool.not_eq_eq_eq_not, Bool.not_true, Bool.not_false, List.length_map, Int.not_lt, Int.not_le, ne_eq, Decidable.not_not] at hc2
      refine vc_drawL [10] (by kernel_rfl) ?_
      change VL [10] _ _ _ 14 _ _ _
      refine vl_light0 0 rfl rfl rfl (by kernel_rfl) (by kernel_rfl) (by kernel_rfl) (wnt_none rfl) (l0_move_ref rfl) ?_
      refine vl_light0 1 rfl rfl rfl (by kernel_rfl) (by kernel_rfl) (by kernel_rfl) (wnt_none rfl) (l0_move_pv rfl) ?_
      refine vl_light0 2 rfl rfl rfl (by kernel_rfl) (by kernel_rfl) (by kernel_rfl) (wnt_none rfl) (l0_index_ref rfl rfl rfl E23.und inf30 sz30 sd sd) ?_
      try simp only [Int.toNat_natCast]
      refine vl_light0 4 rfl rfl rfl (by kernel_rfl) (by kernel_rfl) (by kernel_rfl) (wnt_none rfl) (l0_move_ptr rfl) ?_
      refine vl_light0 5 rfl rfl rfl (by kernel_rfl) (by kernel_rfl) (by kernel_rfl) (wnt_none rfl) (l0_move_ref rfl) ?_
      refine vl_light0 6 rfl rfl rfl (by kernel_rfl) (by kernel_rfl) (by kernel_rfl) (wnt_none rfl) (l0_move_pv rfl) ?_
      refine vl_light0 7 rfl rfl rfl (by kernel_rfl) (by kernel_rfl) (by kernel_rfl) (wnt_none rfl) (l0_index_ref rfl rfl rfl E23.und inf30 sz30 sd sd) ?_
      try simp only [Int.toNat_natCast]
      refine vl_any2 3 8 (by kernel_rfl) ?_ ?_
      · refine sv_light 3 rfl rfl (lt_load_own rfl rfl Try.underlying30 rfl sd (getD_intss _ _) rfl) ?_
        try simp only [Int.toNat_natCast]
        refine vl_any1 8 (by kernel_rfl) ?_
        · refine sv_light 8 rfl rfl (lt_load_own rfl rfl Try.underlying30 rfl sd (getD_intss _ _) rfl) ?_
          try simp only [Int.toNat_natCast]
          refine vl_any1 9 (by kernel_rfl) ?_
          · refine sv_light 9 rfl rfl (lt_len_pv rfl Try.underlying30) ?_
            refine vl_any1 10 (by kernel_rfl) ?_
            · refine sv_one 10 rfl (by kernel_rfl) ?_
              refine vo_call [0] Try.func46 rfl rfl rfl rfl rfl rfl rfl (pick_sat hc (by omega)) ?_
              rintro _ _ ⟨v, ⟨hv0, hv1⟩, rfl, rfl⟩
              refine ⟨Nat.le_of_ble_eq_true rfl, ⟨rfl, rfl, rfl⟩, .inl rfl, ?_⟩
              refine vo_stN ?_
              have hv2 := hv1 (by rw [List.length_map]; omega)
              refine vo_done ⟨rfl, ?_⟩
              refine vl_any1 11 (by kernel_rfl) ?_
              · refine sv_light 11 rfl rfl (lt_index_pv (.int .i64 0) rfl rfl E30.und inf3 sz3 sd sd) ?_
                simp only [Int.toNat_natCast, Int.toNat_zero, getD_ints, getD_intss, getD_bools, getD_bytes, PV.cells]
                refine vl_any1 12 (by kernel_rfl) ?_
                · refine sv_light 12 rfl rfl (lt_load_adr rfl Try.underlying3 rfl) ?_
                  refine vl_any1 13 (by kernel_rfl) ?_
                  · refine sv_light 13 rfl rfl (lt_assign_pv rfl) ?_
                    refine vl_nil (by kernel_rfl) ?_
                    refine hK6 _ ?_
                    refine vc_seq fun K8 hK8 => ?_
                    refine vc_region ?_
                    refine vo_move_pv rfl rfl ?_
                    refine vo_move_ref rfl rfl ?_
                    refine vo_move_pv rfl rfl ?_
                    refine vo_move_pv rfl rfl ?_
                    refine vo_move_pv rfl rfl ?_
                    refine vo_assign_pv rfl rfl ?_
                    refine vo_assign_ref rfl rfl ?_
                    refine vo_assign_pv rfl rfl ?_
                    refine vo_assign_pv rfl rfl ?_
                    refine vo_assign_pv rfl rfl ?_
                    refine vo_nil ?_
                    refine hK8 _ ?_
                    refine vc_ret ?_
                    change retG _ _ _ _ _
                    refine retG_one 1 hC rfl rfl rfl rfl rfl ?_
                    exact ⟨_, _, _, _, _, _, ⟨h1, h2, h3, h5, h6, h7, h8, by omega, by omega⟩, rfl, rfl⟩
      · refine sv_light 8 rfl rfl (lt_load_own rfl rfl Try.underlying30 rfl sd (getD_intss _ _) rfl) ?_
        try simp only [Int.toNat_natCast]
        refine vl_any2 3 9 (by kernel_rfl) ?_ ?_
        · refine sv_light 3 rfl rfl (lt_load_own rfl rfl Try.underlying30 rfl sd (getD_intss _ _) rfl) ?_
          try simp only [Int.toNat_natCast]
          refine vl_any1 9 (by kernel_rfl) ?_
          · refine sv_light 9 rfl rfl (lt_len_pv rfl Try.underlying30) ?_
            refine vl_any1 10 (by kernel_rfl) ?_
            · refine sv_one 10 rfl (by kernel_rfl) ?_
              refine vo_call [0] Try.func46 rfl rfl rfl rfl rfl rfl rfl (pick_sat hc (by omega)) ?_
              rintro _ _ ⟨v, ⟨hv0, hv1⟩, rfl, rfl⟩
              refine ⟨Nat.le_of_ble_eq_true rfl, ⟨rfl, rfl, rfl⟩, .inl rfl, ?_⟩
              refine vo_stN ?_
              have hv2 := hv1 (by rw [List.length_map]; omega)
              refine vo_done ⟨rfl, ?_⟩
              refine vl_any1 11 (by kernel_rfl) ?_
              · refine sv_light 11 rfl rfl (lt_index_pv (.int .i64 0) rfl rfl E30.und inf3 sz3 sd sd) ?_
                simp only [Int.toNat_natCast, Int.toNat_zero, getD_ints, getD_intss, getD_bools, getD_bytes, PV.cells]
                refine vl_any1 12 (by kernel_rfl) ?_
                · refine sv_light 12 rfl rfl (lt_load_adr rfl Try.underlying3 rfl) ?_
                  refine vl_any1 13 (by kernel_rfl) ?_
                  · refine sv_light 13 rfl rfl (lt_assign_pv rfl) ?_
                    refine vl_nil (by kernel_rfl) ?_
                    refine hK6 _ ?_
                    refine vc_seq fun K9 hK9 => ?_
                    refine vc_region ?_
                    refine vo_move_pv rfl rfl ?_
                    refine vo_move_ref rfl rfl ?_
                    refine vo_move_pv rfl rfl ?_
                    refine vo_move_pv rfl rfl ?_
                    refine vo_move_pv rfl rfl ?_
                    refine vo_assign_pv rfl rfl ?_
                    refine vo_assign_ref rfl rfl ?_
                    refine vo_assign_pv rfl rfl ?_
                    refine vo_assign_pv rfl rfl ?_
                    refine vo_assign_pv rfl rfl ?_
                    refine vo_nil ?_
                    refine hK9 _ ?_
                    refine vc_ret ?_
                    change retG _ _ _ _ _
                    refine retG_one 1 hC rfl rfl rfl rfl rfl ?_
                    exact ⟨_, _, _, _, _, _, ⟨h1, h2, h3, h5, h6, h7, h8, by omega, by omega⟩, rfl, rfl⟩
        · refine sv_light 9 rfl rfl (lt_len_pv rfl Try.underlying30) ?_
          refine vl_any2 3 10 (by kernel_rfl) ?_ ?_
          · refine sv_light 3 rfl rfl (lt_load_own rfl rfl Try.underlying30 rfl sd (getD_intss _ _) rfl) ?_
            try simp only [Int.toNat_natCast]
            refine vl_any1 10 (by kernel_rfl) ?_
            · refine sv_one 10 rfl (by kernel_rfl) ?_
              refine vo_call [0] Try.func46 rfl rfl rfl rfl rfl rfl rfl (pick_sat hc (by omega)) ?_
              rintro _ _ ⟨v, ⟨hv0, hv1⟩, rfl, rfl⟩
              refine ⟨Nat.le_of_ble_eq_true rfl, ⟨rfl, rfl, rfl⟩, .inl rfl, ?_⟩
              refine vo_stN ?_
              have hv2 := hv1 (by rw [List.length_map]; omega)
              refine vo_done ⟨rfl, ?_⟩
              refine vl_any1 11 (by kernel_rfl) ?_
              · refine sv_light 11 rfl rfl (lt_index_pv (.int .i64 0) rfl rfl E30.und inf3 sz3 sd sd) ?_
                simp only [Int.toNat_natCast, Int.toNat_zero, getD_ints, getD_intss, getD_bools, getD_bytes, PV.cells]
                refine vl_any1 12 (by kernel_rfl) ?_
                · refine sv_light 12 rfl rfl (lt_load_adr rfl Try.underlying3 rfl) ?_
                  refine vl_any1 13 (by kernel_rfl) ?_
                  · refine sv_light 13 rfl rfl (lt_assign_pv rfl) ?_
                    refine vl_nil (by kernel_rfl) ?_
                    refine hK6 _ ?_
                    refine vc_seq fun K10 hK10 => ?_
                    refine vc_region ?_
                    refine vo_move_pv rfl rfl ?_
                    refine vo_move_ref rfl rfl ?_
                    refine vo_move_pv rfl rfl ?_
                    refine vo_move_pv rfl rfl ?_
                    refine vo_move_pv rfl rfl ?_
                    refine vo_assign_pv rfl rfl ?_
                    refine vo_assign_ref rfl rfl ?_
                    refine vo_assign_pv rfl rfl ?_
                    refine vo_assign_pv rfl rfl ?_
                    refine vo_assign_pv rfl rfl ?_
                    refine vo_nil ?_
                    refine hK10 _ ?_
                    refine vc_ret ?_
                    change retG _ _ _ _ _
                    refine retG_one 1 hC rfl rfl rfl rfl rfl ?_
                    exact ⟨_, _, _, _, _, _, ⟨h1, h2, h3, h5, h6, h7, h8, by omega, by omega⟩, rfl, rfl⟩
          · refine sv_one 10 rfl (by kernel_rfl) ?_
            refine vo_call [0] Try.func46 rfl rfl rfl rfl rfl rfl rfl (pick_sat hc (by omega)) ?_
            rintro _ _ ⟨v, ⟨hv0, hv1⟩, rfl, rfl⟩
            refine ⟨Nat.le_of_ble_eq_true rfl, ⟨rfl, rfl, rfl⟩, .inl rfl, ?_⟩
            refine vo_stN ?_
            have hv2 := hv1 (by rw [List.length_map]; omega)
            refine vo_done ⟨rfl, ?_⟩
            refine vl_any1 3 (by kernel_rfl) ?_
            · refine sv_light 3 rfl rfl (lt_load_own rfl rfl Try.underlying30 rfl sd (getD_intss _ _) rfl) ?_
              try simp only [Int.toNat_natCast]
              refine vl_any1 11 (by kernel_rfl) ?_
              · refine sv_light 11 rfl rfl (lt_index_pv (.int .i64 0) rfl rfl E30.und inf3 sz3 sd sd) ?_
                simp only [Int.toNat_natCast, Int.toNat_zero, getD_ints, getD_intss, getD_bools, getD_bytes, PV.cells]
                refine vl_any1 12 (by kernel_rfl) ?_
                · refine sv_light 12 rfl rfl (lt_load_adr rfl Try.underlying3 rfl) ?_
                  refine vl_any1 13 (by kernel_rfl) ?_
                  · refine sv_light 13 rfl rfl (lt_assign_pv rfl) ?_
                    refine vl_nil (by kernel_rfl) ?_
                    refine hK6 _ ?_
                    refine vc_seq fun K11 hK11 => ?_
                    refine vc_region ?_
                    refine vo_move_pv rfl rfl ?_
                    refine vo_move_ref rfl rfl ?_
                    refine vo_move_pv rfl rfl ?_
                    refine vo_move_pv rfl rfl ?_
                    refine vo_move_pv rfl rfl ?_
                    refine vo_assign_pv rfl rfl ?_
                    refine vo_assign_ref rfl rfl ?_
                    refine vo_assign_pv rfl rfl ?_
                    refine vo_assign_pv rfl rfl ?_
                    refine vo_assign_pv rfl rfl ?_
                    refine vo_nil ?_
                    refine hK11 _ ?_
                    refine vc_ret ?_
                    change retG _ _ _ _ _
                    refine retG_one 1 hC rfl rfl rfl rfl rfl ?_
                    exact ⟨_, _, _, _, _, _, ⟨h1, h2, h3, h5, h6, h7, h8, by omega, by omega⟩, rfl, rfl⟩
    · try simp only [decide_eq_true_eq, decide_eq_false_iff_not, beq_iff_eq, bne_iff_ne, beq_eq_false_iff_ne, bne_eq_false_iff_eq, Bool.not_eq_true, Bool.not_eq_false, Bool.not_eq_eq_eq_not, Bool.not_true, Bool.not_false, List.length_map, Int.not_lt, Int.not_le, ne_eq, Decidable.not_not] at hc2
      refine vc_skip ?_
      refine hK6 _ ?_
      refine vc_seq fun K12 hK12 => ?_
      refine vc_region ?_
      refine vo_move_pv rfl rfl ?_
      refine vo_move_ref rfl rfl ?_
      refine vo_move_pv rfl rfl ?_
      refine vo_move_pv rfl rfl ?_
      refine vo_move_pv rfl rfl ?_
      refine vo_assign_pv rfl rfl ?_
      refine vo_assign_ref rfl rfl ?_
      refine vo_assign_pv rfl rfl ?_
      refine vo_assign_pv rfl rfl ?_
      refine vo_assign_pv rfl rfl ?_
      refine vo_nil ?_
      refine hK12 _ ?_
      refine vc_ret ?_
      change retG _ _ _ _ _
      refine retG_one 1 hC rfl rfl rfl rfl rfl ?_
      exact ⟨_, _, _, _, _, _, ⟨h1, h2, h3, h5, h6, h7, h8, by omega, by omega⟩, rfl, rfl⟩
  · try simp only [decide_eq_true_eq, decide_eq_false_iff_not, beq_iff_eq, bne_iff_ne, beq_eq_false_iff_ne, bne_eq_false_iff_eq, Bool.not_eq_true, Bool.not_eq_false, Bool.not_eq_eq_eq_not, Bool.not_true, Bool.not_false, List.length_map, Int.not_lt, Int.not_le, ne_eq, Decidable.not_not] at hg1
    refine vo_guard_off rfl rfl rfl rfl rfl ?_
    refine vo_guard_off rfl rfl rfl rfl rfl ?_
    refine vo_guard_off rfl rfl rfl rfl rfl ?_
    refine vo_pick_f rfl rfl ?_
    refine vo_nil ?_
    refine hK7 _ ?_
    refine vc_cond_f rfl ?_
    refine vc_skip ?_
    refine hK6 _ ?_
    refine vc_seq fun K13 hK13 => ?_
    refine vc_region ?_
    refine vo_move_pv rfl rfl ?_
    refine vo_move_ref rfl rfl ?_
    refine vo_move_pv rfl rfl ?_
    refine vo_move_pv rfl rfl ?_
    refine vo_move_pv rfl rfl ?_
    refine vo_assign_pv rfl rfl ?_
    refine vo_assign_ref rfl rfl ?_
    refine vo_assign_pv rfl rfl ?_
    refine vo_assign_pv rfl rfl ?_
    refine vo_assign_pv rfl rfl ?_
    refine vo_nil ?_
    refine hK13 _ ?_
    refine vc_ret ?_
    change retG _ _ _ _ _
    refine retG_one 1 hC rfl rfl rfl rfl rfl ?_
    exact ⟨_, _, _, _, _, _, ⟨h1, h2, h3, h5, h6, h7, h8, by omega, by omega⟩, rfl, rfl⟩


theorem FnPlaceOf_sat {nl : Option Bool} {c : List (Fin 256)} : SatAt Try.prog 6 [.pv false (.sl nl 1 (c.map byteP))] [] (fun res rows => res = [bo true] ∧ rows = []) := by
  refine sat_entry (ts := [2]) Try.func6 rfl rfl (by decide) (Nat.le_of_ble_eq_true rfl) fun C hC => ?_
  rw [Try.ntmps6]
  replace hC : C.nb = 0 := hC
  refine vc_seq fun K1 hK1 => ?_
  refine vc_region ?_
  refine vo_assign_pv rfl rfl ?_
  refine vo_nil ?_
  refine hK1 _ ?_
  refine vc_seq fun K2 hK2 => ?_
  refine vc_seq fun K3 hK3 => ?_
  refine vc_region ?_
  refine vo_move_pv rfl rfl ?_
  refine vo_len_pv rfl rfl Try.underlying22 ?_
  refine vo_binI rfl rfl rfl rfl trivial ?_
  refine vo_nil ?_
  refine hK3 _ ?_
  refine vc_cond rfl (fun hc1 => ?_) (fun hc1 => ?_)
  · try simp only [decide_eq_true_eq, decide_eq_false_iff_not, beq_iff_eq, bne_iff_ne, beq_eq_false_iff_ne, bne_eq_false_iff_eq, Bool.not_eq_true, Bool.not_eq_false, Bool.not_eq_eq_eq_not, Bool.not_true, Bool.not_false, List.length_map, Int.not_lt, Int.not_le, ne_eq, Decidable.not_not] at hc1
    refine vc_seq fun K4 hK4 => ?_
    refine vc_region ?_
    refine vo_assign_pv rfl rfl ?_
    refine vo_nil ?_
    refine hK4 _ ?_
    refine vc_ret ?_
    change retPv _ _ _ _ _
    refine retPv_mk rfl rfl rfl ⟨?_, rfl⟩
    rfl
  · try simp only [decide_eq_true_eq, decide_eq_false_iff_not, beq_iff_eq, bne_iff_ne, beq_eq_false_iff_ne, bne_eq_false_iff_eq, Bool.not_eq_true, Bool.not_eq_false, Bool.not_eq_eq_eq_not, Bool.not_true, Bool.not_false, List.length_map, Int.not_lt, Int.not_le, ne_eq, Decidable.not_not] at hc1
    refine vc_skip ?_
    refine hK2 _ ?_
    refine vc_seq fun K5 hK5 => ?_
    refine vc_region ?_
    refine vo_move_pv rfl rfl ?_
    refine vo_call [] Try.func23 rfl rfl rfl rfl rfl rfl rfl (DrawPlaceOf_sat (by omega)) ?_
    rintro _ _ ⟨B, S, z, o, n, f, ⟨h1, h2, h3, h5, h6, h7, h8, h9, h10⟩, rfl, rfl⟩
    refine ⟨Nat.le_of_ble_eq_true rfl, ⟨rfl, rfl, rfl⟩, .inl rfl, ?_⟩
    refine vo_stN ?_
    refine vo_move rfl ?_
    refine vo_extract rfl rfl rfl ?_
    refine vo_extract rfl rfl rfl ?_
    refine vo_extract rfl rfl rfl ?_
    refine vo_extract rfl rfl rfl ?_
    refine vo_extract rfl rfl rfl ?_
    refine vo_assign_pv rfl rfl ?_
    refine vo_assign_ref rfl rfl ?_
    refine vo_expose 0 (by omega) rfl ?_
    refine vo_stN ?_
    refine vo_assign_pv rfl rfl ?_
    refine vo_assign_pv rfl rfl ?_
    refine vo_assign_pv rfl rfl ?_
    refine vo_nil ?_
    refine hK5 _ ?_
    refine vc_seq fun K6 hK6 => ?_
    refine vc_region ?_
    refine vo_move_pv rfl rfl ?_
    refine vo_move_pv rfl rfl ?_
    refine vo_move_pv rfl rfl ?_
    refine vo_move_pv rfl rfl ?_
    refine vo_move_pv rfl rfl ?_
    refine vo_call0 Try.func24 rfl rfl rfl rfl (implPlaceOf_sat (c := z) (owner := o) (name := n) (by omega) (lt3 h3) (by omega) (lt3 h8)) ?_
    rintro _ _ ⟨rfl, rfl⟩
    refine ⟨rfl, rfl, .inl rfl, ?_⟩
    refine vo_assign_pv rfl rfl ?_
    refine vo_nil ?_
    refine hK6 _ ?_
    refine vc_seq fun K7 hK7 => ?_
    refine vc_seq fun K8 hK8 => ?_
    refine vc_region ?_
    refine vo_move_pv rfl rfl ?_
    refine vo_move_pv rfl rfl ?_
    refine vo_move_pv rfl rfl ?_
    refine vo_move_pv rfl rfl ?_
    refine vo_move_pv rfl rfl ?_
    refine vo_move_pv rfl rfl ?_
    refine vo_call0 Try.func25 rfl rfl rfl rfl (specPlaceOf_sat (c := z) (owner := o) (name := n) (by omega) (lt3 h3) (by omega) (lt3 h8)) ?_
    rintro _ _ ⟨rfl, rfl⟩
    refine ⟨rfl, rfl, .inl rfl, ?_⟩
    refine vo_binI rfl rfl rfl rfl trivial ?_
    refine vo_move_pv rfl rfl ?_
    refine vo_split 36 rfl (fun hg2 => ?_) (fun hg2 => ?_)
    · try simp only [decide_eq_true_eq, decide_eq_false_iff_not, beq_iff_eq, bne_iff_ne, beq_eq_false_iff_ne, bne_eq_false_iff_eq, Bool.not_eq_true, Bool.not_eq_false, Bool.not_eq_eq_eq_not, Bool.not_true, Bool.not_false, List.length_map, Int.not_lt, Int.not_le, ne_eq, Decidable.not_not] at hg2
      refine vo_guard_off rfl rfl rfl rfl rfl ?_
      refine vo_guard_off rfl rfl rfl rfl rfl ?_
      refine vo_pick_t rfl rfl ?_
      refine vo_nil ?_
      refine hK8 _ ?_
      refine vc_cond_t rfl ?_
      refine vc_seq fun K9 hK9 => ?_
      refine vc_region ?_
      refine vo_move_pv rfl rfl ?_
      refine vo_move_pv rfl rfl ?_
      refine vo_move_pv rfl rfl ?_
      refine vo_move_pv rfl rfl ?_
      refine vo_move_pv rfl rfl ?_
      refine vo_move_pv rfl rfl ?_
      refine vo_call0 Try.func25 rfl rfl rfl rfl (specPlaceOf_sat (c := z) (owner := o) (name := n) (by omega) (lt3 h3) (by omega) (lt3 h8)) ?_
      rintro _ _ ⟨rfl, rfl⟩
      refine ⟨rfl, rfl, .inl rfl, ?_⟩
      refine vo_binI rfl rfl rfl rfl trivial ?_
      refine vo_assign_pv rfl rfl ?_
      refine vo_nil ?_
      refine hK9 _ ?_
      refine vc_ret ?_
      change retPv _ _ _ _ _
      refine retPv_mk rfl rfl rfl ⟨?_, rfl⟩
      first | rfl | exact absurd trivial (by assumption) | exact absurd rfl (by assumption) | (refine (congrArg (fun b => [bo b]) (?_ : _ = _) : [bo _] = [bo _]); exact decide_eq_true rfl) | (exfalso; omega) | (refine (congrArg (fun b => [bo b]) (?_ : _ = _) : [bo _] = [bo _]); exact decide_eq_true q4) | exact absurd q5 (by assumption) | (exfalso; rw [q3] at hg7; simp at hg7; done) | exact absurd (hbx (by omega)) (by assumption)
    · try simp only [decide_eq_true_eq, decide_eq_false_iff_not, beq_iff_eq, bne_iff_ne, beq_eq_false_iff_ne, bne_eq_false_iff_eq, Bool.not_eq_true, Bool.not_eq_false, Bool.not_eq_eq_eq_not, Bool.not_true, Bool.not_false, List.length_map, Int.not_lt, Int.not_le, ne_eq, Decidable.not_not] at hg2
      refine vo_guard_on rfl rfl rfl ?_
      refine vo_move_pv rfl rfl ?_
      refine vo_guard_on rfl rfl rfl ?_
      refine vo_binI rfl rfl rfl rfl trivial ?_
      refine vo_pick_f rfl rfl ?_
      refine vo_nil ?_
      refine hK8 _ ?_
      refine vc_cond rfl (fun hc3 => ?_) (fun hc3 => ?_)
      · try simp only [decide_eq_true_eq, decide_eq_false_iff_not, beq_iff_eq, bne_iff_ne, beq_eq_false_iff_ne, bne_eq_false_iff_eq, Bool.not_eq_true, Bool.not_eq_false, Bool.not_eq_eq_eq_not, Bool.not_true, Bool.not_false, List.length_map, Int.not_lt, Int.not_le, ne_eq, Decidable.not_not] at hc3
        refine vc_seq fun K10 hK10 => ?_
        refine vc_region ?_
        refine vo_move_pv rfl rfl ?_
        refine vo_move_pv rfl rfl ?_
        refine vo_move_pv rfl rfl ?_
        refine vo_move_pv rfl rfl ?_
        refine vo_move_pv rfl rfl ?_
        refine vo_move_pv rfl rfl ?_
        refine vo_call0 Try.func25 rfl rfl rfl rfl (specPlaceOf_sat (c := z) (owner := o) (name := n) (by omega) (lt3 h3) (by omega) (lt3 h8)) ?_
        rintro _ _ ⟨rfl, rfl⟩
        refine ⟨rfl, rfl, .inl rfl, ?_⟩
        refine vo_binI rfl rfl rfl rfl trivial ?_
        refine vo_assign_pv rfl rfl ?_
        refine vo_nil ?_
        refine hK10 _ ?_
        refine vc_ret ?_
        change retPv _ _ _ _ _
        refine retPv_mk rfl rfl rfl ⟨?_, rfl⟩
        first | rfl | exact absurd trivial (by assumption) | exact absurd rfl (by assumption) | (refine (congrArg (fun b => [bo b]) (?_ : _ = _) : [bo _] = [bo _]); exact decide_eq_true rfl) | (exfalso; omega) | (refine (congrArg (fun b => [bo b]) (?_ : _ = _) : [bo _] = [bo _]); exact decide_eq_true q4) | exact absurd q5 (by assumption) | (exfalso; rw [q3] at hg7; simp at hg7; done) | exact absurd (hbx (by omega)) (by assumption)
      · try simp only [decide_eq_true_eq, decide_eq_false_iff_not, beq_iff_eq, bne_iff_ne, beq_eq_false_iff_ne, bne_eq_false_iff_eq, Bool.not_eq_true, Bool.not_eq_false, Bool.not_eq_eq_eq_not, Bool.not_true, Bool.not_false, List.length_map, Int.not_lt, Int.not_le, ne_eq, Decidable.not_not] at hc3
        have hpos : 0 ≤ (findP (o, n) (fldQ B S z) 0) := by omega
        obtain ⟨q1, q2, q3, q4, q5, q6⟩ := plL_of hpos
        have hbl := belR_len (c := z) (show B.length < 1000000000 by omega)
        have hqm : ((fldQ B S z).map fldP).length = (fldQ B S z).length := List.length_map ..
        refine vc_skip ?_
        refine hK7 _ ?_
        refine vc_seq fun K11 hK11 => ?_
        refine vc_region ?_
        refine vo_move_pv rfl rfl ?_
        refine vo_move_pv rfl rfl ?_
        refine vo_call [] Try.func26 rfl rfl rfl rfl rfl rfl rfl (implBelowOf_sat (c := z) (by omega) (lt3 h3)) ?_
        rintro _ _ ⟨nl7, rfl, rfl⟩
        refine ⟨Nat.le_of_ble_eq_true rfl, ⟨rfl, rfl, rfl⟩, .inl rfl, ?_⟩
        refine vo_stN ?_
        refine vo_assign_ref rfl rfl ?_
        refine vo_nil ?_
        refine hK11 _ ?_
        refine vc_seq fun K12 hK12 => ?_
        refine vc_seq fun K13 hK13 => ?_
        refine vc_region ?_
        refine vo_assign_pv rfl rfl ?_
        refine vo_nil ?_
        refine hK13 _ ?_
        refine vc_block ?_
        refine vc_stN ?_
        refine vc_loopF [3, 4, 5, 6, 7, 8, 9] [10] [_, _, _, _, _, _, .ref 1] _ (fun mz vs => ∃ (k : Nat), mz = (belR B z).length - k ∧ (k ≤ (belR B z).length) ∧ vs = [i64 k]) ((belR B z).length) rfl rfl (le_len hC rfl) ⟨rfl, rfl, rfl⟩ ⟨0, rfl, Nat.zero_le _, rfl⟩ ?_
        rintro mz vs - ⟨k, rfl, hk, rfl⟩
        refine vc_stN ?_
        refine vc_seq fun K14 hK14 => ?_
        refine vc_seq fun K15 hK15 => ?_
        refine vc_region ?_
        refine vo_move_pv rfl rfl ?_
        refine vo_move_ref rfl rfl ?_
        refine vo_len_ref rfl rfl rfl Try.underlying30 ?_
        refine vo_binI rfl rfl rfl rfl trivial ?_
        refine vo_nil ?_
        refine hK15 _ ?_
        refine vc_cond rfl (fun hc4 => ?_) (fun hc4 => ?_)
        · try simp only [decide_eq_true_eq, decide_eq_false_iff_not, beq_iff_eq, bne_iff_ne, beq_eq_false_iff_ne, bne_eq_false_iff_eq, Bool.not_eq_true, Bool.not_eq_false, Bool.not_eq_eq_eq_not, Bool.not_true, Bool.not_false, List.length_map, Int.not_lt, Int.not_le, ne_eq, Decidable.not_not] at hc4
          have hbx := q6 _ (getD_mem (show k < (belR B z).length by omega) 0)
          refine vc_skip ?_
          refine hK14 _ ?_
          refine vc_seq fun K16 hK16 => ?_
          refine vc_block ?_
          refine vc_seq fun K17 hK17 => ?_
          refine vc_region ?_
          refine vo_move_pv rfl rfl ?_
          refine vo_move_pv rfl rfl ?_
          refine vo_move_ref rfl rfl ?_
          refine vo_move_pv rfl rfl ?_
          refine vo_index_ref rfl rfl rfl rfl E30.und inf3 sz3 sd sd ?_
          try simp only [Int.toNat_natCast]
          refine vo_load_own rfl rfl rfl Try.underlying3 rfl sd (getD_ints _ _) rfl ?_
          try simp only [Int.toNat_natCast]
          refine vo_call0 Try.func13 rfl rfl rfl rfl (implSolidOf_sat (c := ((belR B z).getD k 0)) (by omega) (lt3 h3) (by omega) (lt3 h8)) ?_
          rintro _ _ ⟨rfl, rfl⟩
          refine ⟨rfl, rfl, .inl rfl, ?_⟩
          refine vo_binI rfl rfl rfl rfl trivial ?_
          refine vo_move_pv rfl rfl ?_
          refine vo_split 65 rfl (fun hg5 => ?_) (fun hg5 => ?_)
          · try simp only [decide_eq_true_eq, decide_eq_false_iff_not, beq_iff_eq, bne_iff_ne, beq_eq_false_iff_ne, bne_eq_false_iff_eq, Bool.not_eq_true, Bool.not_eq_false, Bool.not_eq_eq_eq_not, Bool.not_true, Bool.not_false, List.length_map, Int.not_lt, Int.not_le, ne_eq, Decidable.not_not] at hg5
            refine vo_guard_on rfl rfl rfl ?_
            refine vo_move_pv rfl rfl ?_
            refine vo_guard_on rfl rfl rfl ?_
            refine vo_move_pv rfl rfl ?_
            refine vo_guard_on rfl rfl rfl ?_
            refine vo_move_ref rfl rfl ?_
            refine vo_guard_on rfl rfl rfl ?_
            refine vo_move_pv rfl rfl ?_
            refine vo_guard_on rfl rfl rfl ?_
            refine vo_index_ref rfl rfl rfl rfl E30.und inf3 sz3 sd sd ?_
            try simp only [Int.toNat_natCast]
            refine vo_guard_on rfl rfl rfl ?_
            refine vo_load_own rfl rfl rfl Try.underlying3 rfl sd (getD_ints _ _) rfl ?_
            try simp only [Int.toNat_natCast]
            refine vo_guard_on rfl rfl rfl ?_
            refine vo_move_pv rfl rfl ?_
            refine vo_guard_on rfl rfl rfl ?_
            refine vo_move_pv rfl rfl ?_
            refine vo_guard_on rfl rfl rfl ?_
            refine vo_call0 Try.func24 rfl rfl rfl rfl (implPlaceOf_sat (c := ((belR B z).getD k 0)) (owner := o) (name := n) (by omega) (lt3 h3) (by omega) (lt3 h8)) ?_
            rintro _ _ ⟨rfl, rfl⟩
            refine ⟨rfl, rfl, .inl rfl, ?_⟩
            refine vo_guard_on rfl rfl rfl ?_
            refine vo_move_pv rfl rfl ?_
            refine vo_guard_on rfl rfl rfl ?_
            refine vo_binI rfl rfl rfl rfl trivial ?_
            refine vo_pick_t rfl rfl ?_
            refine vo_nil ?_
            refine hK17 _ ?_
            refine vc_cond rfl (fun hc6 => ?_) (fun hc6 => ?_)
            · try simp only [decide_eq_true_eq, decide_eq_false_iff_not, beq_iff_eq, bne_iff_ne, beq_eq_false_iff_ne, bne_eq_false_iff_eq, Bool.not_eq_true, Bool.not_eq_false, Bool.not_eq_eq_eq_not, Bool.not_true, Bool.not_false, List.length_map, Int.not_lt, Int.not_le, ne_eq, Decidable.not_not] at hc6
              refine vc_seq fun K18 hK18 => ?_
              refine vc_region ?_
              refine vo_assign_pv rfl rfl ?_
              refine vo_nil ?_
              refine hK18 _ ?_
              refine vc_ret ?_
              change retPv _ _ _ _ _
              refine retPv_mk rfl rfl rfl ⟨?_, rfl⟩
              first | rfl | exact absurd trivial (by assumption) | exact absurd rfl (by assumption) | (refine (congrArg (fun b => [bo b]) (?_ : _ = _) : [bo _] = [bo _]); exact decide_eq_true rfl) | (exfalso; omega) | (refine (congrArg (fun b => [bo b]) (?_ : _ = _) : [bo _] = [bo _]); exact decide_eq_true q4) | exact absurd q5 (by assumption) | (exfalso; rw [q3] at hg7; simp at hg7; done) | exact absurd (hbx (by omega)) (by assumption)
            · try simp only [decide_eq_true_eq, decide_eq_false_iff_not, beq_iff_eq, bne_iff_ne, beq_eq_false_iff_ne, bne_eq_false_iff_eq, Bool.not_eq_true, Bool.not_eq_false, Bool.not_eq_eq_eq_not, Bool.not_true, Bool.not_false, List.length_map, Int.not_lt, Int.not_le, ne_eq, Decidable.not_not] at hc6
              refine vc_skip ?_
              refine hK16 _ ?_
              refine vc_region ?_
              refine vo_move_pv rfl rfl ?_
              refine vo_binI rfl rfl rfl rfl sd ?_
              refine vo_assign_pv rfl rfl ?_
              refine vo_nil ?_
              change againF _ _ _ _ _ _ _ _ _
              refine againF_mk rfl rfl rfl rfl rfl rfl ⟨_, ?_, k + 1, rfl, ?_, rfl⟩
              · omega
              · omega
          · try simp only [decide_eq_true_eq, decide_eq_false_iff_not, beq_iff_eq, bne_iff_ne, beq_eq_false_iff_ne, bne_eq_false_iff_eq, Bool.not_eq_true, Bool.not_eq_false, Bool.not_eq_eq_eq_not, Bool.not_true, Bool.not_false, List.length_map, Int.not_lt, Int.not_le, ne_eq, Decidable.not_not] at hg5
            refine vo_guard_off rfl rfl rfl rfl rfl ?_
            refine vo_guard_off rfl rfl rfl rfl rfl ?_
            refine vo_guard_off rfl rfl rfl rfl rfl ?_
            refine vo_guard_off rfl rfl rfl rfl rfl ?_
            refine vo_guard_off rfl rfl rfl rfl rfl ?_
            refine vo_guard_off rfl rfl rfl rfl rfl ?_
            refine vo_guard_off rfl rfl rfl rfl rfl ?_
            refine vo_guard_off rfl rfl rfl rfl rfl ?_
            refine vo_guard_off rfl rfl rfl rfl rfl ?_
            refine vo_guard_off rfl rfl rfl rfl rfl ?_
            refine vo_guard_off rfl rfl rfl rfl rfl ?_
            refine vo_pick_f rfl rfl ?_
            refine vo_nil ?_
            refine hK17 _ ?_
            refine vc_cond_f rfl ?_
            refine vc_skip ?_
            refine hK16 _ ?_
            refine vc_region ?_
            refine vo_move_pv rfl rfl ?_
            refine vo_binI rfl rfl rfl rfl sd ?_
            refine vo_assign_pv rfl rfl ?_
            refine vo_nil ?_
            change againF _ _ _ _ _ _ _ _ _
            refine againF_mk rfl rfl rfl rfl rfl rfl ⟨_, ?_, k + 1, rfl, ?_, rfl⟩
            · omega
            · omega
        · try simp only [decide_eq_true_eq, decide_eq_false_iff_not, beq_iff_eq, bne_iff_ne, beq_eq_false_iff_ne, bne_eq_false_iff_eq, Bool.not_eq_true, Bool.not_eq_false, Bool.not_eq_eq_eq_not, Bool.not_true, Bool.not_false, List.length_map, Int.not_lt, Int.not_le, ne_eq, Decidable.not_not] at hc4
          refine vc_exit ?_
          refine hK12 _ ?_
          refine vc_seq fun K19 hK19 => ?_
          refine vc_region ?_
          refine vo_move_pv rfl rfl ?_
          refine vo_move_pv rfl rfl ?_
          refine vo_move_pv rfl rfl ?_
          refine vo_call0 Try.func10 rfl rfl rfl rfl (implFieldsOf_sat (c := z) (by omega) (lt3 h3) (by omega) (lt3 h8)) ?_
          rintro _ _ ⟨rfl, rfl⟩
          refine ⟨rfl, rfl, .inl rfl, ?_⟩
          refine vo_move_pv rfl rfl ?_
          refine vo_index_pv (.agg [(.int .i64 0), (.int .i64 0)]) rfl rfl rfl E26.und inf33 sz33 sd sd ?_
          simp only [Int.toNat_natCast, Int.toNat_zero, getD_ints, getD_intss, getD_bools, getD_bytes, PV.cells, getD_flds]
          refine vo_load_adrS rfl rfl Try.underlying33 rfl inf33 sz33 rfl ?_
          refine vo_st (by (try simp only [St.put, PV.cells, PV.scal, List.drop_succ_cons, List.drop_zero, List.take_succ_cons, List.take_zero, List.map_cons, List.map_nil, Bool.or_true, Bool.or_false, Bool.false_or, Bool.true_or, fldP]); exact eq_refl _) ?_
          refine vo_move_pv rfl rfl ?_
          refine vo_move_pv rfl rfl ?_
          refine vo_build S33 rfl rfl rfl ?_
          refine vo_eqS2 Q33 rfl rfl rfl ?_
          refine vo_move_pv rfl rfl ?_
          refine vo_split 89 rfl (fun hg7 => ?_) (fun hg7 => ?_)
          · try simp only [decide_eq_true_eq, decide_eq_false_iff_not, beq_iff_eq, bne_iff_ne, beq_eq_false_iff_ne, bne_eq_false_iff_eq, Bool.not_eq_true, Bool.not_eq_false, Bool.not_eq_eq_eq_not, Bool.not_true, Bool.not_false, List.length_map, Int.not_lt, Int.not_le, ne_eq, Decidable.not_not] at hg7
            refine vo_guard_on rfl rfl rfl ?_
            refine vo_move_pv rfl rfl ?_
            refine vo_guard_on rfl rfl rfl ?_
            refine vo_move_pv rfl rfl ?_
            refine vo_guard_on rfl rfl rfl ?_
            refine vo_index_pv (.sl none 1 []) rfl rfl rfl E23.und inf30 sz30 sd sd ?_
            simp only [Int.toNat_natCast, Int.toNat_zero, getD_ints, getD_intss, getD_bools, getD_bytes, PV.cells, getD_flds]
            refine vo_guard_on rfl rfl rfl ?_
            refine vo_load_adr rfl rfl Try.underlying30 rfl ?_
            refine vo_guard_on rfl rfl rfl ?_
            refine vo_move_pv rfl rfl ?_
            refine vo_guard_on rfl rfl rfl ?_
            refine vo_call0 Try.func22 rfl rfl rfl rfl (isIn_sat (list := S.getD o.toNat []) (n := n) (by have := lens3 h8 o.toNat; omega)) ?_
            rintro _ _ ⟨rfl, rfl⟩
            refine ⟨rfl, rfl, .inl rfl, ?_⟩
            refine vo_pick_t rfl rfl ?_
            refine vo_move_pv rfl rfl ?_
            refine vo_split 97 rfl (fun hg8 => ?_) (fun hg8 => ?_)
            · try simp only [decide_eq_true_eq, decide_eq_false_iff_not, beq_iff_eq, bne_iff_ne, beq_eq_false_iff_ne, bne_eq_false_iff_eq, Bool.not_eq_true, Bool.not_eq_false, Bool.not_eq_eq_eq_not, Bool.not_true, Bool.not_false, List.length_map, Int.not_lt, Int.not_le, ne_eq, Decidable.not_not] at hg8
              refine vo_guard_on rfl rfl rfl ?_
              refine vo_move_pv rfl rfl ?_
              refine vo_guard_on rfl rfl rfl ?_
              refine vo_move_pv rfl rfl ?_
              refine vo_guard_on rfl rfl rfl ?_
              refine vo_call [] Try.func14 rfl rfl rfl rfl rfl rfl rfl (implAboveOf_sat (c := z) (by omega) (lt3 h3)) ?_
              rintro _ _ ⟨nl6, rfl, rfl⟩
              refine ⟨Nat.le_of_ble_eq_true rfl, ⟨rfl, rfl, rfl⟩, .inl rfl, ?_⟩
              refine vo_stN ?_
              refine vo_guard_on rfl rfl rfl ?_
              refine vo_move_pv rfl rfl ?_
              refine vo_guard_on rfl rfl rfl ?_
              refine vo_call0 Try.func22 rfl rfl rfl rfl (isIn_sat (list := abvR B z) (n := o) (abvR_len (by omega))) ?_
              rintro _ _ ⟨rfl, rfl⟩
              refine ⟨rfl, rfl, .inr rfl, ?_⟩
              refine vo_pick_t rfl rfl ?_
              refine vo_assign_pv rfl rfl ?_
              refine vo_nil ?_
              refine hK19 _ ?_
              refine vc_ret ?_
              change retPv _ _ _ _ _
              refine retPv_mk rfl rfl rfl ⟨?_, rfl⟩
              first | rfl | exact absurd trivial (by assumption) | exact absurd rfl (by assumption) | (refine (congrArg (fun b => [bo b]) (?_ : _ = _) : [bo _] = [bo _]); exact decide_eq_true rfl) | (exfalso; omega) | (refine (congrArg (fun b => [bo b]) (?_ : _ = _) : [bo _] = [bo _]); exact decide_eq_true q4) | exact absurd q5 (by assumption) | (exfalso; rw [q3] at hg7; simp at hg7; done) | exact absurd (hbx (by omega)) (by assumption)
            · try simp only [decide_eq_true_eq, decide_eq_false_iff_not, beq_iff_eq, bne_iff_ne, beq_eq_false_iff_ne, bne_eq_false_iff_eq, Bool.not_eq_true, Bool.not_eq_false, Bool.not_eq_eq_eq_not, Bool.not_true, Bool.not_false, List.length_map, Int.not_lt, Int.not_le, ne_eq, Decidable.not_not] at hg8
              refine vo_guard_off rfl rfl rfl rfl rfl ?_
              refine vo_guard_off rfl rfl rfl rfl rfl ?_
              refine vo_guard_off rfl rfl rfl rfl rfl ?_
              refine vo_guard_off rfl rfl rfl rfl rfl ?_
              refine vo_guard_off rfl rfl rfl rfl rfl ?_
              refine vo_pick_f rfl rfl ?_
              refine vo_assign_pv rfl rfl ?_
              refine vo_nil ?_
              refine hK19 _ ?_
              refine vc_ret ?_
              change retPv _ _ _ _ _
              refine retPv_mk rfl rfl rfl ⟨?_, rfl⟩
              first | rfl | exact absurd trivial (by assumption) | exact absurd rfl (by assumption) | (refine (congrArg (fun b => [bo b]) (?_ : _ = _) : [bo _] = [bo _]); exact decide_eq_true rfl) | (exfalso; omega) | (refine (congrArg (fun b => [bo b]) (?_ : _ = _) : [bo _] = [bo _]); exact decide_eq_true q4) | exact absurd q5 (by assumption) | (exfalso; rw [q3] at hg7; simp at hg7; done) | exact absurd (hbx (by omega)) (by assumption)
          · try simp only [decide_eq_true_eq, decide_eq_false_iff_not, beq_iff_eq, bne_iff_ne, beq_eq_false_iff_ne, bne_eq_false_iff_eq, Bool.not_eq_true, Bool.not_eq_false, Bool.not_eq_eq_eq_not, Bool.not_true, Bool.not_false, List.length_map, Int.not_lt, Int.not_le, ne_eq, Decidable.not_not] at hg7
            refine vo_guard_off rfl rfl rfl rfl rfl ?_
            refine vo_guard_off rfl rfl rfl rfl rfl ?_
            refine vo_guard_off rfl rfl rfl rfl rfl ?_
            refine vo_guard_off rfl rfl rfl rfl rfl ?_
            refine vo_guard_off rfl rfl rfl rfl rfl ?_
            refine vo_guard_off rfl rfl rfl rfl rfl ?_
            refine vo_pick_f rfl rfl ?_
            refine vo_move_pv rfl rfl ?_
            refine vo_guard_off rfl rfl rfl rfl rfl ?_
            refine vo_guard_off rfl rfl rfl rfl rfl ?_
            refine vo_guard_off rfl rfl rfl rfl rfl ?_
            refine vo_guard_off rfl rfl rfl rfl rfl ?_
            refine vo_guard_off rfl rfl rfl rfl rfl ?_
            refine vo_pick_f rfl rfl ?_
            refine vo_assign_pv rfl rfl ?_
            refine vo_nil ?_
            refine hK19 _ ?_
            refine vc_ret ?_
            change retPv _ _ _ _ _
            refine retPv_mk rfl rfl rfl ⟨?_, rfl⟩
            first | rfl | exact absurd trivial (by assumption) | exact absurd rfl (by assumption) | (refine (congrArg (fun b => [bo b]) (?_ : _ = _) : [bo _] = [bo _]); exact decide_eq_true rfl) | (exfalso; omega) | (refine (congrArg (fun b => [bo b]) (?_ : _ = _) : [bo _] = [bo _]); exact decide_eq_true q4) | exact absurd q5 (by assumption) | (exfalso; rw [q3] at hg7; simp at hg7; done) | exact absurd (hbx (by omega)) (by assumption)

end Go.Vl

/- From a function's contract to the row of a law over bytes. -/
namespace Go.Vl
set_option linter.unusedVariables false
set_option linter.unusedSimpArgs false
open Go.RowKit Go.WideShapes

theorem okWide_spot {P : Program} {W : World} {base : Nat} {t e : TypeId} {a : Addr} {len cap : Nat} (hT : P.underlying t = some (.slice e)) (h : Value.okWide P W .any base t (.slice (some a) len cap)) :
    a.spot = none ∧ a.block < W.heap.size := by
  simp only [Value.okWide, hT, Cell.okWide, Cell.ok, World.has] at h
  obtain ⟨_, _, _, h1, row, cells, h2, _⟩ := h
  refine ⟨h1, ?_⟩
  unfold World.shape? at h2
  rcases Nat.lt_or_ge a.block W.heap.size with h3 | h3
  · exact h3
  · rw [Array.getElem?_eq_none h3] at h2; cases h2

/-- What is known of bytes that come in. -/
def BytesAt (w : World) (a0 : Option Addr) (len cap : Nat) : Prop :=
  (a0 = none ∧ len = 0 ∧ cap = 0) ∨ ∃ (x : Addr) (zs : List Int), a0 = some x ∧ x.spot = none ∧ x.block < w.heap.size ∧ len ≤ cap ∧ zs.length = cap ∧
    (∀ i, i < zs.length → w.cell? (x.add i) = some (.int .u8 (zs.getD i 0))) ∧ ∀ n ∈ zs, (Lit.int .u8 n).wf = true

theorem bytes_pv {w : World} {a0 : Option Addr} {len cap : Nat} {G : Nat → Prop} (hG : ∀ b, b < w.heap.size → G b) (h : BytesAt w a0 len cap) :
    ∃ (nl : Option Bool) (c : List (Fin 256)), RP w G (.sl nl 1 (c.map byteP)) (.slice a0 len cap) := by
  rcases h with ⟨rfl, rfl, rfl⟩ | ⟨x, zs, rfl, hs, hb, hl, hz, hc, hw⟩
  · exact ⟨none, [], .nilsl _ _ (by simp)⟩
  · have hbd : ∀ i, i < zs.length → 0 ≤ zs.getD i 0 ∧ zs.getD i 0 < 256 := by
      intro i hi
      have hm : zs.getD i 0 ∈ zs := by simp [List.getD, List.getElem?_eq_getElem hi]
      have := hw _ hm
      generalize zs.getD i 0 = n at this ⊢
      simp [Lit.wf, IntKind.min, IntKind.max, IntKind.bits, IntKind.signed] at this
      omega
    let c : List (Fin 256) := (List.range len).map fun i => ⟨(zs.getD i 0).toNat % 256, Nat.mod_lt _ (by omega)⟩
    refine ⟨none, c, .sl none 1 _ x len cap (fun i _ => .int .u8 (zs.getD i 0)) (by simp) (fun _ => hs) (by simp [c]) hl (fun _ => hG _ hb) ?_ ?_ ?_⟩
    · intro i y hy
      simp only [List.getElem?_map] at hy
      cases hci : c[i]? with
      | none => rw [hci] at hy; simp at hy
      | some z =>
        rw [hci] at hy
        simp only [Option.map_some, Option.some.injEq] at hy
        subst hy
        exact fits_of rfl
    · intro i y j d hy hd
      simp only [List.getElem?_map] at hy
      cases hci : c[i]? with
      | none => rw [hci] at hy; simp at hy
      | some z =>
        rw [hci] at hy
        simp only [Option.map_some, Option.some.injEq] at hy
        subst hy
        have hi : i < len := by
          rcases Nat.lt_or_ge i len with h1 | h1
          · exact h1
          · have : c[i]? = none := List.getElem?_eq_none (by simp [c]; exact h1)
            rw [this] at hci; cases hci
        have hj : j = 0 := by
          cases j with
          | zero => rfl
          | succ j => simp [PV.cells] at hd
        subst hj
        have := hc i (by omega)
        rw [← this]
        congr 1
        obtain ⟨xb, xo, xs⟩ := x
        simp only at hs
        subst hs
        simp [Addr.add]
    · intro i y j d hy hd
      simp only [List.getElem?_map] at hy
      cases hci : c[i]? with
      | none => rw [hci] at hy; simp at hy
      | some z =>
        rw [hci] at hy
        simp only [Option.map_some, Option.some.injEq] at hy
        subst hy
        have hi : i < len := by
          rcases Nat.lt_or_ge i len with h1 | h1
          · exact h1
          · have : c[i]? = none := List.getElem?_eq_none (by simp [c]; exact h1)
            rw [this] at hci; cases hci
        have hj : j = 0 := by
          cases j with
          | zero => rfl
          | succ j => simp [PV.cells] at hd
        subst hj
        have hd2 : d = byteP z := by simpa [PV.cells] using hd.symm
        subst hd2
        have hz2 : ((z.val : Nat) : Int) = zs.getD i 0 := by
          have e : c[i]? = some ⟨(zs.getD i 0).toNat % 256, Nat.mod_lt _ (by omega)⟩ := by simp [c, hi]
          rw [e] at hci
          simp only [Option.some.injEq] at hci
          have hb := hbd i (by omega)
          rw [← hci]
          show (((zs.getD i 0).toNat % 256 : Nat) : Int) = _
          omega
        rw [← hz2]
        exact .int _ _

theorem law_bytes {P : Program} {f : FuncId} {w : World} {a0 : Option Addr} {len cap : Nat} (hrow : BytesAt w a0 len cap)
    (h : ∀ (nl : Option Bool) (c : List (Fin 256)), SatAt P f [.pv false (.sl nl 1 (c.map byteP))] [] (fun res rows => res = [bo true] ∧ rows = [])) :
    Calls P f #[.slice a0 len cap] w fun e w' => e = .returned (.bool true) ∧ Below w.heap.size w w' := by
  let C : Ctx := ⟨w, fun b => b < w.heap.size, 0, fun _ => default⟩
  have hpriv : ∀ b, ¬ priv [] (fun _ => default) b := by
    rintro b ⟨id, ⟨r, hr, _⟩, _⟩
    simp at hr
  obtain ⟨nl, c, hp⟩ := bytes_pv (G := Gd C [] (fun _ => default) w false) (fun b hb => ⟨hb, hpriv b, fun _ => .inl hb, fun e => by cases e⟩) hrow
  have hsim : SimM C ⟨1, enumE 0 [.pv false (.sl nl 1 (c.map byteP))], []⟩ (fun _ => default) ⟨#[.slice a0 len cap], []⟩ w := {
    defs := rfl
    size := rfl
    os := rfl
    tape := rfl
    output := rfl
    hsz := Nat.le_refl _
    old := fun _ _ _ => rfl
    bor := fun id hid => by cases hid
    nbl := Nat.zero_le _
    newb := fun id b _ ⟨r, hr, _⟩ => by simp at hr
    dist := fun i j b ⟨r, hr, _⟩ => by simp at hr
    rows := fun id r hr => by simp at hr
    env := fun t => by
      show RS _ _ _ _ (look (enumE 0 _) t) _
      rw [look_enumE]
      cases t with
      | zero => exact .pv _ _ _ hp
      | succ t => exact .any _ }
  refine (h nl c C (fun _ => default) #[.slice a0 len cap] rfl (fun b hb => hb) rfl hsim).mono fun e w' hx => ?_
  obtain ⟨us, res, rows', m', rfl, hus, hs, rfl, rfl⟩ := hx
  have hv := hs.env 0
  have h1 : us.size = 1 := hus
  refine ⟨?_, hs.os, hs.tape, hs.output, hs.hsz, fun k hk => hs.old k hk (fun id hid => by cases hid)⟩
  have hv : RS w' (Gd C [] m' w') m' 0 (bo true) (us.getD 0 undef) := hv
  have hb := hv.pv_inv
  unfold pack
  rw [dif_pos h1]
  simp only [Array.getD, h1, Nat.lt_succ_self, dif_pos, Nat.zero_lt_one] at hb
  cases hu : us[0]
  all_goals (simp only [Array.getInternal_eq_getElem, hu] at hb; cases hb)
  rfl
end Go.Vl

/- From a function's contract to the row of a law over lists of numbers, and numbers. -/
namespace Go.Vl
set_option linter.unusedVariables false
set_option linter.unusedSimpArgs false
open Go.RowKit Go.WideShapes Go.ChangeShapes

/-- The setting of a law's call. -/
def C0 (w : World) : Ctx := ⟨w, fun b => b < w.heap.size, 0, fun _ => default⟩
def G0 (w : World) : Bool → Nat → Prop := Gd (C0 w) [] (fun _ => default) w
theorem G0_of {w : World} {b : Nat} (h : b < w.heap.size) : G0 w false b := by
  refine ⟨h, ?_, fun _ => .inl h, fun e => by cases e⟩
  rintro ⟨id, ⟨r, hr, _⟩, _⟩
  simp at hr

theorem law_gen {P : Program} {f : FuncId} {w : World} {args : List SV} {vals : Array Value} (hl : vals.size = args.length)
    (hv : ∀ (j : Nat) (a : SV), args[j]? = some a → RS w (G0 w) (fun _ => default) 0 a (vals.getD j undef))
    (h : SatAt P f args [] (fun res rows => res = [bo true] ∧ rows = [])) :
    Calls P f vals w fun e w' => e = .returned (.bool true) ∧ Below w.heap.size w w' := by
  have hsim : SimM (C0 w) ⟨vals.size, enumE 0 args, []⟩ (fun _ => default) ⟨vals, []⟩ w := {
    defs := rfl
    size := rfl
    os := rfl
    tape := rfl
    output := rfl
    hsz := Nat.le_refl _
    old := fun _ _ _ => rfl
    bor := fun id hid => by cases hid
    nbl := Nat.zero_le _
    newb := fun id b _ ⟨r, hr, _⟩ => by simp at hr
    dist := fun i j b ⟨r, hr, _⟩ => by simp at hr
    rows := fun id r hr => by simp at hr
    env := fun t => by
      show RS _ _ _ _ (look (enumE 0 _) t) _
      rw [look_enumE]
      simp only [Nat.zero_le, if_true, Nat.sub_zero]
      cases ha : args[t]? with
      | none => exact .any _
      | some a => exact hv t a ha }
  refine (h (C0 w) (fun _ => default) vals rfl (fun b hb => hb) hl hsim).mono fun e w' hx => ?_
  obtain ⟨us, res, rows', m', rfl, hus, hs, rfl, rfl⟩ := hx
  have hv := hs.env 0
  have h1 : us.size = 1 := hus
  refine ⟨?_, hs.os, hs.tape, hs.output, hs.hsz, fun k hk => hs.old k hk (fun id hid => by cases hid)⟩
  have hv : RS w' (Gd (C0 w) [] m' w') m' 0 (bo true) (us.getD 0 undef) := hv
  have hb := hv.pv_inv
  unfold pack
  rw [dif_pos h1]
  simp only [Array.getD, h1, Nat.lt_succ_self, dif_pos, Nat.zero_lt_one] at hb
  cases hu : us[0]
  all_goals (simp only [Array.getInternal_eq_getElem, hu] at hb; cases hb)
  rfl

theorem cell_block {w : World} {a : Addr} {v : Value} (h : w.cell? a = some v) : a.block < w.heap.size := by
  unfold World.cell? at h
  rcases Nat.lt_or_ge a.block w.heap.size with h3 | h3
  · exact h3
  · rw [Array.getElem?_eq_none h3] at h; cases h

theorem addr_add (a : Addr) (i : Nat) (hs : a.spot = none) : a.add i = ⟨a.block, a.off + i, none⟩ := by
  obtain ⟨b, o, s⟩ := a
  simp only at hs
  subst hs
  unfold Addr.add
  split
  · rename_i h; simp [h]
  · rfl

/-- A list of numbers, by its cells. -/
theorem ints_rp {w : World} {a : Option Addr} {len cap : Nat} (zs : List Int) (hl : len ≤ cap) (hz : zs.length = cap) (h0 : a = none → cap = 0)
    (hc : ∀ a', a = some a' → ∀ c, c < cap → w.cell? (a'.add c) = some (.int .i64 (zs.getD c 0))) : RP w (G0 w false) (.sl none 1 ((zs.take len).map intP)) (.slice a len cap) := by
  cases a with
  | none =>
    have := h0 rfl
    subst this
    have e : len = 0 := by omega
    subst e
    exact .nilsl _ _ (by simp)
  | some a' =>
    have hc := hc a' rfl
    have hlen : ((zs.take len).map intP).length = len := by simp; omega
    have key : ∀ i (x : PV), ((zs.take len).map intP)[i]? = some x → i < len ∧ x = intP (zs.getD i 0) := by
      intro i x hx
      have hi : i < len := by rw [← hlen]; exact (List.getElem?_eq_some_iff.1 hx).1
      refine ⟨hi, ?_⟩
      simp only [List.getElem?_map, List.getElem?_take, hi, if_true, Option.map_eq_some_iff] at hx
      obtain ⟨y, hy, rfl⟩ := hx
      simp [List.getD, hy]
    have hsp : ∀ i, i < len → a'.spot = none := by
      intro i hi
      have := World.cell?_spot (hc 0 (by omega))
      simpa [Addr.add] using this
    refine .sl none 1 _ a' len cap (fun i _ => .int .i64 (zs.getD i 0)) (by simp) (fun hne => ?_) hlen.symm hl (fun hne => ?_) (fun i x hx => ?_) (fun i x j c hx hcj => ?_) (fun i x j c hx hcj => ?_)
    · have : 0 < len := by rw [← hlen]; exact List.length_pos_iff.2 hne
      exact hsp 0 this
    · have : 0 < len := by rw [← hlen]; exact List.length_pos_iff.2 hne
      exact G0_of (by have := cell_block (hc 0 (by omega)); simpa [Addr.add] using this)
    · obtain ⟨_, rfl⟩ := key i x hx
      exact fits_of rfl
    · obtain ⟨hi, rfl⟩ := key i x hx
      have hj : j = 0 := by
        cases j with
        | zero => rfl
        | succ j => simp [PV.cells] at hcj
      subst hj
      rw [← hc i (by omega), addr_add _ _ (hsp i hi)]
      congr 2
      omega
    · obtain ⟨hi, rfl⟩ := key i x hx
      have : c = intP (zs.getD i 0) := by
        cases j with
        | zero => simpa [PV.cells] using hcj.symm
        | succ j => simp [PV.cells] at hcj
      subst this
      exact .int _ _

/-- A list of lists of numbers. -/
theorem intss_rp {w : World} {a : Addr} {len cap : Nat} (A : Nat → Option Addr) (L C : Nat → Nat) (Z : Nat → List Int) (hl : len ≤ cap)
    (h : ∀ r, r < cap → w.cell? (a.add r) = some (.slice (A r) (L r) (C r)) ∧ RP w (G0 w false) (.sl none 1 (((Z r).take (L r)).map intP)) (.slice (A r) (L r) (C r))) :
    RP w (G0 w false) (.sl none 1 (((List.range len).map fun r => (Z r).take (L r)).map ints)) (.slice (some a) len cap) := by
  have hlen : (((List.range len).map fun r => (Z r).take (L r)).map ints).length = len := by simp
  have key : ∀ i (x : PV), (((List.range len).map fun r => (Z r).take (L r)).map ints)[i]? = some x → i < len ∧ x = ints ((Z i).take (L i)) := by
    intro i x hx
    have hi : i < len := by rw [← hlen]; exact (List.getElem?_eq_some_iff.1 hx).1
    refine ⟨hi, ?_⟩
    simp [hi] at hx
    exact hx.symm
  have hsp : ∀ i, i < len → a.spot = none := by
    intro i hi
    have := World.cell?_spot (h 0 (by omega)).1
    simpa [Addr.add] using this
  refine .sl none 1 _ a len cap (fun i _ => .slice (A i) (L i) (C i)) (by simp) (fun hne => ?_) hlen.symm hl (fun hne => ?_) (fun i x hx => ?_) (fun i x j c hx hcj => ?_) (fun i x j c hx hcj => ?_)
  · have : 0 < len := by rw [← hlen]; exact List.length_pos_iff.2 hne
    exact hsp 0 this
  · have : 0 < len := by rw [← hlen]; exact List.length_pos_iff.2 hne
    exact G0_of (by have := cell_block (h 0 (by omega)).1; simpa [Addr.add] using this)
  · obtain ⟨_, rfl⟩ := key i x hx
    exact fits_of rfl
  · obtain ⟨hi, rfl⟩ := key i x hx
    have hj : j = 0 := by
      cases j with
      | zero => rfl
      | succ j => simp [PV.cells] at hcj
    subst hj
    rw [← (h i (by omega)).1, addr_add _ _ (hsp i hi)]
    congr 2
    omega
  · obtain ⟨hi, rfl⟩ := key i x hx
    have : c = ints ((Z i).take (L i)) := by
      cases j with
      | zero => simpa [PV.cells] using hcj.symm
      | succ j => simp [PV.cells] at hcj
    subst this
    exact (h i (by omega)).2

section
variable {H : Type} {enc : TypeId × Value → H} {P : Program} {w : World} {base : Nat} {held : Bool}
/-- An argument '[][]int'. -/
theorem intss_open {t e q : TypeId} {a0 : Option Addr} {len cap fuel : Nat} {x : DataW H × List MemPlace} (ht : P.underlying t = some (.slice e)) (he : P.underlying e = some (.slice q)) (hq : P.underlying q = some (.int .i64))
    (ce : P.cellsOf e = 1) (cq : P.cellsOf q = 1) (h : DataW.trod enc P w base (fun _ => true) held fuel t [.slice a0 len cap] = some x) :
    ∃ l : List (List Int), l.length ≤ 9223372036854775807 ∧ (∀ y ∈ l, y.length ≤ 9223372036854775807) ∧ RP w (G0 w false) (.sl none 1 (l.map ints)) (.slice a0 len cap) := by
  rcases Go.Deep.open_int_rows ht he hq ce cq h with ⟨hcs, _⟩ | ⟨a, l, c, A, L, C, Z, hcs, _, hl, hm, _, hr⟩
  · simp at hcs
    obtain ⟨rfl, rfl, rfl⟩ := hcs
    exact ⟨[], by simp, by simp, .nilsl _ _ (by simp)⟩
  · simp at hcs
    obtain ⟨rfl, rfl, rfl⟩ := hcs
    refine ⟨(List.range len).map fun r => (Z r).take (L r), ?_, ?_, intss_rp A L C Z hl fun r hr' => ?_⟩
    · simp only [maxLen] at hm; simp; omega
    · intro y hy
      obtain ⟨r, hr', rfl⟩ := List.mem_map.1 hy
      obtain ⟨_, h1, h2, _⟩ := hr r (by have := List.mem_range.1 hr'; omega)
      simp only [maxLen] at h2
      simp; omega
    · obtain ⟨h1, h2, h3, h4, _, h6, h7⟩ := hr r hr'
      exact ⟨h1, ints_rp (Z r) h2 h4 h6 fun a' ha c hc => (h7 a' ha).2 c hc⟩

/-- An argument '[]int'. -/
theorem ints_open {t q : TypeId} {a0 : Option Addr} {len cap fuel : Nat} {x : DataW H × List MemPlace} (ht : P.underlying t = some (.slice q)) (hq : P.underlying q = some (.int .i64))
    (cq : P.cellsOf q = 1) (h : DataW.trod enc P w base (fun _ => true) held fuel t [.slice a0 len cap] = some x) :
    ∃ l : List Int, l.length ≤ 9223372036854775807 ∧ RP w (G0 w false) (.sl none 1 (l.map intP)) (.slice a0 len cap) := by
  rcases open_ints ht hq cq h with ⟨hcs, _⟩ | ⟨a', len', cap', zs, hcs, hb', hl', hm', hz, hy, hcell, hwz⟩
  · simp at hcs
    obtain ⟨rfl, rfl, rfl⟩ := hcs
    exact ⟨[], by simp, .nilsl _ _ (by simp)⟩
  · simp at hcs
    obtain ⟨rfl, rfl, rfl⟩ := hcs
    simp only [if_true] at hz
    refine ⟨zs.take len, ?_, ints_rp zs hl' hz (by simp) fun a'' ha c hc => by cases ha; exact hcell c (by rw [hz]; exact hc)⟩
    simp only [maxLen] at hm'; simp; omega
end
end Go.Vl

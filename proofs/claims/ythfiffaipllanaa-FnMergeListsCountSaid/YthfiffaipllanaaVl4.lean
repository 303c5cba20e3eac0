/- Part 4 of the texts that the proof of FnMergeListsCount is built on. -/
import Derived.Test.YthfiffaipllanaaVl3
import Derived.ProofKit
import Derived.OpenShut
import Derived.Below
namespace Go.Vl
set_option linter.unusedVariables false
set_option linter.unusedSimpArgs false
open Go.Proofs

theorem rows2_eq {r : Row} {el : TypeId} {e : Nat} {nl : Option Bool} {f : Bool} {xs ys : List PV} (h : xs = ys) : [r, Row.own el e nl f xs] = [r, Row.own el e nl f ys] := by rw [h]
theorem map_snoc_nil (S : List (List Int)) : S.map ints ++ [.sl none 1 []] = (S ++ [[]]).map ints := by simp

theorem anyBases_sat {nl : Option Bool} {c : List (Fin 256)} {p : Nat} {most : Int} (hc : c.length ≤ 2000) (hp : p < 999800) : SatAt Try.prog 45 [.ptr 0 0 0 0, i64 most] [rdr nl c p] (fun res rows => ∃ (B : List (List Int)) (q : Nat) (f : Bool), (1 ≤ B.length ∧ B.length ≤ 10 ∧ (∀ l ∈ B, l.length ≤ 3) ∧ q ≤ p + 100) ∧ res = [.ref 1] ∧ rows = [rdr nl c q, Row.own 25 1 (some false) f (B.map ints)]) := by
  refine sat_entry_g (ts := [4]) Try.func45 rfl rfl (by decide) (Nat.le_of_ble_eq_true rfl) fun C hC => ?_
  rw [Try.ntmps45]
  replace hC : C.nb = 1 := hC
  refine vc_seq fun K1 hK1 => ?_
  refine vc_region ?_
  refine vo_assign_pv rfl rfl ?_
  refine vo_nil ?_
  refine hK1 _ ?_
  refine vc_seq fun K2 hK2 => ?_
  refine vc_region ?_
  refine vo_move_ptr rfl rfl ?_
  refine vo_move_pv rfl rfl ?_
  refine vo_call [0] Try.func18 rfl rfl rfl rfl rfl rfl rfl (someBases_sat hc (by omega)) ?_
  rintro _ _ ⟨B, q, ⟨hB, hB2, hB3, hB4⟩, rfl, rfl⟩
  refine ⟨Nat.le_of_ble_eq_true rfl, ⟨rfl, rfl, rfl⟩, .inl rfl, ?_⟩
  refine vo_stN ?_
  refine vo_assign_ref rfl rfl ?_
  refine vo_nil ?_
  refine hK2 _ ?_
  refine vc_seq fun K3 hK3 => ?_
  refine vc_seq fun K4 hK4 => ?_
  refine vc_region ?_
  refine vo_move_ptr rfl rfl ?_
  refine vo_call [0] Try.func17 rfl rfl rfl rfl rfl rfl rfl (pick_sat hc (by omega)) ?_
  rintro _ _ ⟨x, ⟨hx0, hx1⟩, rfl, rfl⟩
  refine ⟨Nat.le_of_ble_eq_true rfl, ⟨rfl, rfl, rfl⟩, .inl rfl, ?_⟩
  refine vo_stN ?_
  refine vo_nil ?_
  refine hK4 _ ?_
  refine vc_block ?_
  refine vc_seq fun K5 hK5 => ?_
  refine vc_region ?_
  refine vo_binI rfl rfl rfl rfl trivial ?_
  refine vo_assign_pv rfl rfl ?_
  refine vo_nil ?_
  refine hK5 _ ?_
  refine vc_cond rfl (fun hc1 => ?_) (fun hc1 => ?_)
  · try simp only [decide_eq_true_eq, decide_eq_false_iff_not, beq_iff_eq, bne_iff_ne, beq_eq_false_iff_ne, bne_eq_false_iff_eq, Bool.not_eq_true, Bool.not_eq_false, Bool.not_eq_eq_eq_not, Bool.not_true, Bool.not_false, List.length_map, Int.not_lt, Int.not_le, ne_eq, Decidable.not_not] at hc1
    have hB1 := hB.1
    have hL : (B.map ints).length = B.length := by simp
    refine vc_region ?_
    refine vo_move_ref rfl rfl ?_
    refine vo_buildSlice E25 rfl rfl rfl rfl rfl ?_
    refine vo_index_ref rfl rfl rfl rfl E23.und inf25 sz25 sd sd ?_
    try simp only [Int.toNat_natCast]
    refine vo_expose 2 (by omega) rfl ?_
    refine vo_weaken 14 rfl ?_
    refine vo_stN ?_
    refine vo_store_own rfl rfl rfl inf25 sz25 (by decide) rfl sd ?_
    try simp only [set_ints, set_intss, set_bools, rep_bools, rep_ints, Int.toNat_natCast, Int.toNat_zero]
    refine vo_nil ?_
    refine hK3 _ ?_
    refine vc_seq fun K6 hK6 => ?_
    refine vc_region ?_
    refine vo_move_ref rfl rfl ?_
    refine vo_assign_ref rfl rfl ?_
    refine vo_nil ?_
    refine hK6 _ ?_
    refine vc_ret ?_
    change retG _ _ _ _ _
    refine retG_one 1 hC rfl rfl rfl rfl rfl ?_
    exact ⟨B.set 0 [0], q+1, _, ⟨by rw [List.length_set]; omega, by rw [List.length_set]; omega, set_lens hB.lens (by decide), by omega⟩, rfl, rows2_eq (set_intss B 0 [0])⟩
  · try simp only [decide_eq_true_eq, decide_eq_false_iff_not, beq_iff_eq, bne_iff_ne, beq_eq_false_iff_ne, bne_eq_false_iff_eq, Bool.not_eq_true, Bool.not_eq_false, Bool.not_eq_eq_eq_not, Bool.not_true, Bool.not_false, List.length_map, Int.not_lt, Int.not_le, ne_eq, Decidable.not_not] at hc1
    have hB1 := hB.1
    refine vc_seq fun K7 hK7 => ?_
    refine vc_region ?_
    refine vo_binI rfl rfl rfl rfl trivial ?_
    refine vo_assign_pv rfl rfl ?_
    refine vo_nil ?_
    refine hK7 _ ?_
    refine vc_cond rfl (fun hc2 => ?_) (fun hc2 => ?_)
    · try simp only [decide_eq_true_eq, decide_eq_false_iff_not, beq_iff_eq, bne_iff_ne, beq_eq_false_iff_ne, bne_eq_false_iff_eq, Bool.not_eq_true, Bool.not_eq_false, Bool.not_eq_eq_eq_not, Bool.not_true, Bool.not_false, List.length_map, Int.not_lt, Int.not_le, ne_eq, Decidable.not_not] at hc2
      refine vc_region ?_
      refine vo_move_ref rfl rfl ?_
      refine vo_move_ref rfl rfl ?_
      refine vo_len_ref rfl rfl rfl Try.underlying23 ?_
      refine vo_buildSlice E25 rfl rfl rfl rfl rfl ?_
      refine vo_expose 2 (by omega) rfl ?_
      refine vo_weaken 21 rfl ?_
      refine vo_stN ?_
      refine vo_buildSlice E23 rfl rfl rfl rfl rfl ?_
      refine vo_append E23 rfl (by omega) rfl rfl rfl sd sd ?_
      refine vo_stN ?_
      try simp only [app_ints, app_intss, app_bools]
      refine vo_assign_ref rfl rfl ?_
      refine vo_nil ?_
      refine hK3 _ ?_
      refine vc_seq fun K8 hK8 => ?_
      refine vc_region ?_
      refine vo_move_ref rfl rfl ?_
      refine vo_assign_ref rfl rfl ?_
      refine vo_nil ?_
      refine hK8 _ ?_
      refine vc_ret ?_
      change retG _ _ _ _ _
      refine retG_one 1 hC rfl rfl rfl rfl rfl ?_
      refine ⟨B ++ [[((B.map ints).length : Int)]], q+1, _, ⟨by rw [List.length_append, List.length_singleton]; omega, by rw [List.length_append, List.length_singleton]; omega, app_lens hB.lens (by simp), by omega⟩, rfl, rows2_eq (app_intss B [((B.map ints).length : Int)])⟩
    · try simp only [decide_eq_true_eq, decide_eq_false_iff_not, beq_iff_eq, bne_iff_ne, beq_eq_false_iff_ne, bne_eq_false_iff_eq, Bool.not_eq_true, Bool.not_eq_false, Bool.not_eq_eq_eq_not, Bool.not_true, Bool.not_false, List.length_map, Int.not_lt, Int.not_le, ne_eq, Decidable.not_not] at hc2
      refine vc_seq fun K9 hK9 => ?_
      refine vc_region ?_
      refine vo_binI rfl rfl rfl rfl trivial ?_
      refine vo_assign_pv rfl rfl ?_
      refine vo_nil ?_
      refine hK9 _ ?_
      refine vc_cond rfl (fun hc3 => ?_) (fun hc3 => ?_)
      · try simp only [decide_eq_true_eq, decide_eq_false_iff_not, beq_iff_eq, bne_iff_ne, beq_eq_false_iff_ne, bne_eq_false_iff_eq, Bool.not_eq_true, Bool.not_eq_false, Bool.not_eq_eq_eq_not, Bool.not_true, Bool.not_false, List.length_map, Int.not_lt, Int.not_le, ne_eq, Decidable.not_not] at hc3
        refine vc_region ?_
        refine vo_move_ref rfl rfl ?_
        refine vo_move_ptr rfl rfl ?_
        refine vo_buildSlice E25 rfl rfl rfl rfl rfl ?_
        refine vo_buildSlice E25 rfl rfl rfl rfl rfl ?_
        refine vo_buildSlice E25 rfl rfl rfl rfl rfl ?_
        refine vo_expose 2 (by omega) rfl ?_
        refine vo_weaken 28 rfl ?_
        refine vo_stN ?_
        refine vo_expose 3 (by omega) rfl ?_
        refine vo_weaken 29 rfl ?_
        refine vo_stN ?_
        refine vo_expose 4 (by omega) rfl ?_
        refine vo_weaken 30 rfl ?_
        refine vo_stN ?_
        refine vo_buildSlice E23 rfl rfl rfl rfl rfl ?_
        refine vo_expose 5 (by omega) rfl ?_
        refine vo_weaken 31 rfl ?_
        refine vo_stN ?_
        refine vo_call [0] Try.func36 rfl rfl rfl rfl rfl rfl rfl (one2_sat (list := [[],[0,0],[-1]]) hc (by omega) (by simp) (by simp)) ?_
        rintro _ _ ⟨y, hy, rfl, rfl⟩
        refine ⟨Nat.le_of_ble_eq_true rfl, ⟨rfl, rfl, rfl⟩, .inl rfl, ?_⟩
        refine vo_stN ?_
        refine vo_weaken 32 rfl ?_
        refine vo_buildSlice E23 rfl rfl rfl rfl rfl ?_
        refine vo_append E23 rfl (by omega) rfl rfl rfl sd sd ?_
        refine vo_stN ?_
        try simp only [app_ints, app_intss, app_bools]
        refine vo_assign_ref rfl rfl ?_
        refine vo_nil ?_
        refine hK3 _ ?_
        refine vc_seq fun K10 hK10 => ?_
        refine vc_region ?_
        refine vo_move_ref rfl rfl ?_
        refine vo_assign_ref rfl rfl ?_
        refine vo_nil ?_
        refine hK10 _ ?_
        refine vc_ret ?_
        change retG _ _ _ _ _
        refine retG_one 1 hC rfl rfl rfl rfl rfl ?_
        refine ⟨B ++ [y], q+1+1, _, ⟨by rw [List.length_append, List.length_singleton]; omega, by rw [List.length_append, List.length_singleton]; omega, app_lens hB.lens (by simp at hy; rcases hy with rfl | rfl | rfl <;> simp), by omega⟩, rfl, rfl⟩
      · try simp only [decide_eq_true_eq, decide_eq_false_iff_not, beq_iff_eq, bne_iff_ne, beq_eq_false_iff_ne, bne_eq_false_iff_eq, Bool.not_eq_true, Bool.not_eq_false, Bool.not_eq_eq_eq_not, Bool.not_true, Bool.not_false, List.length_map, Int.not_lt, Int.not_le, ne_eq, Decidable.not_not] at hc3
        refine vc_skip ?_
        refine hK3 _ ?_
        refine vc_seq fun K11 hK11 => ?_
        refine vc_region ?_
        refine vo_move_ref rfl rfl ?_
        refine vo_assign_ref rfl rfl ?_
        refine vo_nil ?_
        refine hK11 _ ?_
        refine vc_ret ?_
        change retG _ _ _ _ _
        refine retG_one 1 hC rfl rfl rfl rfl rfl ?_
        refine ⟨B, q+1, _, ⟨by omega, by omega, hB.lens, by omega⟩, rfl, rfl⟩


theorem classOf_sat {nl : Option Bool} {c : List (Fin 256)} {p : Nat} {most : Int} (hc : c.length ≤ 2000) (hp : p < 999700) : SatAt Try.prog 29 [.ptr 0 0 0 0, i64 most] [rdr nl c p] (fun res rows => ∃ (B : List (List Int)) (q : Nat) (z : Int) (f : Bool), ((1 ≤ B.length ∧ B.length ≤ 10 ∧ (∀ l ∈ B, l.length ≤ 3) ∧ -1 ≤ z ∧ z ≤ 12) ∧ q ≤ p + 120) ∧ res = [.ref 1, i64 z] ∧ rows = [rdr nl c q, Row.own 25 1 (some false) f (B.map ints)]) := by
  refine sat_entry_g (ts := [4, 5]) Try.func29 rfl rfl (by decide) (Nat.le_of_ble_eq_true rfl) fun C hC => ?_
  rw [Try.ntmps29]
  replace hC : C.nb = 1 := hC
  refine vc_seq fun K1 hK1 => ?_
  refine vc_region ?_
  refine vo_assign_pv rfl rfl ?_
  refine vo_assign_pv rfl rfl ?_
  refine vo_nil ?_
  refine hK1 _ ?_
  refine vc_seq fun K2 hK2 => ?_
  refine vc_region ?_
  refine vo_move_ptr rfl rfl ?_
  refine vo_move_pv rfl rfl ?_
  refine vo_call [0] Try.func45 rfl rfl rfl rfl rfl rfl rfl (anyBases_sat hc (by omega)) ?_
  rintro _ _ ⟨B, q, f, ⟨h1, h2, h3, h4⟩, rfl, rfl⟩
  refine ⟨Nat.le_of_ble_eq_true rfl, ⟨rfl, rfl, rfl⟩, .inl rfl, ?_⟩
  refine vo_stN ?_
  refine vo_assign_ref rfl rfl ?_
  refine vo_nil ?_
  refine hK2 _ ?_
  refine vc_seq fun K3 hK3 => ?_
  refine vc_seq fun K4 hK4 => ?_
  refine vc_region ?_
  refine vo_move_ptr rfl rfl ?_
  refine vo_call [0] Try.func17 rfl rfl rfl rfl rfl rfl rfl (pick_sat hc (by omega)) ?_
  rintro _ _ ⟨x, ⟨hx0, hx1⟩, rfl, rfl⟩
  refine ⟨Nat.le_of_ble_eq_true rfl, ⟨rfl, rfl, rfl⟩, .inl rfl, ?_⟩
  refine vo_stN ?_
  refine vo_binI rfl rfl rfl rfl trivial ?_
  refine vo_nil ?_
  refine hK4 _ ?_
  refine vc_cond rfl (fun hc1 => ?_) (fun hc1 => ?_)
  · try simp only [decide_eq_true_eq, decide_eq_false_iff_not, beq_iff_eq, bne_iff_ne, beq_eq_false_iff_ne, bne_eq_false_iff_eq, Bool.not_eq_true, Bool.not_eq_false, Bool.not_eq_eq_eq_not, Bool.not_true, Bool.not_false, List.length_map, Int.not_lt, Int.not_le, ne_eq, Decidable.not_not] at hc1
    refine vc_seq fun K5 hK5 => ?_
    refine vc_region ?_
    refine vo_move_ref rfl rfl ?_
    refine vo_move_ptr rfl rfl ?_
    refine vo_buildSlice E25 rfl rfl rfl rfl rfl ?_
    refine vo_expose 2 (by omega) rfl ?_
    refine vo_weaken 15 rfl ?_
    refine vo_stN ?_
    refine vo_call [0] Try.func34 rfl rfl rfl rfl rfl rfl rfl (one_sat (list := [_,_]) hc (by omega) (by simp) (by simp)) ?_
    rintro _ _ ⟨z, hz, rfl, rfl⟩
    refine ⟨Nat.le_of_ble_eq_true rfl, ⟨rfl, rfl, rfl⟩, .inl rfl, ?_⟩
    refine vo_stN ?_
    refine vo_assign_ref rfl rfl ?_
    refine vo_assign_pv rfl rfl ?_
    refine vo_nil ?_
    refine hK5 _ ?_
    refine vc_ret ?_
    change retG _ _ _ _ _
    refine retG_one 1 hC rfl rfl rfl rfl rfl ?_
    simp at hz
    exact ⟨_, _, _, _, ⟨⟨h1, h2, h3, by omega, by omega⟩, by omega⟩, rfl, rfl⟩
  · try simp only [decide_eq_true_eq, decide_eq_false_iff_not, beq_iff_eq, bne_iff_ne, beq_eq_false_iff_ne, bne_eq_false_iff_eq, Bool.not_eq_true, Bool.not_eq_false, Bool.not_eq_eq_eq_not, Bool.not_true, Bool.not_false, List.length_map, Int.not_lt, Int.not_le, ne_eq, Decidable.not_not] at hc1
    refine vc_skip ?_
    refine hK3 _ ?_
    refine vc_seq fun K6 hK6 => ?_
    refine vc_region ?_
    refine vo_move_ref rfl rfl ?_
    refine vo_move_ptr rfl rfl ?_
    refine vo_move_ref rfl rfl ?_
    refine vo_len_ref rfl rfl rfl Try.underlying23 ?_
    refine vo_binI rfl rfl rfl rfl sd ?_
    refine vo_move_ptr rfl rfl ?_
    refine vo_move_ref rfl rfl ?_
    refine vo_len_ref rfl rfl rfl Try.underlying23 ?_
    refine vo_call [0] Try.func17 rfl rfl rfl rfl rfl rfl rfl (pick_sat hc (by omega)) ?_
    rintro _ _ ⟨y, ⟨hy0, hy1⟩, rfl, rfl⟩
    refine ⟨Nat.le_of_ble_eq_true rfl, ⟨rfl, rfl, rfl⟩, .inl rfl, ?_⟩
    refine vo_stN ?_
    refine vo_buildSlice E25 rfl rfl rfl rfl rfl ?_
    refine vo_expose 2 (by omega) rfl ?_
    refine vo_weaken 26 rfl ?_
    refine vo_stN ?_
    refine vo_call [0] Try.func34 rfl rfl rfl rfl rfl rfl rfl (one_sat (list := [_,_]) hc (by omega) (by simp) (by simp)) ?_
    rintro _ _ ⟨z, hz, rfl, rfl⟩
    refine ⟨Nat.le_of_ble_eq_true rfl, ⟨rfl, rfl, rfl⟩, .inl rfl, ?_⟩
    refine vo_stN ?_
    refine vo_assign_ref rfl rfl ?_
    refine vo_assign_pv rfl rfl ?_
    refine vo_nil ?_
    refine hK6 _ ?_
    refine vc_ret ?_
    change retG _ _ _ _ _
    refine retG_one 1 hC rfl rfl rfl rfl rfl ?_
    simp at hz hy1
    exact ⟨_, _, _, _, ⟨⟨h1, h2, h3, by omega, by omega⟩, by omega⟩, rfl, rfl⟩


theorem DrawOrderOf_sat {nl : Option Bool} {c : List (Fin 256)} (hl : c.length < 1000000000) : SatAt Try.prog 10 [.pv false (.sl nl 1 (c.map byteP))] [] (fun res rows => ∃ (B : List (List Int)) (z : Int) (f : Bool), (1 ≤ B.length ∧ B.length ≤ 10 ∧ (∀ l ∈ B, l.length ≤ 3) ∧ -1 ≤ z ∧ z ≤ 12) ∧ res = [.ref 0, i64 z] ∧ rows = [Row.own 25 1 (some false) f (B.map ints)]) := by
  refine sat_entry_g (ts := [2, 3]) Try.func10 rfl rfl (by decide) (Nat.le_of_ble_eq_true rfl) fun C hC => ?_
  rw [Try.ntmps10]
  replace hC : C.nb = 0 := hC
  refine vc_seq fun K1 hK1 => ?_
  refine vc_region ?_
  refine vo_assign_pv rfl rfl ?_
  refine vo_assign_pv rfl rfl ?_
  refine vo_nil ?_
  refine hK1 _ ?_
  refine vc_seq fun K2 hK2 => ?_
  refine vc_region ?_
  refine vo_move_pv rfl rfl ?_
  refine vo_call [] Try.func16 rfl rfl rfl rfl rfl rfl rfl (newReader_sat hl) ?_
  rintro _ _ ⟨nl2, c2, hc, rfl, rfl⟩
  refine ⟨Nat.le_of_ble_eq_true rfl, ⟨rfl, rfl, rfl⟩, .inl rfl, ?_⟩
  refine vo_stN ?_
  refine vo_call [0] Try.func29 rfl rfl rfl rfl rfl rfl rfl (classOf_sat hc (by omega)) ?_
  rintro _ _ ⟨B, q, z, f, ⟨⟨h1, h2, h3, h5, h6⟩, h4⟩, rfl, rfl⟩
  refine ⟨Nat.le_of_ble_eq_true rfl, ⟨rfl, rfl, rfl⟩, .inl rfl, ?_⟩
  refine vo_stN ?_
  refine vo_extract rfl rfl rfl ?_
  refine vo_extract rfl rfl rfl ?_
  refine vo_assign_ref rfl rfl ?_
  refine vo_assign_pv rfl rfl ?_
  refine vo_nil ?_
  refine hK2 _ ?_
  refine vc_ret ?_
  change retG _ _ _ _ _
  refine retG_one 1 hC rfl rfl rfl rfl rfl ?_
  exact ⟨_, _, _, ⟨h1, h2, h3, h5, h6⟩, rfl, rfl⟩

end Go.Vl

namespace Go.Vl
set_option linter.unusedVariables false
set_option linter.unusedSimpArgs false
open Go.Proofs

theorem lt3 {B : List (List Int)} (h : ∀ l ∈ B, l.length ≤ 3) : ∀ l ∈ B, l.length < 1000000000 := fun l hl => by have := h l hl; omega

theorem equalInts_sat {nl0 : Option Bool} {a : List Int} {nl1 : Option Bool} {b : List Int} (ha : a.length < 1000000000) (hb : b.length < 1000000000)  : SatAt Try.prog 8 [.pv false (.sl nl0 1 (a.map intP)), .pv false (.sl nl1 1 (b.map intP))] [] (fun res rows => res = [bo (decide (a = b))] ∧ rows = []) := by
  refine sat_entry (ts := [4]) Try.func8 rfl rfl (by decide) (Nat.le_of_ble_eq_true rfl) fun C hC => ?_
  rw [Try.ntmps8]
  replace hC : C.nb = 0 := hC
  refine vc_seq fun K1 hK1 => ?_
  refine vc_region ?_
  refine vo_assign_pv rfl rfl ?_
  refine vo_nil ?_
  refine hK1 _ ?_
  refine vc_seq fun K2 hK2 => ?_
  refine vc_seq fun K3 hK3 => ?_
  refine vc_region ?_
  refine vo_move_pv rfl rfl ?_
  refine vo_len_pv rfl rfl Try.underlying25 ?_
  refine vo_move_pv rfl rfl ?_
  refine vo_len_pv rfl rfl Try.underlying25 ?_
  refine vo_binI rfl rfl rfl rfl trivial ?_
  refine vo_nil ?_
  refine hK3 _ ?_
  refine vc_cond rfl (fun hc1 => ?_) (fun hc1 => ?_)
  · try simp only [decide_eq_true_eq, decide_eq_false_iff_not, beq_iff_eq, bne_iff_ne, beq_eq_false_iff_ne, bne_eq_false_iff_eq, Bool.not_eq_true, Bool.not_eq_false, Bool.not_eq_eq_eq_not, Bool.not_true, Bool.not_false, List.length_map, Int.not_lt, Int.not_le, ne_eq, Decidable.not_not] at hc1
    refine vc_seq fun K4 hK4 => ?_
    refine vc_region ?_
    refine vo_assign_pv rfl rfl ?_
    refine vo_nil ?_
    refine hK4 _ ?_
    refine vc_ret ?_
    change retPv _ _ _ _ _
    refine retPv_mk rfl rfl rfl ⟨?_, rfl⟩
    refine (congrArg (fun b => [bo b]) (?_ : _ = _) : [bo _] = [bo _])
    exact bF fun h => by subst h; omega
  · try simp only [decide_eq_true_eq, decide_eq_false_iff_not, beq_iff_eq, bne_iff_ne, beq_eq_false_iff_ne, bne_eq_false_iff_eq, Bool.not_eq_true, Bool.not_eq_false, Bool.not_eq_eq_eq_not, Bool.not_true, Bool.not_false, List.length_map, Int.not_lt, Int.not_le, ne_eq, Decidable.not_not] at hc1
    refine vc_skip ?_
    refine hK2 _ ?_
    refine vc_seq fun K5 hK5 => ?_
    refine vc_seq fun K6 hK6 => ?_
    refine vc_region ?_
    refine vo_assign_pv rfl rfl ?_
    refine vo_nil ?_
    refine hK6 _ ?_
    refine vc_block ?_
    refine vc_stN ?_
    refine vc_loopF [0, 1] [5] [.pv false (.sl nl0 1 (a.map intP)), .pv false (.sl nl1 1 (b.map intP))] _ (fun mz vs => ∃ (k : Nat), mz = a.length - k ∧ (k ≤ a.length) ∧ (a.take k = b.take k) ∧ vs = [i64 k]) (a.length) rfl rfl (le_len hC rfl) ⟨rfl, rfl, rfl⟩ ⟨0, rfl, Nat.zero_le _, rfl, rfl⟩ ?_
    rintro mz vs - ⟨k, rfl, hk, hf, rfl⟩
    refine vc_stN ?_
    refine vc_seq fun K7 hK7 => ?_
    refine vc_seq fun K8 hK8 => ?_
    refine vc_region ?_
    refine vo_move_pv rfl rfl ?_
    refine vo_move_pv rfl rfl ?_
    refine vo_len_pv rfl rfl Try.underlying25 ?_
    refine vo_binI rfl rfl rfl rfl trivial ?_
    refine vo_nil ?_
    refine hK8 _ ?_
    refine vc_cond rfl (fun hc2 => ?_) (fun hc2 => ?_)
    · try simp only [decide_eq_true_eq, decide_eq_false_iff_not, beq_iff_eq, bne_iff_ne, beq_eq_false_iff_ne, bne_eq_false_iff_eq, Bool.not_eq_true, Bool.not_eq_false, Bool.not_eq_eq_eq_not, Bool.not_true, Bool.not_false, List.length_map, Int.not_lt, Int.not_le, ne_eq, Decidable.not_not] at hc2
      refine vc_skip ?_
      refine hK7 _ ?_
      refine vc_seq fun K9 hK9 => ?_
      refine vc_block ?_
      refine vc_seq fun K10 hK10 => ?_
      refine vc_draw (by kernel_rfl) ?_
      change VD _ _ _ 9 _ _ _
      refine vd_light 0 rfl rfl rfl (by kernel_rfl) (by kernel_rfl) (by kernel_rfl) (wnt_none rfl) (lt_move_pv rfl) ?_
      refine vd_light 1 rfl rfl rfl (by kernel_rfl) (by kernel_rfl) (by kernel_rfl) (wnt_none rfl) (lt_move_pv rfl) ?_
      refine vd_light 2 rfl rfl rfl (by kernel_rfl) (by kernel_rfl) (by kernel_rfl) (wnt_none rfl) (lt_index_pv (.int .i64 0) rfl rfl E25.und inf3 sz3 sd sd) ?_
      simp only [Int.toNat_natCast, Int.toNat_zero, getD_ints, getD_intss, getD_bools, getD_bytes, PV.cells]
      refine vd_light 3 rfl rfl rfl (by kernel_rfl) (by kernel_rfl) (by kernel_rfl) (wnt_none rfl) (lt_load_adr rfl Try.underlying3 rfl) ?_
      refine vd_light 4 rfl rfl rfl (by kernel_rfl) (by kernel_rfl) (by kernel_rfl) (wnt_none rfl) (lt_move_pv rfl) ?_
      refine vd_light 5 rfl rfl rfl (by kernel_rfl) (by kernel_rfl) (by kernel_rfl) (wnt_none rfl) (lt_move_pv rfl) ?_
      refine vd_light 6 rfl rfl rfl (by kernel_rfl) (by kernel_rfl) (by kernel_rfl) (wnt_none rfl) (lt_index_pv (.int .i64 0) rfl rfl E25.und inf3 sz3 sd sd) ?_
      simp only [Int.toNat_natCast, Int.toNat_zero, getD_ints, getD_intss, getD_bools, getD_bytes, PV.cells]
      refine vd_light 7 rfl rfl rfl (by kernel_rfl) (by kernel_rfl) (by kernel_rfl) (wnt_none rfl) (lt_load_adr rfl Try.underlying3 rfl) ?_
      refine vd_light 8 rfl rfl rfl (by kernel_rfl) (by kernel_rfl) (by kernel_rfl) (wnt_none rfl) (lt_binI rfl rfl rfl trivial) ?_
      refine vd_nil (by kernel_rfl) ?_
      refine hK10 _ ?_
      refine vc_cond rfl (fun hc3 => ?_) (fun hc3 => ?_)
      · try simp only [decide_eq_true_eq, decide_eq_false_iff_not, beq_iff_eq, bne_iff_ne, beq_eq_false_iff_ne, bne_eq_false_iff_eq, Bool.not_eq_true, Bool.not_eq_false, Bool.not_eq_eq_eq_not, Bool.not_true, Bool.not_false, List.length_map, Int.not_lt, Int.not_le, ne_eq, Decidable.not_not] at hc3
        refine vc_seq fun K11 hK11 => ?_
        refine vc_region ?_
        refine vo_assign_pv rfl rfl ?_
        refine vo_nil ?_
        refine hK11 _ ?_
        refine vc_ret ?_
        change retPv _ _ _ _ _
        refine retPv_mk rfl rfl rfl ⟨?_, rfl⟩
        refine (congrArg (fun b => [bo b]) (?_ : _ = _) : [bo _] = [bo _])
        exact bF fun h => hc3 ((take_eq_succ (by omega) (by omega) 0).1 (take_eq_of h (k+1))).2
      · try simp only [decide_eq_true_eq, decide_eq_false_iff_not, beq_iff_eq, bne_iff_ne, beq_eq_false_iff_ne, bne_eq_false_iff_eq, Bool.not_eq_true, Bool.not_eq_false, Bool.not_eq_eq_eq_not, Bool.not_true, Bool.not_false, List.length_map, Int.not_lt, Int.not_le, ne_eq, Decidable.not_not] at hc3
        refine vc_skip ?_
        refine hK9 _ ?_
        refine vc_region ?_
        refine vo_move_pv rfl rfl ?_
        refine vo_binI rfl rfl rfl rfl sd ?_
        refine vo_assign_pv rfl rfl ?_
        refine vo_nil ?_
        change againF _ _ _ _ _ _ _ _ _
        refine againF_mk rfl rfl rfl rfl rfl rfl ⟨_, ?_, k + 1, rfl, ?_, ?_, rfl⟩
        · omega
        · omega
        · exact (take_eq_succ (by omega) (by omega) 0).2 ⟨hf, hc3⟩
    · try simp only [decide_eq_true_eq, decide_eq_false_iff_not, beq_iff_eq, bne_iff_ne, beq_eq_false_iff_ne, bne_eq_false_iff_eq, Bool.not_eq_true, Bool.not_eq_false, Bool.not_eq_eq_eq_not, Bool.not_true, Bool.not_false, List.length_map, Int.not_lt, Int.not_le, ne_eq, Decidable.not_not] at hc2
      refine vc_exit ?_
      refine hK5 _ ?_
      refine vc_seq fun K12 hK12 => ?_
      refine vc_region ?_
      refine vo_assign_pv rfl rfl ?_
      refine vo_nil ?_
      refine hK12 _ ?_
      refine vc_ret ?_
      change retPv _ _ _ _ _
      refine retPv_mk rfl rfl rfl ⟨?_, rfl⟩
      refine (congrArg (fun b => [bo b]) (?_ : _ = _) : [bo _] = [bo _])
      rw [take_all (by omega), take_all (by omega)] at hf; exact bT hf

end Go.Vl

namespace Go.Vl
set_option linter.unusedVariables false
set_option linter.unusedSimpArgs false
open Go.Proofs

theorem ordT_app {b d : List (List Int)} : ∀ n, n ≤ b.length → ordT (b ++ d) n = ordT b n
  | 0, _ => rfl
  | n + 1, h => by rw [ordT, ordT, ordT_app n (by omega), getD_app (by omega)]
theorem ordM_app {b d : List (List Int)} {c : Nat} (h : c < b.length) : ordM (b ++ d) c = ordM b c := by
  unfold ordM; rw [ordT_app c (by omega), getD_app h]
theorem ordM_take {b : List (List Int)} {n c : Nat} (h : c < n) (h2 : n ≤ b.length) : ordM (b.take n) c = ordM b c := by
  have := ordM_app (b := b.take n) (d := b.drop n) (c := c) (by rw [List.length_take]; omega)
  rw [List.take_append_drop] at this; exact this.symm
theorem acR_len1 {b : List (List Int)} {l : List Int} : (acR b l).length ≤ b.length + 1 := by
  unfold acR; split
  · rw [List.length_append, List.length_singleton]; omega
  · simp
theorem ordM_zero {b : List (List Int)} (hv : VB b) : ordM b 0 ≠ [] := by
  have h0 := hv.2.2.1
  have : ordM b 0 = ordS [] [] 0 := by unfold ordM; rw [h0]; rfl
  rw [this]
  simp [ordS, ordL, mergeM, mergeF, hds, hd1, tot]
/-- Each class up to a place has an order, just when each class may be added. -/
theorem acOK_at {b : List (List Int)} (hv : VB b) {k : Nat} (h1 : 1 ≤ k) (hk : k < b.length) : acOK (b.take k) (b.getD k []) ↔ ordM b k ≠ [] := by
  unfold acOK
  rw [snoc_take hk, show (b.take k).length = k by rw [List.length_take]; omega, ordM_take (by omega) (by omega)]
  exact ⟨fun h => h.2.2, fun h => ⟨hv.take h1 (by omega), hv.take (by omega) (by omega), h⟩⟩
theorem acR_at {b : List (List Int)} {k : Nat} (hk : k < b.length) (h : acOK (b.take k) (b.getD k [])) : acR (b.take k) (b.getD k []) = b.take (k+1) := by rw [acR_yes h, snoc_take hk]
theorem lens3 {B : List (List Int)} (h : ∀ l ∈ B, l.length ≤ 3) (n : Nat) : (B.getD n []).length ≤ 3 := by
  by_cases hn : n < B.length
  · exact h _ (getD_mem hn [])
  · simp [List.getD, List.getElem?_eq_none (by omega : B.length ≤ n)]
theorem acR_lens3 {b : List (List Int)} {l : List Int} (h : ∀ x ∈ b, x.length ≤ 3) (h2 : l.length ≤ 3) : ∀ x ∈ acR b l, x.length ≤ 3 := fun x hx => Nat.lt_succ_iff.1 (acR_lens (n := 4) (fun l hl => Nat.lt_succ_iff.2 (h l hl)) (by omega) x hx)

end Go.Vl

/- 'append' to a row whose cells' type is not known (it was taken out of another), and a tree's cell that is known. -/
namespace Go.Vl
set_option linter.unusedVariables false
set_option linter.unusedSimpArgs false
open Go.RowKit
section
variable {P : Program} {C : Ctx} {Q : Go.Exit → St → Prop} {s : St} {ops : Array Oper} {rest : List Oper} {t : Nat} {ty : TypeId} {pos : String} {af : Array Edge}

theorem vo_valueX {α : Type} {op : Op} {s1 : α → St} {sv : SV} (ht : ∀ x, Nat.blt t (s1 x).n = true)
    (hrun : ∀ m a w, SimM C s m a w → ∃ x v w' m', (execOp a.eval ⟨some t, op, ty, pos, af, none⟩).run P w = .ok (.value v) w' ∧ SimM C (s1 x) m' a w' ∧ RS w' (Gd C (s1 x).rows m' w') m' (s1 x).rows.length sv v)
    (next : ∀ x, VO P C ops rest Q ((s1 x).put t sv)) : VO P C ops (⟨some t, op, ty, pos, af, none⟩ :: rest) Q s := by
  intro a w ⟨m, hs⟩
  obtain ⟨x, v, w', m', hr, hs', hv⟩ := hrun m a w hs
  refine wpList_plain rfl fun K hK => ?_
  unfold Oper.wp
  rw [hr, Oper.upon_value]
  exact hK _ _ (next x _ _ ⟨m', hs'.put (blt_lt (ht x)) hv⟩)

theorem run_none_any {w : World} {T ty el R : TypeId} {i : TypeInfo} {size n : Nat} {v : Value} {xs : List Value} (hT : P.underlying T = some (.slice el)) (hi : P.info? el = some i) (hown : w.ownsRow 0 R size v n xs) :
    (Builtin.append_ #[T, T] ty #[v, .slice none 0 0]).run P w = .ok v w := by
  rcases hown.2 with ⟨rfl, rfl⟩ | ⟨g, cap, cur, rfl, _, _, hnc, _⟩
  · simp [Builtin.append_, run_underlying hT, sizeOf, typeInfo, hi, Builtin.lenOf, Builtin.firstCells, loadCells, loadCellsFrom]
  · simp [Builtin.append_, run_underlying hT, sizeOf, typeInfo, hi, Builtin.lenOf, Builtin.firstCells, loadCells, loadCellsFrom, hnc, storeCells]

theorem run_append_any (w : World) {T ty el R : TypeId} {i : TypeInfo} {z : Value} {size bytes : Nat} (hT : P.underlying T = some (.slice el)) (hi : P.info? el = some i) (hz : i.zero = some z) (hsize : i.size = size) (hby : i.bytes = bytes) (hzs : z.cells.size = size) (hsz : 0 < size)
    {v : Value} {n : Nat} {xs : List Value} (hown : w.ownsRow 0 R size v n xs) (ad : Addr) {k : Nat} (c : Nat) {news : List Value} (hl : news.length = k * size) (hnews : ∀ j u, news[j]? = some u → w.cell? (ad.add j) = some u) (h1 : ∀ u ∈ news, u.oneCell' = true)
    (h63 : n + k ≤ maxLen) (hbytes : (n + k) * bytes ≤ 140737488355328) :
    ∃ v' w' R2, (Builtin.append_ #[T, T] ty #[v, .slice (some ad) k c]).run P w = .ok v' w' ∧ w'.ownsRow 0 R2 size v' (n + k) (xs ++ news) ∧ w.grownBy w' v.ownBlock ∧ (v' = .slice none 0 0 → v = .slice none 0 0) ∧
      (v'.ownBlock = v.ownBlock ∨ v'.ownBlock = some w.heap.size) := by
  rcases hown.2 with ⟨rfl, rfl⟩ | ⟨g, cap, cur, rfl, _, hg, hnc, hcm, hcs, htake⟩
  · have hx : xs = [] := List.eq_nil_of_length_eq_zero (by simpa using hown.1)
    subst hx
    obtain ⟨v', w', a1, a2, a3, a4, a5⟩ := run_append_own_at (P := P) w 0 T ty el i z size bytes hT hi hz hsize hby hzs hsz (.slice none 0 0) 0 [] (World.ownsRow_nil w 0 el size) ad k c news hl hnews h1 h63 hbytes (Nat.zero_le _)
    exact ⟨v', w', el, a1, a2, a3, fun h => (a4.1 h).1, a5⟩
  · subst hsize hby
    have hlen : (xs ++ news).length = (n + k) * i.size := by rw [List.length_append, hown.1, hl, Nat.add_mul]
    by_cases hroom : n + k ≤ cap
    · have hfit : n * i.size + news.length ≤ cur.size := by rw [hl, hcs, ← Nat.add_mul]; exact Nat.mul_le_mul_right _ hroom
      have hf := run_firstCells_some (P := P) w i.size k ad k c news hl hnews
      have hst := run_storeCells_at P g (n * i.size) R news 0 cur w hg (by simpa using hfit) h1
      simp only [Nat.add_zero] at hst
      have hrun : (Builtin.append_ #[T, T] ty #[.slice (some ⟨g, 0, none⟩) n cap, .slice (some ad) k c]).run P w = .ok (.slice (some ⟨g, 0, none⟩) (n + k) cap) (w.setRow g (cur.toList.take (n * i.size) ++ news ++ cur.toList.drop (n * i.size + news.length)).toArray) := by
        simp [Builtin.append_, run_underlying hT, sizeOf, typeInfo, hi, Builtin.lenOf, hroom, hf, Addr.add_lit, hst]
      refine ⟨_, _, R, hrun, ⟨hlen, .inr ⟨g, cap, _, rfl, Nat.zero_le _, setRow_heap w g cur _ R _ hg, hroom, hcm, ?_, ?_⟩⟩,
        ⟨rfl, rfl, rfl, by simp, fun j _ hj => setRow_other w g j _ (fun e => hj (by simp [Value.ownBlock, e]))⟩, (fun h => by cases h), .inl rfl⟩
      · simp only [List.size_toArray, List.length_append, List.length_take, List.length_drop, Array.length_toList]
        omega
      · rw [htake, ← hlen]
        exact List.take_left
    · have holds : ∀ j u, xs[j]? = some u → w.cell? ((⟨g, 0, none⟩ : Addr).add j) = some u := hown.cells (g := g) rfl
      have hr := run_append_grow (P := P) w T ty el i z hT hi hz ⟨g, 0, none⟩ n cap xs hown.1 holds ad k c news hl hnews (by omega) (by simp only [maxLen] at h63; omega) (growslice_fits (by omega) hbytes)
      have hge := grownCap_ge w (n + k) cap el
      refine ⟨_, _, el, hr, ⟨hlen, .inr ⟨w.heap.size, _, _, rfl, Nat.zero_le _, heap_alloc_new w.drew _, hge, grownCap_le_maxLen w (n + k) cap el h63, ?_, ?_⟩⟩, ⟨rfl, rfl, rfl, by simp, fun j hj _ => heap_alloc_old w.drew _ hj⟩, (fun h => by cases h), .inr rfl⟩
      · simp only [Array.size_append, List.size_toArray, size_zeroCells, hzs, hown.1, hl, ← Nat.add_mul]
        congr 1
        omega
      · simp only [Array.toList_append, List.append_assoc]
        rw [← List.append_assoc, ← hlen]
        exact List.take_left

/-- 'append' to a row whose cells' type is not known. -/
theorem vo_appendU {x y : Operand} {id T el R e by' : Nat} {nl : Option Bool} {fr f : Bool} {xs ys : List PV} {d : PV} (hI : ElInfo P T el e by' d) (ht : Nat.blt t s.n = true) (hnb : C.nb ≤ id)
    (hx : getO s.env x = .ref id) (hrow : s.rows[id]? = some (.own R e nl fr xs)) (hy : srcOf s.rows (getO s.env y) = some (f, e, ys))
    (hby : (xs.length + ys.length) * by' ≤ 140737488355328) (hmx : xs.length + ys.length ≤ 9223372036854775807)
    (next : ∀ R2, VO P C ops rest Q ⟨s.n, (t, .ref id) :: killE id s.env, (s.rows.map (Row.kill id)).set id (.own R2 e (if nl = some false then some false else none) (fr && f) (xs ++ ys))⟩) :
    VO P C ops (⟨some t, .call ⟨.builtin .append, #[x, y], #[T, T]⟩, ty, pos, af, none⟩ :: rest) Q s := by
  obtain ⟨hT, ⟨inf, z, hinf, hsz, hbytes, hz, hzs, hzr⟩, hfit, he⟩ := hI
  refine vo_valueX (s1 := fun R2 => { s with env := killE id s.env, rows := (s.rows.map (Row.kill id)).set id (.own R2 e (if nl = some false then some false else none) (fr && f) (xs ++ ys)) }) (sv := .ref id) (fun _ => ht) (fun m a w hs => ?_) next
  obtain ⟨hv, hid⟩ := hs.row hx
  have hlive : liveAt s.rows id := ⟨_, hrow, rfl⟩
  have hR := hs.rows id _ hrow
  have hsrc := hs.src hy he
  obtain ⟨ao, cap0, hshape, hcap0⟩ := own_shape hR
  have hV : (m id).v = .slice ao xs.length cap0 := by rw [hshape]; rfl
  have hSb : ∀ b, blk (m id).v = some b → (m id).S b := by rw [hshape]; exact fun _ h => h
  have hob : (m id).v.ownBlock = blk (m id).v := ownBlock_blk hV
  have hdone : ∀ (v' : Value) (w' : World), (Builtin.append_ #[T, T] ty #[a.eval x, a.eval y]).run P w = .ok v' w' →
      ∃ v' w' , (execOp a.eval ⟨some t, .call ⟨.builtin .append, #[x, y], #[T, T]⟩, ty, pos, af, none⟩).run P w = .ok (.value v') w' ∧ (Builtin.append_ #[T, T] ty #[a.eval x, a.eval y]).run P w = .ok v' w' := by
    intro v' w' h
    exact ⟨v', w', by simp [execOp, resolve, invoke, builtin, h], h⟩
  have hRk : ∀ R2 : TypeId, Row.kill id (.own R2 e (if nl = some false then some false else none) (fr && f) (xs ++ ys)) = .own R2 e (if nl = some false then some false else none) (fr && f) (xs ++ ys) := fun _ => rfl
  have fin : ∀ (R2 : TypeId) (v' : Value) (w' : World) (news : List Value), (Builtin.append_ #[T, T] ty #[a.eval x, a.eval y]).run P w = .ok v' w' → w.grownBy w' (blk (m id).v) → (∀ vs, w.ownsRow 0 R e (m id).v xs.length vs → w'.ownsRow 0 R2 e v' (xs.length + ys.length) (vs ++ news)) →
      (v' = .slice none 0 0 → (m id).v = .slice none 0 0) → (∀ b, blk v' = some b → (m id).S b ∨ w.heap.size ≤ b) →
      (∀ (i : Nat) (x : PV) (j : Nat) (c : PV), ys[i]? = some x → x.cells[j]? = some c → ∃ u, news[i * e + j]? = some u ∧ RP w (Gd C s.rows m w f) c u) → (∀ (i : Nat) (x : PV), ys[i]? = some x → x.fits e) →
      ∃ (R2 : TypeId) (v : Value) (w' : World) (m' : Nat → MV), (execOp a.eval ⟨some t, .call ⟨.builtin .append, #[x, y], #[T, T]⟩, ty, pos, af, none⟩).run P w = .ok (.value v) w' ∧
        SimM C { s with env := killE id s.env, rows := (s.rows.map (Row.kill id)).set id (.own R2 e (if nl = some false then some false else none) (fr && f) (xs ++ ys)) } m' a w' ∧
        RS w' (Gd C ((s.rows.map (Row.kill id)).set id (.own R2 e (if nl = some false then some false else none) (fr && f) (xs ++ ys))) m' w') m' ((s.rows.map (Row.kill id)).set id (.own R2 e (if nl = some false then some false else none) (fr && f) (xs ++ ys))).length (.ref id) v := by
    intro R2 v' w' news hrun hg hown hnil hblk hnews hfits
    refine ⟨R2, v', w', updM m id (.of v'), by simp [execOp, resolve, invoke, builtin, hrun], ?_, ?_⟩
    · refine hs.moveRow hlive hnb hSb hg _ (.of v') (hRk R2) hblk (fun hG => ?_)
      generalize hmv : m id = v at *
      cases hR with
      | own v t' e nl fr xs vs hown0 h1 h2 hw hr =>
        have hw0 : ∀ fl b, Gd C s.rows m w fl b → Gd C s.rows m w false b := fun fl b h => h.weak
        have hcomb : ∀ b, (Gd C s.rows m w fr b ∨ Gd C s.rows m w f b) → Gd C s.rows m w (fr && f) b := by
          intro b hb
          cases hf1 : fr && f with
          | false => rcases hb with hb | hb <;> exact hb.weak
          | true =>
            simp only [Bool.and_eq_true] at hf1
            obtain ⟨rfl, rfl⟩ := hf1
            rcases hb with hb | hb <;> exact hb
        refine .own v' R2 e _ _ (xs ++ ys) (vs ++ news) (by simpa using hown vs hown0) (fun h => by split at h <;> simp at h) (fun h => ?_) (fits_append hw hfits)
          (own_append (G := Gd C s.rows m w (fr && f)) (hG _) hown0.1 (fun i x j c hx hc => ?_) hw (fun i x j c hx hc => ?_))
        · split at h
          · rename_i hnl
            intro hv'
            exact h2 hnl (hnil hv')
          · simp at h
        · obtain ⟨u, hu, hp⟩ := hr i x j c hx hc
          exact ⟨u, hu, hp.mono fun b hb => ⟨hcomb b (.inl hb), rfl⟩⟩
        · obtain ⟨u, hu, hp⟩ := hnews i x j c hx hc
          exact ⟨u, hu, hp.mono fun b hb => hG _ b (hcomb b (.inr hb))⟩
    · have := RS.ref (w := w') (G := Gd C ((s.rows.map (Row.kill id)).set id (.own R2 e (if nl = some false then some false else none) (fr && f) (xs ++ ys))) (updM m id (.of v')) w') (m := updM m id (.of v'))
        (N := ((s.rows.map (Row.kill id)).set id (.own R2 e (if nl = some false then some false else none) (fr && f) (xs ++ ys))).length) id (by simpa using hid)
      rw [updM_same] at this
      exact this
  rcases hsrc with ⟨hvy, rfl⟩ | ⟨ad, len, cap, news, hvy, rfl, hnl, hnews, hnr, hn1, hfy⟩
  · have hown1 : ∃ vs, w.ownsRow 0 R e (m id).v xs.length vs := by
      generalize m id = v at *
      cases hR with
      | own v t' e nl fr xs vs hown0 => exact ⟨vs, hown0⟩
    obtain ⟨vs1, hown1⟩ := hown1
    refine fin R (m id).v w [] ?_ ⟨rfl, rfl, rfl, Nat.le_refl _, fun _ _ _ => rfl⟩ (fun vs h => by simpa using h) (fun h => h) (fun b hb => .inl (hSb b hb)) (fun i x j c hx => by simp at hx) (fun i x hx => by simp at hx)
    rw [hv, hvy]
    exact run_none_any hT hinf hown1
  · have hown1 : ∃ vs, w.ownsRow 0 R e (m id).v xs.length vs := by
      generalize m id = v at *
      cases hR with
      | own v t' e nl fr xs vs hown0 => exact ⟨vs, hown0⟩
    obtain ⟨vs1, hown1⟩ := hown1
    obtain ⟨v', w', R2, hrun, hown', hg, hnil, hblk⟩ := run_append_any w hT hinf hz hsz hbytes hzs he hown1 ad cap hnl hnews hn1
      (by simpa [maxLen] using hmx) hby
    have hv'shape : v'.ownBlock = blk v' := by
      rcases hown'.2 with ⟨rfl, _⟩ | ⟨g, cp, cur, rfl, _⟩ <;> rfl
    refine fin R2 v' w' news (by rw [hv, hvy]; exact hrun) (by rw [← hob]; exact hg) (fun vs h => ?_) (fun h => hnil h) (fun b hb => ?_) hnr hfy
    · have e1 : vs = vs1 := by
        rcases h.2 with ⟨e1, h0⟩ | ⟨g, cp, cur, e1, _, hh, _, _, _, htk⟩
        · have l1 := h.1
          have l2 := hown1.1
          rw [h0] at l1 l2
          simp at l1 l2
          rw [l1, l2]
        · rcases hown1.2 with ⟨e2, h0⟩ | ⟨g2, cp2, cur2, e2, _, hh2, _, _, _, htk2⟩
          · rw [e1] at e2; cases e2
          · rw [e1] at e2
            cases e2
            rw [hh] at hh2
            cases hh2
            rw [← htk, ← htk2]
      rw [e1]
      exact hown'
    · rw [← hv'shape] at hb
      rcases hblk with h1 | h1
      · left; refine hSb b ?_; rw [← hob, ← h1]; exact hb
      · right; rw [h1] at hb; cases hb; exact Nat.le_refl _


/-- One cell of a row whose slices are its own becomes known. -/
theorem SimM.know {m : Nat → MV} {a : Act} {w : World} (hs : SimM C s m a w) (id i : Nat) {R : TypeId} {nl : Option Bool} {xs : List PV} (hrow : s.rows[id]? = some (.tree R 1 nl none xs)) (hi : i < xs.length) :
    ∃ u, SimM C ⟨s.n, s.env, s.rows.set id (.tree R 1 nl (some (i, some u)) xs)⟩ m a w := by
  have hR := hs.rows id _ hrow
  have hv : ∃ u, ∀ G m2 N2, RowOK w G m2 N2 (m id) (.tree R 1 nl (some (i, some u)) xs) := by
    generalize m id = v at *
    cases hR with
    | tree mv t' e nl h xs vals Sf hown h1 h2 hw hr hd hn hz hS hkn =>
      have hil : i < vals.length := by rw [hown.1]; omega
      refine ⟨vals[i], fun G m2 N2 => .tree v R 1 nl _ xs vals Sf hown h1 h2 hw (fun i x j c u hx hc hu => ?_) hd hn hz hS (fun q u h => ?_)⟩
      · exact .inl (hr i x j c u hx hc hu).tp
      · cases h; exact List.getElem?_eq_getElem hil
  obtain ⟨u, hu⟩ := hv
  exact ⟨u, hs.storeRow (w' := w) (bo := none) ⟨_, hrow, rfl⟩ (fun _ e => by cases e) ⟨rfl, rfl, rfl, Nat.le_refl _, fun _ _ _ => rfl⟩ _ (fun hG => hu _ _ _)⟩
theorem vc_know {code : Code} (id i : Nat) {R : TypeId} {nl : Option Bool} {xs : List PV} (hrow : s.rows[id]? = some (.tree R 1 nl none xs)) (hi : i < xs.length)
    (next : ∀ u, VC P C code Q ⟨s.n, s.env, s.rows.set id (.tree R 1 nl (some (i, some u)) xs)⟩) : VC P C code Q s := fun a w ⟨m, hs⟩ => by
  obtain ⟨u, hu⟩ := hs.know id i hrow hi
  exact next u a w ⟨m, hu⟩

/-- A cell of a row whose slices are its own, where it is known. -/
theorem lt_load_known {x : Operand} {T id R i : Nat} {nl : Option Bool} {u : Value} {xs : List PV} {D : TypeDesc} (hx : getO s.env x = .ptr id 1 i 0) (hrow : s.rows[id]? = some (.tree R 1 nl (some (i, some u)) xs))
    (hT : P.underlying T = some D) (hD : D.isRow = false) (hi : i < xs.length) : Lt P C s ⟨some t, .load T x, ty, pos, af, none⟩ (.val u) := by
  intro m a w hs
  obtain ⟨b, hv, hb, hid⟩ := hs.ptr hx
  have hR := hs.rows id _ hrow
  have hcell : w.cell? ⟨b, i, none⟩ = some u := by
    generalize m id = v at *
    cases hR with
    | tree mv t' e nl h xs vals Sf hown h1 h2 hw hr hd hn hz hS hkn =>
      rcases hown.2 with ⟨e0, hn0⟩ | ⟨g, cap, cur, e0, _, hheap, hle, hmx, hcs, htk⟩
      · omega
      · have hgb : b = g := by rw [e0] at hb; simpa [blk] using hb.symm
        subst hgb
        have hu := hkn i u rfl
        rw [cell_of_row w b _ cur R (0, 0) hheap, ← Array.getElem?_toList]
        rw [← hu, ← htk, List.getElem?_take, if_pos (by omega)]
  refine ⟨u, fun w' hw' => ?_, .val u⟩
  have hcell := hw'.cell hcell
  have hagg : (isAgg T).run P w' = .ok false w' := by
    cases D <;> simp_all [isAgg, run_underlying hT]
  simp only [Nat.mul_one, Nat.add_zero] at hv
  simp [execOp, Instr.loadAt, hv, Instr.sureAddr, loadVar, hagg, load, Sem.run, hcell]
end
section
variable {late : List Nat} {P : Program} {C : Ctx} {ops : Array Oper} {K : St → Prop} {s s1 : St} {n : Nat} {listed : Array Bool}
def StepV (late : List Nat) (P : Program) (C : Ctx) (ops : Array Oper) (n : Nat) (listed : Array Bool) (K : St → Prop) (s : St) (i : Nat) : Prop :=
  ∀ m a w, SimM C s m a w → wpOp P ops (post0 C K) i (fun a' w' => (ExtW w w' ∨ late.contains i = true) ∧ anyL late P ops (post0 C K) n (listed.setIfInBounds i true) a' w') a w
theorem vl_any2 (i j : Nat) (hr : Region.ready .any ops listed = [i, j]) (h1 : StepV late P C ops n listed K s i) (h2 : StepV late P C ops n listed K s j) : VL late P C ops (n + 1) listed K s := by
  intro m a w hs
  refine ⟨fun h0 => (by rw [hr] at h0; cases h0), fun q hq => ?_⟩
  rw [hr] at hq
  simp at hq
  rcases hq with rfl | rfl
  · exact h1 m a w hs
  · exact h2 m a w hs
theorem vl_any3 (i j k : Nat) (hr : Region.ready .any ops listed = [i, j, k]) (h1 : StepV late P C ops n listed K s i) (h2 : StepV late P C ops n listed K s j) (h3 : StepV late P C ops n listed K s k) : VL late P C ops (n + 1) listed K s := by
  intro m a w hs
  refine ⟨fun h0 => (by rw [hr] at h0; cases h0), fun q hq => ?_⟩
  rw [hr] at hq
  simp at hq
  rcases hq with rfl | rfl | rfl
  · exact h1 m a w hs
  · exact h2 m a w hs
  · exact h3 m a w hs
theorem sv_ext (i : Nat) {t : Nat} {op : Op} {ty : TypeId} {pos : String} {af : Array Edge} {sv : SV} (hi : ops[i]? = some ⟨some t, op, ty, pos, af, none⟩) (ht : Nat.blt t s1.n = true)
    (hx : Xt P C s ⟨some t, op, ty, pos, af, none⟩ s1 sv) (next : VL late P C ops n (listed.setIfInBounds i true) K (s1.put t sv)) : StepV late P C ops n listed K s i := by
  intro m a w hs
  obtain ⟨v, w', m', h1, h2, h3, h4⟩ := hx m a w hs
  unfold wpOp
  simp only [hi]
  have hw : Region.wanted ⟨some t, op, ty, pos, af, none⟩ (yielded ops a.tmps) = true := by simp [Region.wanted]
  rw [if_pos hw]
  left
  unfold Oper.wp
  rw [h1, Oper.upon_value]
  exact ⟨.inl h4, next m' _ _ (h2.put (blt_lt ht) h3)⟩
end
end Go.Vl

/- Every order, one by one: for statements where an operation that writes may come before a reading one. -/
namespace Go.Vl
set_option linter.unusedVariables false
set_option linter.unusedSimpArgs false
open Go.RowKit
section
variable {late : List Nat} {P : Program} {C : Ctx} {ops : Array Oper} {K : St → Prop} {s s1 : St} {n : Nat} {listed : Array Bool}
theorem vl_any1 (i : Nat) (hr : Region.ready .any ops listed = [i]) (h1 : StepV late P C ops n listed K s i) : VL late P C ops (n + 1) listed K s := by
  intro m a w hs
  refine ⟨fun h0 => (by rw [hr] at h0; cases h0), fun q hq => ?_⟩
  rw [hr] at hq
  simp at hq
  subst hq
  exact h1 m a w hs
theorem vl_any4 (i j k l : Nat) (hr : Region.ready .any ops listed = [i, j, k, l]) (h1 : StepV late P C ops n listed K s i) (h2 : StepV late P C ops n listed K s j) (h3 : StepV late P C ops n listed K s k) (h4 : StepV late P C ops n listed K s l) : VL late P C ops (n + 1) listed K s := by
  intro m a w hs
  refine ⟨fun h0 => (by rw [hr] at h0; cases h0), fun q hq => ?_⟩
  rw [hr] at hq
  simp at hq
  rcases hq with rfl | rfl | rfl | rfl
  · exact h1 m a w hs
  · exact h2 m a w hs
  · exact h3 m a w hs
  · exact h4 m a w hs
theorem sv_light (i : Nat) {t : Nat} {op : Op} {ty : TypeId} {pos : String} {af : Array Edge} {sv : SV} (hi : ops[i]? = some ⟨some t, op, ty, pos, af, none⟩) (ht : Nat.blt t s.n = true)
    (hl : Lt P C s ⟨some t, op, ty, pos, af, none⟩ sv) (next : VL late P C ops n (listed.setIfInBounds i true) K (s.put t sv)) : StepV late P C ops n listed K s i := by
  intro m a w hs
  obtain ⟨v, hrun, hv⟩ := hl m a w hs
  have hy : yieldsE P ops ⟨some t, op, ty, pos, af, none⟩ v a w := .inl ⟨by simp [Region.wanted], hrun⟩
  exact hy.op hi ⟨.inl (ExtW.refl w), next m _ _ (hs.put (blt_lt ht) hv)⟩
theorem sv_one (i : Nat) {o : Oper} (hi : ops[i]? = some o) (hlate : late.contains i = true)
    (h : VO P C ops [o] (fun e s' => e = .normal ∧ VL late P C ops n (listed.setIfInBounds i true) K s') s) : StepV late P C ops n listed K s i := by
  intro m a w hs
  have h1 := h a w ⟨m, hs⟩
  have hfin : ∀ a' w', wpList P ops (post C (fun e s' => e = .normal ∧ VL late P C ops n (listed.setIfInBounds i true) K s')) [] a' w' → (ExtW w w' ∨ late.contains i = true) ∧ anyL late P ops (post0 C K) n (listed.setIfInBounds i true) a' w' := by
    rintro a' w' ⟨s', ⟨m', hs'⟩, _, h2⟩
    exact ⟨.inr hlate, h2 m' a' w' hs'⟩
  have hpost : ∀ e a' w', e ≠ .normal → post C (fun e s' => e = .normal ∧ VL late P C ops n (listed.setIfInBounds i true) K s') e a' w' → post0 C K e a' w' := by
    rintro e a' w' hne ⟨s', _, h2, _⟩
    exact absurd h2 hne
  unfold wpOp
  simp only [hi]
  unfold wpList at h1
  by_cases hw : Region.wanted o (yielded ops a.tmps) = true
  · rw [if_pos hw] at h1 ⊢
    rcases h1 with h1 | ⟨h1, a2, w2, h2⟩
    · exact .inl (wp_mono2 hpost hfin h1)
    · exact .inr ⟨h1, a2, w2, hpost _ _ _ (by simp) h2⟩
  · rw [if_neg hw] at h1 ⊢
    exact hfin _ _ h1
end
section
variable {P : Program} {C : Ctx} {s : St} {t : Nat} {ty : TypeId} {pos : String} {af : Array Edge}
theorem l0_index_ref {x i : Operand} {f2 : Bool} {id R e : Nat} {nl : Option Bool} {xs : List PV} {T el : TypeId} {k : IntKind} {n : Int} {inf : TypeInfo} 
 (hx : getO s.env x = .ref id) (hrow : (s.rows[id]?).bind Row.sl = some (R, e, nl, xs)) (hi : getO s.env i = .pv f2 (.int k n)) (hT : P.underlying T = some (.slice el)) (hinf : P.info? el = some inf) (hsz : inf.size = e)
 (h0 : 0 ≤ n) (hn : n < xs.length) : Lt0 P C s ⟨some t, .indexAddr T x i, ty, pos, af, none⟩ ((.ptr id e n.toNat 0)) := by
  intro m a w hs
  have e2 := hs.int hi
  obtain ⟨hv, hid⟩ := hs.row hx
  obtain ⟨j, rfl⟩ := Int.eq_ofNat_of_zero_le h0
  have hj : j < xs.length := by omega
  obtain ⟨⟨vals, hown⟩, _, _, _⟩ := hs.sl hrow
  · rcases hown.2 with ⟨e0, hn0⟩ | ⟨g, cap, cur, e0, _, hh, hle, hmx, hsz', htk⟩
    · omega
    · rw [e0] at hv
      refine ⟨.pointer (some ⟨g, j * e, none⟩), fun _ => ?_, ?_⟩
      · have hadd : (⟨g, 0, none⟩ : Addr).add (j * e) = ⟨g, j * e, none⟩ := by
          unfold Addr.add
          split
          · rename_i h0; simp [h0]
          · simp
        simp [execOp, Instr.indexAt, hv, e2, asIntOf, run_underlying hT, sizeOf, typeInfo, hinf, hsz, hj, hadd]
      · simp only [Int.toNat_natCast]
        exact .ptr id e j 0 g hid (by rw [e0]; rfl)
end
end Go.Vl

namespace Go.Vl
set_option linter.unusedVariables false
set_option linter.unusedSimpArgs false
open Go.Proofs

theorem sl_h0 {L : List (List Int)} (hL : ∀ l ∈ L, l.length ≤ 4) : (L.getD 0 []).length ≤ 4 := by
  by_cases hn : 0 < L.length
  · exact hL _ (getD_mem hn [])
  · simp [List.getD, List.getElem?_eq_none (by omega : L.length ≤ 0)]
theorem sl_he {e : List Int} (he : e ∈ [[1,1],[-5],[0,1,2,3,4,5,6,7,8,9,10,11,12]]) : e.length ≤ 13 := by simp at he; rcases he with rfl | rfl | rfl <;> decide
theorem sl_app {L : List (List Int)} {e : List Int} (hL : ∀ l ∈ L, l.length ≤ 4) (he : e ∈ [[1,1],[-5],[0,1,2,3,4,5,6,7,8,9,10,11,12]]) : ∀ l ∈ L.set 0 (L.getD 0 [] ++ e), l.length ≤ 17 := by
  refine set_lens (fun l hl => by have := hL l hl; omega) ?_
  have h1 : (L.getD 0 []).length ≤ 4 := by
    by_cases hn : 0 < L.length
    · exact hL _ (getD_mem hn [])
    · simp [List.getD, List.getElem?_eq_none (by omega : L.length ≤ 0)]
  have h2 : e.length ≤ 13 := by simp at he; rcases he with rfl | rfl | rfl <;> decide
  rw [List.length_append]; omega
theorem SB.vb {B : List (List Int)} (h : SB B) (h9 : B.length ≤ 9) : VB B :=
  ⟨h.1, by omega, h.2.1, fun i hi h0 => ⟨(h.2.2 i hi h0).1, by have := (h.2.2 i hi h0).2.1; omega, (h.2.2 i hi h0).2.2.1, fun x hx => by have := (h.2.2 i hi h0).2.2.2 x hx; omega⟩⟩
theorem orderOf_satI {nl0 : Option Bool} {bases : List (List Int)} {x : Int} (hbases : bases.length < 1000000000) (hlbases : ∀ l ∈ bases, l.length < 1000000000) (hv : VB bases) (h0 : 0 ≤ x) (h1 : x < bases.length) : SatAt Try.prog 19 [.pv false (.sl nl0 1 (bases.map ints)), i64 x] [] (fun res rows => ∃ nl, res = [.ref 0] ∧ rows = [Row.own 3 1 nl true ((ordM bases x.toNat).map intP)]) := by
  obtain ⟨n, rfl⟩ := Int.eq_ofNat_of_zero_le h0
  exact orderOf_sat hbases hlbases hv n (by omega)

set_option maxHeartbeats 4000000 in
theorem someLists_sat {nl : Option Bool} {c : List (Fin 256)} {p : Nat} (hc : c.length ≤ 2000) (hp : p < 999900) : SatAt Try.prog 20 [.ptr 0 0 0 0] [rdr nl c p] (fun res rows => ∃ (L : List (List Int)) (q : Nat), (L.length ≤ 4 ∧ (∀ l ∈ L, l.length ≤ 17) ∧ q ≤ p + 60) ∧ res = [.ref 1] ∧ rows = [rdr nl c q, Row.tree 25 1 (some false) none (L.map ints)]) := by
  refine sat_entry_g (ts := [2]) Try.func20 rfl rfl (by decide) (Nat.le_of_ble_eq_true rfl) fun C hC => ?_
  rw [Try.ntmps20]
  replace hC : C.nb = 1 := hC
  refine vc_seq fun K1 hK1 => ?_
  refine vc_region ?_
  refine vo_assign_pv rfl rfl ?_
  refine vo_nil ?_
  refine hK1 _ ?_
  refine vc_seq fun K2 hK2 => ?_
  refine vc_region ?_
  refine vo_buildSlice E23 rfl rfl rfl rfl rfl ?_
  refine vo_assign_ref rfl rfl ?_
  refine vo_nil ?_
  refine hK2 _ ?_
  refine vc_seq fun K3 hK3 => ?_
  refine vc_seq fun K4 hK4 => ?_
  refine vc_region ?_
  refine vo_move_ptr rfl rfl ?_
  refine vo_buildSlice E25 rfl rfl rfl rfl rfl ?_
  refine vo_expose 2 (by omega) rfl ?_
  refine vo_weaken 10 rfl ?_
  refine vo_stN ?_
  refine vo_call [0] Try.func34 rfl rfl rfl rfl rfl rfl rfl (one_sat (list := [2,3,1,4,0]) hc (by omega) (by simp) (by simp)) ?_
  rintro _ _ ⟨x, hx, rfl, rfl⟩
  refine ⟨Nat.le_of_ble_eq_true rfl, ⟨rfl, rfl, rfl⟩, .inl rfl, ?_⟩
  refine vo_stN ?_
  refine vo_assign_pv rfl rfl ?_
  refine vo_nil ?_
  refine hK4 _ ?_
  refine vc_block ?_
  refine vc_totree 1 rfl (by intro x hx; cases hx) ?_
  refine vc_stN ?_
  refine vc_loop [0, 3, 4] (fun mz vs rows => ∃ (L : List (List Int)) (q : Nat) (n : Int), mz = n.toNat ∧ ((0 ≤ n ∧ L.length + n ≤ 4)) ∧ ((q + 10 * n ≤ p + 50)) ∧ (∀ l ∈ L, l.length ≤ 4) ∧ vs = [.ptr 0 0 0 0, .ref 1, i64 n] ∧ rows = [rdr nl c q, Row.tree 25 1 (some false) none (L.map ints), .dead]) (x.toNat) (le_len hC rfl) ⟨rfl, rfl⟩ ⟨[], p + 1, x, rfl, (by simp at hx; simp; omega), (by simp at hx; omega), (by simp), rfl, rfl⟩ ?_
  rintro mz vs rows - - ⟨L, q, n, rfl, hn, hq, hL, rfl, rfl⟩
  refine vc_seq fun K5 hK5 => ?_
  refine vc_seq fun K6 hK6 => ?_
  refine vc_region ?_
  refine vo_move_pv rfl rfl ?_
  refine vo_binI rfl rfl rfl rfl trivial ?_
  refine vo_nil ?_
  refine hK6 _ ?_
  refine vc_cond rfl (fun hc1 => ?_) (fun hc1 => ?_)
  · try simp only [decide_eq_true_eq, decide_eq_false_iff_not, beq_iff_eq, bne_iff_ne, beq_eq_false_iff_ne, bne_eq_false_iff_eq, Bool.not_eq_true, Bool.not_eq_false, Bool.not_eq_eq_eq_not, Bool.not_true, Bool.not_false, List.length_map, Int.not_lt, Int.not_le, ne_eq, Decidable.not_not] at hc1
    refine vc_skip ?_
    refine hK5 _ ?_
    refine vc_seq fun K7 hK7 => ?_
    refine vc_block ?_
    refine vc_seq fun K8 hK8 => ?_
    refine vc_region ?_
    refine vo_buildSlice E25 rfl rfl rfl rfl rfl ?_
    refine vo_assign_ref rfl rfl ?_
    refine vo_nil ?_
    refine hK8 _ ?_
    refine vc_seq fun K9 hK9 => ?_
    refine vc_seq fun K10 hK10 => ?_
    refine vc_region ?_
    refine vo_move_ptr rfl rfl ?_
    refine vo_buildSlice E25 rfl rfl rfl rfl rfl ?_
    refine vo_expose 4 (by omega) rfl ?_
    refine vo_weaken 18 rfl ?_
    refine vo_stN ?_
    refine vo_call [0] Try.func34 rfl rfl rfl rfl rfl rfl rfl (one_sat (list := [2,3,4,1,0]) hc (by omega) (by simp) (by simp)) ?_
    rintro _ _ ⟨y, hy, rfl, rfl⟩
    refine ⟨Nat.le_of_ble_eq_true rfl, ⟨rfl, rfl, rfl⟩, .inl rfl, ?_⟩
    refine vo_stN ?_
    refine vo_assign_pv rfl rfl ?_
    refine vo_nil ?_
    refine hK10 _ ?_
    refine vc_block ?_
    refine vc_stN ?_
    refine vc_loop [0, 3, 4, 5, 6] (fun mz vs rows => ∃ (q2 : Nat) (k : Int) (l : List Int), mz = k.toNat ∧ ((0 ≤ k ∧ l.length + k ≤ 4)) ∧ ((q2 + k + 10 * (n - 1) ≤ p + 50)) ∧ vs = [.ptr 0 0 0 0, .ref 1, i64 n, .ref 3, i64 k] ∧ rows = [rdr nl c q2, Row.tree 25 1 (some false) none (L.map ints), .dead, Row.own 3 1 (some false) true (l.map intP), .dead]) (y.toNat) (le_len hC rfl) ⟨rfl, rfl⟩ ⟨q + 1, y, [], rfl, (by simp at hy; simp; omega), (by simp at hy; omega), rfl, rfl⟩ ?_
    rintro mz vs rows - - ⟨q2, k, l, rfl, hk, hq2, rfl, rfl⟩
    refine vc_seq fun K11 hK11 => ?_
    refine vc_seq fun K12 hK12 => ?_
    refine vc_region ?_
    refine vo_move_pv rfl rfl ?_
    refine vo_binI rfl rfl rfl rfl trivial ?_
    refine vo_nil ?_
    refine hK12 _ ?_
    refine vc_cond rfl (fun hc2 => ?_) (fun hc2 => ?_)
    · try simp only [decide_eq_true_eq, decide_eq_false_iff_not, beq_iff_eq, bne_iff_ne, beq_eq_false_iff_ne, bne_eq_false_iff_eq, Bool.not_eq_true, Bool.not_eq_false, Bool.not_eq_eq_eq_not, Bool.not_true, Bool.not_false, List.length_map, Int.not_lt, Int.not_le, ne_eq, Decidable.not_not] at hc2
      refine vc_skip ?_
      refine hK11 _ ?_
      refine vc_seq fun K13 hK13 => ?_
      refine vc_block ?_
      refine vc_seq fun K14 hK14 => ?_
      refine vc_region ?_
      refine vo_move_ptr rfl rfl ?_
      refine vo_call [0] Try.func17 rfl rfl rfl rfl rfl rfl rfl (pick_sat hc (by omega)) ?_
      rintro _ _ ⟨z, ⟨hz0, hz1⟩, rfl, rfl⟩
      refine ⟨Nat.le_of_ble_eq_true rfl, ⟨rfl, rfl, rfl⟩, .inl rfl, ?_⟩
      refine vo_stN ?_
      refine vo_assign_pv rfl rfl ?_
      refine vo_nil ?_
      refine hK14 _ ?_
      refine vc_seq fun K15 hK15 => ?_
      refine vc_region ?_
      refine vo_move_ref rfl rfl ?_
      refine vo_move_pv rfl rfl ?_
      refine vo_call0 Try.func35 rfl rfl rfl rfl (placeIn_sat (by omega)) ?_
      rintro _ _ ⟨rfl, rfl⟩
      refine ⟨rfl, rfl, .inr rfl, ?_⟩
      refine vo_binI rfl rfl rfl rfl trivial ?_
      refine vo_nil ?_
      refine hK15 _ ?_
      refine vc_cond rfl (fun hc3 => ?_) (fun hc3 => ?_)
      · try simp only [decide_eq_true_eq, decide_eq_false_iff_not, beq_iff_eq, bne_iff_ne, beq_eq_false_iff_ne, bne_eq_false_iff_eq, Bool.not_eq_true, Bool.not_eq_false, Bool.not_eq_eq_eq_not, Bool.not_true, Bool.not_false, List.length_map, Int.not_lt, Int.not_le, ne_eq, Decidable.not_not] at hc3
        refine vc_region ?_
        refine vo_move_ref rfl rfl ?_
        refine vo_move_pv rfl rfl ?_
        refine vo_buildSlice E25 rfl rfl rfl rfl rfl ?_
        refine vo_append E25 rfl (by omega) rfl rfl rfl sd sd ?_
        refine vo_stN ?_
        try simp only [app_ints, app_intss, app_bools]
        refine vo_assign_ref rfl rfl ?_
        refine vo_nil ?_
        refine hK13 _ ?_
        refine vc_region ?_
        refine vo_move_pv rfl rfl ?_
        refine vo_binI rfl rfl rfl rfl sd ?_
        refine vo_assign_pv rfl rfl ?_
        refine vo_nil ?_
        change again _ _ _ _ _ _
        refine again_mk rfl rfl rfl rfl ⟨_, ?_, q2 + 1, k - 1, l ++ [z], rfl, ?_, ?_, rfl, rfl⟩
        · omega
        · rw [List.length_append, List.length_singleton]; omega
        · omega
      · try simp only [decide_eq_true_eq, decide_eq_false_iff_not, beq_iff_eq, bne_iff_ne, beq_eq_false_iff_ne, bne_eq_false_iff_eq, Bool.not_eq_true, Bool.not_eq_false, Bool.not_eq_eq_eq_not, Bool.not_true, Bool.not_false, List.length_map, Int.not_lt, Int.not_le, ne_eq, Decidable.not_not] at hc3
        refine vc_skip ?_
        refine hK13 _ ?_
        refine vc_region ?_
        refine vo_move_pv rfl rfl ?_
        refine vo_binI rfl rfl rfl rfl sd ?_
        refine vo_assign_pv rfl rfl ?_
        refine vo_nil ?_
        change again _ _ _ _ _ _
        refine again_mk rfl rfl rfl rfl ⟨_, ?_, q2 + 1, k - 1, l, rfl, ?_, ?_, rfl, rfl⟩
        · omega
        · omega
        · omega
    · try simp only [decide_eq_true_eq, decide_eq_false_iff_not, beq_iff_eq, bne_iff_ne, beq_eq_false_iff_ne, bne_eq_false_iff_eq, Bool.not_eq_true, Bool.not_eq_false, Bool.not_eq_eq_eq_not, Bool.not_true, Bool.not_false, List.length_map, Int.not_lt, Int.not_le, ne_eq, Decidable.not_not] at hc2
      refine vc_exit ?_
      refine hK9 _ ?_
      refine vc_region ?_
      refine vo_move_ref rfl rfl ?_
      refine vo_move_ref rfl rfl ?_
      refine vo_build_tree E23 rfl rfl rfl rfl (fits_of rfl) (fun _ _ _ _ _ h => (own_tp h (plain_ints _)).1.weak) (by omega) ?_
      refine vo_stN ?_
      refine vo_append_tree E23 rfl (by omega) (by omega) rfl rfl rfl rfl rfl sd sd (by simp) ?_
      refine vo_stN ?_
      try simp only [app_ints, app_intss, app_bools]
      refine vo_assign_ref rfl rfl ?_
      refine vo_nil ?_
      refine hK7 _ ?_
      refine vc_region ?_
      refine vo_move_pv rfl rfl ?_
      refine vo_binI rfl rfl rfl rfl sd ?_
      refine vo_assign_pv rfl rfl ?_
      refine vo_nil ?_
      change again _ _ _ _ _ _
      refine again_mk rfl rfl rfl rfl ⟨_, ?_, L ++ [l], q2, n - 1, rfl, ?_, ?_, ?_, rfl, rfl⟩
      · omega
      · rw [List.length_append, List.length_singleton]; omega
      · omega
      · exact app_lens hL (by omega)
  · try simp only [decide_eq_true_eq, decide_eq_false_iff_not, beq_iff_eq, bne_iff_ne, beq_eq_false_iff_ne, bne_eq_false_iff_eq, Bool.not_eq_true, Bool.not_eq_false, Bool.not_eq_eq_eq_not, Bool.not_true, Bool.not_false, List.length_map, Int.not_lt, Int.not_le, ne_eq, Decidable.not_not] at hc1
    refine vc_exit ?_
    refine hK3 _ ?_
    refine vc_seq fun K16 hK16 => ?_
    refine vc_seq fun K17 hK17 => ?_
    refine vc_region ?_
    refine vo_move_ref rfl rfl ?_
    refine vo_len_ref rfl rfl rfl Try.underlying23 ?_
    refine vo_binI rfl rfl rfl rfl trivial ?_
    refine vo_move_pv rfl rfl ?_
    refine vo_split 41 rfl (fun hg4 => ?_) (fun hg4 => ?_)
    · try simp only [decide_eq_true_eq, decide_eq_false_iff_not, beq_iff_eq, bne_iff_ne, beq_eq_false_iff_ne, bne_eq_false_iff_eq, Bool.not_eq_true, Bool.not_eq_false, Bool.not_eq_eq_eq_not, Bool.not_true, Bool.not_false, List.length_map, Int.not_lt, Int.not_le, ne_eq, Decidable.not_not] at hg4
      refine vo_guard_on rfl rfl rfl ?_
      refine vo_move_ptr rfl rfl ?_
      refine vo_guard_on rfl rfl rfl ?_
      refine vo_call [0] Try.func17 rfl rfl rfl rfl rfl rfl rfl (pick_sat hc (by omega)) ?_
      rintro _ _ ⟨v, ⟨hv0, hv1⟩, rfl, rfl⟩
      refine ⟨Nat.le_of_ble_eq_true rfl, ⟨rfl, rfl, rfl⟩, .inl rfl, ?_⟩
      refine vo_stN ?_
      refine vo_guard_on rfl rfl rfl ?_
      refine vo_binI rfl rfl rfl rfl trivial ?_
      refine vo_pick_t rfl rfl ?_
      refine vo_nil ?_
      refine hK17 _ ?_
      refine vc_cond rfl (fun hc5 => ?_) (fun hc5 => ?_)
      · try simp only [decide_eq_true_eq, decide_eq_false_iff_not, beq_iff_eq, bne_iff_ne, beq_eq_false_iff_ne, bne_eq_false_iff_eq, Bool.not_eq_true, Bool.not_eq_false, Bool.not_eq_eq_eq_not, Bool.not_true, Bool.not_false, List.length_map, Int.not_lt, Int.not_le, ne_eq, Decidable.not_not] at hc5
        have hL0 := sl_h0 hL
        refine vc_know 1 0 rfl sd fun u9 => ?_
        refine vc_stN ?_
        refine vc_drawL [9, 10, 12] (by kernel_rfl) ?_
        change VL [9, 10, 12] _ _ _ 13 _ _ _
        refine vl_light0 0 rfl rfl rfl (by kernel_rfl) (by kernel_rfl) (by kernel_rfl) (wnt_none rfl) (l0_move_ref rfl) ?_
        refine vl_light0 1 rfl rfl rfl (by kernel_rfl) (by kernel_rfl) (by kernel_rfl) (wnt_none rfl) (l0_move_ref rfl) ?_
        refine vl_light0 2 rfl rfl rfl (by kernel_rfl) (by kernel_rfl) (by kernel_rfl) (wnt_none rfl) (l0_index_ref rfl rfl rfl E23.und inf25 sz25 sd sd) ?_
        try simp only [Int.toNat_natCast]
        refine vl_light0 4 rfl rfl rfl (by kernel_rfl) (by kernel_rfl) (by kernel_rfl) (wnt_none rfl) (l0_move_ptr rfl) ?_
        refine vl_any4 3 5 6 7 (by kernel_rfl) ?_ ?_ ?_ ?_
        · refine sv_light 3 rfl rfl (lt_load_known rfl rfl Try.underlying25 rfl sd) ?_
          refine vl_any3 5 6 7 (by kernel_rfl) ?_ ?_ ?_
          · refine sv_ext 5 rfl rfl (xt_buildSlice E25 rfl rfl rfl rfl) ?_
            refine vl_any2 6 7 (by kernel_rfl) ?_ ?_
            · refine sv_ext 6 rfl rfl (xt_buildSlice E25 rfl rfl rfl rfl) ?_
              refine vl_any1 7 (by kernel_rfl) ?_
              · refine sv_ext 7 rfl rfl (xt_buildSlice E25 rfl rfl rfl rfl) ?_
                refine vl_expose 3 (by omega) rfl ?_
                refine vl_weaken 51 rfl ?_
                refine vl_stN ?_
                refine vl_expose 4 (by omega) rfl ?_
                refine vl_weaken 52 rfl ?_
                refine vl_stN ?_
                refine vl_expose 5 (by omega) rfl ?_
                refine vl_weaken 53 rfl ?_
                refine vl_stN ?_
                refine vl_any1 8 (by kernel_rfl) ?_
                · refine sv_ext 8 rfl rfl (xt_buildSlice E23 rfl rfl rfl rfl) ?_
                  refine vl_any1 9 (by kernel_rfl) ?_
                  · refine sv_one 9 rfl (by kernel_rfl) ?_
                    refine vo_expose 6 (by omega) rfl ?_
                    refine vo_weaken 54 rfl ?_
                    refine vo_stN ?_
                    refine vo_call [0] Try.func36 rfl rfl rfl rfl rfl rfl rfl (one2_sat (list := [[1,1],[-5],[0,1,2,3,4,5,6,7,8,9,10,11,12]]) hc (by omega) (by simp) (by simp)) ?_
                    rintro _ _ ⟨e, he, rfl, rfl⟩
                    refine ⟨Nat.le_of_ble_eq_true rfl, ⟨rfl, rfl, rfl⟩, .inl rfl, ?_⟩
                    refine vo_stN ?_
                    have he2 := sl_he he
                    refine vo_done ⟨rfl, ?_⟩
                    refine vl_any1 10 (by kernel_rfl) ?_
                    · refine sv_one 10 rfl (by kernel_rfl) ?_
                      refine vo_take 1 49 (by omega) rfl rfl (get_intss (k := 0) (by omega)) (plain_ints _) fun Rt => ?_
                      refine vo_stN ?_
                      refine vo_appendU E25 rfl (by omega) rfl rfl rfl sd sd fun Rt2 => ?_
                      refine vo_stN ?_
                      try simp only [app_ints, app_intss, app_bools]
                      refine vo_st (by simp only [← List.map_append]; exact eq_refl _) ?_
                      refine vo_done ⟨rfl, ?_⟩
                      refine vl_light0 11 rfl rfl rfl (by kernel_rfl) (by kernel_rfl) (by kernel_rfl) (wnt_none rfl) (l0_index_ref rfl rfl rfl E23.und inf25 sz25 sd sd) ?_
                      try simp only [Int.toNat_natCast]
                      refine vl_any1 12 (by kernel_rfl) ?_
                      · refine sv_one 12 rfl (by kernel_rfl) ?_
                        refine vo_store_tree rfl rfl (.inr ⟨_, rfl⟩) rfl rfl rfl (fits_of rfl) (fun _ _ _ _ _ h => (own_tp h (plain_ints _)).1.weak) rfl (by omega) (by omega) inf25 sz25 sd ?_
                        refine vo_stN ?_
                        try simp only [set_intss, Int.toNat_natCast]
                        refine vo_done ⟨rfl, ?_⟩
                        refine vl_nil (by kernel_rfl) ?_
                        refine hK16 _ ?_
                        refine vc_seq fun K18 hK18 => ?_
                        refine vc_region ?_
                        refine vo_move_ref rfl rfl ?_
                        refine vo_assign_ref rfl rfl ?_
                        refine vo_nil ?_
                        refine hK18 _ ?_
                        refine vc_ret ?_
                        change retG _ _ _ _ _
                        refine retG_one 1 hC rfl rfl rfl rfl rfl ?_
                        first | exact ⟨_, _, ⟨by omega, fun l hl => by have := hL l hl; omega, by omega⟩, rfl, rfl⟩ | exact ⟨L.set 0 (L.getD 0 [] ++ e), _, ⟨by rw [List.length_set]; omega, sl_app hL he, by omega⟩, rfl, rfl⟩
            · refine sv_ext 7 rfl rfl (xt_buildSlice E25 rfl rfl rfl rfl) ?_
              refine vl_any1 6 (by kernel_rfl) ?_
              · refine sv_ext 6 rfl rfl (xt_buildSlice E25 rfl rfl rfl rfl) ?_
                refine vl_expose 3 (by omega) rfl ?_
                refine vl_weaken 51 rfl ?_
                refine vl_stN ?_
                refine vl_expose 5 (by omega) rfl ?_
                refine vl_weaken 52 rfl ?_
                refine vl_stN ?_
                refine vl_expose 4 (by omega) rfl ?_
                refine vl_weaken 53 rfl ?_
                refine vl_stN ?_
                refine vl_any1 8 (by kernel_rfl) ?_
                · refine sv_ext 8 rfl rfl (xt_buildSlice E23 rfl rfl rfl rfl) ?_
                  refine vl_any1 9 (by kernel_rfl) ?_
                  · refine sv_one 9 rfl (by kernel_rfl) ?_
                    refine vo_expose 6 (by omega) rfl ?_
                    refine vo_weaken 54 rfl ?_
                    refine vo_stN ?_
                    refine vo_call [0] Try.func36 rfl rfl rfl rfl rfl rfl rfl (one2_sat (list := [[1,1],[-5],[0,1,2,3,4,5,6,7,8,9,10,11,12]]) hc (by omega) (by simp) (by simp)) ?_
                    rintro _ _ ⟨e, he, rfl, rfl⟩
                    refine ⟨Nat.le_of_ble_eq_true rfl, ⟨rfl, rfl, rfl⟩, .inl rfl, ?_⟩
                    refine vo_stN ?_
                    have he2 := sl_he he
                    refine vo_done ⟨rfl, ?_⟩
                    refine vl_any1 10 (by kernel_rfl) ?_
                    · refine sv_one 10 rfl (by kernel_rfl) ?_
                      refine vo_take 1 49 (by omega) rfl rfl (get_intss (k := 0) (by omega)) (plain_ints _) fun Rt => ?_
                      refine vo_stN ?_
                      refine vo_appendU E25 rfl (by omega) rfl rfl rfl sd sd fun Rt2 => ?_
                      refine vo_stN ?_
                      try simp only [app_ints, app_intss, app_bools]
                      refine vo_st (by simp only [← List.map_append]; exact eq_refl _) ?_
                      refine vo_done ⟨rfl, ?_⟩
                      refine vl_light0 11 rfl rfl rfl (by kernel_rfl) (by kernel_rfl) (by kernel_rfl) (wnt_none rfl) (l0_index_ref rfl rfl rfl E23.und inf25 sz25 sd sd) ?_
                      try simp only [Int.toNat_natCast]
                      refine vl_any1 12 (by kernel_rfl) ?_
                      · refine sv_one 12 rfl (by kernel_rfl) ?_
                        refine vo_store_tree rfl rfl (.inr ⟨_, rfl⟩) rfl rfl rfl (fits_of rfl) (fun _ _ _ _ _ h => (own_tp h (plain_ints _)).1.weak) rfl (by omega) (by omega) inf25 sz25 sd ?_
                        refine vo_stN ?_
                        try simp only [set_intss, Int.toNat_natCast]
                        refine vo_done ⟨rfl, ?_⟩
                        refine vl_nil (by kernel_rfl) ?_
                        refine hK16 _ ?_
                        refine vc_seq fun K19 hK19 => ?_
                        refine vc_region ?_
                        refine vo_move_ref rfl rfl ?_
                        refine vo_assign_ref rfl rfl ?_
                        refine vo_nil ?_
                        refine hK19 _ ?_
                        refine vc_ret ?_
                        change retG _ _ _ _ _
                        refine retG_one 1 hC rfl rfl rfl rfl rfl ?_
                        first | exact ⟨_, _, ⟨by omega, fun l hl => by have := hL l hl; omega, by omega⟩, rfl, rfl⟩ | exact ⟨L.set 0 (L.getD 0 [] ++ e), _, ⟨by rw [List.length_set]; omega, sl_app hL he, by omega⟩, rfl, rfl⟩
          · refine sv_ext 6 rfl rfl (xt_buildSlice E25 rfl rfl rfl rfl) ?_
            refine vl_any2 5 7 (by kernel_rfl) ?_ ?_
            · refine sv_ext 5 rfl rfl (xt_buildSlice E25 rfl rfl rfl rfl) ?_
              refine vl_any1 7 (by kernel_rfl) ?_
              · refine sv_ext 7 rfl rfl (xt_buildSlice E25 rfl rfl rfl rfl) ?_
                refine vl_expose 4 (by omega) rfl ?_
                refine vl_weaken 51 rfl ?_
                refine vl_stN ?_
                refine vl_expose 3 (by omega) rfl ?_
                refine vl_weaken 52 rfl ?_
                refine vl_stN ?_
                refine vl_expose 5 (by omega) rfl ?_
                refine vl_weaken 53 rfl ?_
                refine vl_stN ?_
                refine vl_any1 8 (by kernel_rfl) ?_
                · refine sv_ext 8 rfl rfl (xt_buildSlice E23 rfl rfl rfl rfl) ?_
                  refine vl_any1 9 (by kernel_rfl) ?_
                  · refine sv_one 9 rfl (by kernel_rfl) ?_
                    refine vo_expose 6 (by omega) rfl ?_
                    refine vo_weaken 54 rfl ?_
                    refine vo_stN ?_
                    refine vo_call [0] Try.func36 rfl rfl rfl rfl rfl rfl rfl (one2_sat (list := [[1,1],[-5],[0,1,2,3,4,5,6,7,8,9,10,11,12]]) hc (by omega) (by simp) (by simp)) ?_
                    rintro _ _ ⟨e, he, rfl, rfl⟩
                    refine ⟨Nat.le_of_ble_eq_true rfl, ⟨rfl, rfl, rfl⟩, .inl rfl, ?_⟩
                    refine vo_stN ?_
                    have he2 := sl_he he
                    refine vo_done ⟨rfl, ?_⟩
                    refine vl_any1 10 (by kernel_rfl) ?_
                    · refine sv_one 10 rfl (by kernel_rfl) ?_
                      refine vo_take 1 49 (by omega) rfl rfl (get_intss (k := 0) (by omega)) (plain_ints _) fun Rt => ?_
                      refine vo_stN ?_
                      refine vo_appendU E25 rfl (by omega) rfl rfl rfl sd sd fun Rt2 => ?_
                      refine vo_stN ?_
                      try simp only [app_ints, app_intss, app_bools]
                      refine vo_st (by simp only [← List.map_append]; exact eq_refl _) ?_
                      refine vo_done ⟨rfl, ?_⟩
                      refine vl_light0 11 rfl rfl rfl (by kernel_rfl) (by kernel_rfl) (by kernel_rfl) (wnt_none rfl) (l0_index_ref rfl rfl rfl E23.und inf25 sz25 sd sd) ?_
                      try simp only [Int.toNat_natCast]
                      refine vl_any1 12 (by kernel_rfl) ?_
                      · refine sv_one 12 rfl (by kernel_rfl) ?_
                        refine vo_store_tree rfl rfl (.inr ⟨_, rfl⟩) rfl rfl rfl (fits_of rfl) (fun _ _ _ _ _ h => (own_tp h (plain_ints _)).1.weak) rfl (by omega) (by omega) inf25 sz25 sd ?_
                        refine vo_stN ?_
                        try simp only [set_intss, Int.toNat_natCast]
                        refine vo_done ⟨rfl, ?_⟩
                        refine vl_nil (by kernel_rfl) ?_
                        refine hK16 _ ?_
                        refine vc_seq fun K20 hK20 => ?_
                        refine vc_region ?_
                        refine vo_move_ref rfl rfl ?_
                        refine vo_assign_ref rfl rfl ?_
                        refine vo_nil ?_
                        refine hK20 _ ?_
                        refine vc_ret ?_
                        change retG _ _ _ _ _
                        refine retG_one 1 hC rfl rfl rfl rfl rfl ?_
                        first | exact ⟨_, _, ⟨by omega, fun l hl => by have := hL l hl; omega, by omega⟩, rfl, rfl⟩ | exact ⟨L.set 0 (L.getD 0 [] ++ e), _, ⟨by rw [List.length_set]; omega, sl_app hL he, by omega⟩, rfl, rfl⟩
            · refine sv_ext 7 rfl rfl (xt_buildSlice E25 rfl rfl rfl rfl) ?_
              refine vl_any1 5 (by kernel_rfl) ?_
              · refine sv_ext 5 rfl rfl (xt_buildSlice E25 rfl rfl rfl rfl) ?_
                refine vl_expose 5 (by omega) rfl ?_
                refine vl_weaken 51 rfl ?_
                refine vl_stN ?_
                refine vl_expose 3 (by omega) rfl ?_
                refine vl_weaken 52 rfl ?_
                refine vl_stN ?_
                refine vl_expose 4 (by omega) rfl ?_
                refine vl_weaken 53 rfl ?_
                refine vl_stN ?_
                refine vl_any1 8 (by kernel_rfl) ?_
                · refine sv_ext 8 rfl rfl (xt_buildSlice E23 rfl rfl rfl rfl) ?_
                  refine vl_any1 9 (by kernel_rfl) ?_
                  · refine sv_one 9 rfl (by kernel_rfl) ?_
                    refine vo_expose 6 (by omega) rfl ?_
                    refine vo_weaken 54 rfl ?_
                    refine vo_stN ?_
                    refine vo_call [0] Try.func36 rfl rfl rfl rfl rfl rfl rfl (one2_sat (list := [[1,1],[-5],[0,1,2,3,4,5,6,7,8,9,10,11,12]]) hc (by omega) (by simp) (by simp)) ?_
                    rintro _ _ ⟨e, he, rfl, rfl⟩
                    refine ⟨Nat.le_of_ble_eq_true rfl, ⟨rfl, rfl, rfl⟩, .inl rfl, ?_⟩
                    refine vo_stN ?_
                    have he2 := sl_he he
                    refine vo_done ⟨rfl, ?_⟩
                    refine vl_any1 10 (by kernel_rfl) ?_
                    · refine sv_one 10 rfl (by kernel_rfl) ?_
                      refine vo_take 1 49 (by omega) rfl rfl (get_intss (k := 0) (by omega)) (plain_ints _) fun Rt => ?_
                      refine vo_stN ?_
                      refine vo_appendU E25 rfl (by omega) rfl rfl rfl sd sd fun Rt2 => ?_
                      refine vo_stN ?_
                      try simp only [app_ints, app_intss, app_bools]
                      refine vo_st (by simp only [← List.map_append]; exact eq_refl _) ?_
                      refine vo_done ⟨rfl, ?_⟩
                      refine vl_light0 11 rfl rfl rfl (by kernel_rfl) (by kernel_rfl) (by kernel_rfl) (wnt_none rfl) (l0_index_ref rfl rfl rfl E23.und inf25 sz25 sd sd) ?_
                      try simp only [Int.toNat_natCast]
                      refine vl_any1 12 (by kernel_rfl) ?_
                      · refine sv_one 12 rfl (by kernel_rfl) ?_
                        refine vo_store_tree rfl rfl (.inr ⟨_, rfl⟩) rfl rfl rfl (fits_of rfl) (fun _ _ _ _ _ h => (own_tp h (plain_ints _)).1.weak) rfl (by omega) (by omega) inf25 sz25 sd ?_
                        refine vo_stN ?_
                        try simp only [set_intss, Int.toNat_natCast]
                        refine vo_done ⟨rfl, ?_⟩
                        refine vl_nil (by kernel_rfl) ?_
                        refine hK16 _ ?_
                        refine vc_seq fun K21 hK21 => ?_
                        refine vc_region ?_
                        refine vo_move_ref rfl rfl ?_
                        refine vo_assign_ref rfl rfl ?_
                        refine vo_nil ?_
                        refine hK21 _ ?_
                        refine vc_ret ?_
                        change retG _ _ _ _ _
                        refine retG_one 1 hC rfl rfl rfl rfl rfl ?_
                        first | exact ⟨_, _, ⟨by omega, fun l hl => by have := hL l hl; omega, by omega⟩, rfl, rfl⟩ | exact ⟨L.set 0 (L.getD 0 [] ++ e), _, ⟨by rw [List.length_set]; omega, sl_app hL he, by omega⟩, rfl, rfl⟩
          · refine sv_ext 7 rfl rfl (xt_buildSlice E25 rfl rfl rfl rfl) ?_
            refine vl_any2 5 6 (by kernel_rfl) ?_ ?_
            · refine sv_ext 5 rfl rfl (xt_buildSlice E25 rfl rfl rfl rfl) ?_
              refine vl_any1 6 (by kernel_rfl) ?_
              · refine sv_ext 6 rfl rfl (xt_buildSlice E25 rfl rfl rfl rfl) ?_
                refine vl_expose 4 (by omega) rfl ?_
                refine vl_weaken 51 rfl ?_
                refine vl_stN ?_
                refine vl_expose 5 (by omega) rfl ?_
                refine vl_weaken 52 rfl ?_
                refine vl_stN ?_
                refine vl_expose 3 (by omega) rfl ?_
                refine vl_weaken 53 rfl ?_
                refine vl_stN ?_
                refine vl_any1 8 (by kernel_rfl) ?_
                · refine sv_ext 8 rfl rfl (xt_buildSlice E23 rfl rfl rfl rfl) ?_
                  refine vl_any1 9 (by kernel_rfl) ?_
                  · refine sv_one 9 rfl (by kernel_rfl) ?_
                    refine vo_expose 6 (by omega) rfl ?_
                    refine vo_weaken 54 rfl ?_
                    refine vo_stN ?_
                    refine vo_call [0] Try.func36 rfl rfl rfl rfl rfl rfl rfl (one2_sat (list := [[1,1],[-5],[0,1,2,3,4,5,6,7,8,9,10,11,12]]) hc (by omega) (by simp) (by simp)) ?_
                    rintro _ _ ⟨e, he, rfl, rfl⟩
                    refine ⟨Nat.le_of_ble_eq_true rfl, ⟨rfl, rfl, rfl⟩, .inl rfl, ?_⟩
                    refine vo_stN ?_
                    have he2 := sl_he he
                    refine vo_done ⟨rfl, ?_⟩
                    refine vl_any1 10 (by kernel_rfl) ?_
                    · refine sv_one 10 rfl (by kernel_rfl) ?_
                      refine vo_take 1 49 (by omega) rfl rfl (get_intss (k := 0) (by omega)) (plain_ints _) fun Rt => ?_
                      refine vo_stN ?_
                      refine vo_appendU E25 rfl (by omega) rfl rfl rfl sd sd fun Rt2 => ?_
                      refine vo_stN ?_
                      try simp only [app_ints, app_intss, app_bools]
                      refine vo_st (by simp only [← List.map_append]; exact eq_refl _) ?_
                      refine vo_done ⟨rfl, ?_⟩
                      refine vl_light0 11 rfl rfl rfl (by kernel_rfl) (by kernel_rfl) (by kernel_rfl) (wnt_none rfl) (l0_index_ref rfl rfl rfl E23.und inf25 sz25 sd sd) ?_
                      try simp only [Int.toNat_natCast]
                      refine vl_any1 12 (by kernel_rfl) ?_
                      · refine sv_one 12 rfl (by kernel_rfl) ?_
                        refine vo_store_tree rfl rfl (.inr ⟨_, rfl⟩) rfl rfl rfl (fits_of rfl) (fun _ _ _ _ _ h => (own_tp h (plain_ints _)).1.weak) rfl (by omega) (by omega) inf25 sz25 sd ?_
                        refine vo_stN ?_
                        try simp only [set_intss, Int.toNat_natCast]
                        refine vo_done ⟨rfl, ?_⟩
                        refine vl_nil (by kernel_rfl) ?_
                        refine hK16 _ ?_
                        refine vc_seq fun K22 hK22 => ?_
                        refine vc_region ?_
                        refine vo_move_ref rfl rfl ?_
                        refine vo_assign_ref rfl rfl ?_
                        refine vo_nil ?_
                        refine hK22 _ ?_
                        refine vc_ret ?_
                        change retG _ _ _ _ _
                        refine retG_one 1 hC rfl rfl rfl rfl rfl ?_
                        first | exact ⟨_, _, ⟨by omega, fun l hl => by have := hL l hl; omega, by omega⟩, rfl, rfl⟩ | exact ⟨L.set 0 (L.getD 0 [] ++ e), _, ⟨by rw [List.length_set]; omega, sl_app hL he, by omega⟩, rfl, rfl⟩
            · refine sv_ext 6 rfl rfl (xt_buildSlice E25 rfl rfl rfl rfl) ?_
              refine vl_any1 5 (by kernel_rfl) ?_
              · refine sv_ext 5 rfl rfl (xt_buildSlice E25 rfl rfl rfl rfl) ?_
                refine vl_expose 5 (by omega) rfl ?_
                refine vl_weaken 51 rfl ?_
                refine vl_stN ?_
                refine vl_expose 4 (by omega) rfl ?_
                refine vl_weaken 52 rfl ?_
                refine vl_stN ?_
                refine vl_expose 3 (by omega) rfl ?_
                refine vl_weaken 53 rfl ?_
                refine vl_stN ?_
                refine vl_any1 8 (by kernel_rfl) ?_
                · refine sv_ext 8 rfl rfl (xt_buildSlice E23 rfl rfl rfl rfl) ?_
                  refine vl_any1 9 (by kernel_rfl) ?_
                  · refine sv_one 9 rfl (by kernel_rfl) ?_
                    refine vo_expose 6 (by omega) rfl ?_
                    refine vo_weaken 54 rfl ?_
                    refine vo_stN ?_
                    refine vo_call [0] Try.func36 rfl rfl rfl rfl rfl rfl rfl (one2_sat (list := [[1,1],[-5],[0,1,2,3,4,5,6,7,8,9,10,11,12]]) hc (by omega) (by simp) (by simp)) ?_
                    rintro _ _ ⟨e, he, rfl, rfl⟩
                    refine ⟨Nat.le_of_ble_eq_true rfl, ⟨rfl, rfl, rfl⟩, .inl rfl, ?_⟩
                    refine vo_stN ?_
                    have he2 := sl_he he
                    refine vo_done ⟨rfl, ?_⟩
                    refine vl_any1 10 (by kernel_rfl) ?_
                    · refine sv_one 10 rfl (by kernel_rfl) ?_
                      refine vo_take 1 49 (by omega) rfl rfl (get_intss (k := 0) (by omega)) (plain_ints _) fun Rt => ?_
                      refine vo_stN ?_
                      refine vo_appendU E25 rfl (by omega) rfl rfl rfl sd sd fun Rt2 => ?_
                      refine vo_stN ?_
                      try simp only [app_ints, app_intss, app_bools]
                      refine vo_st (by simp only [← List.map_append]; exact eq_refl _) ?_
                      refine vo_done ⟨rfl, ?_⟩
                      refine vl_light0 11 rfl rfl rfl (by kernel_rfl) (by kernel_rfl) (by kernel_rfl) (wnt_none rfl) (l0_index_ref rfl rfl rfl E23.und inf25 sz25 sd sd) ?_
                      try simp only [Int.toNat_natCast]
                      refine vl_any1 12 (by kernel_rfl) ?_
                      · refine sv_one 12 rfl (by kernel_rfl) ?_
                        refine vo_store_tree rfl rfl (.inr ⟨_, rfl⟩) rfl rfl rfl (fits_of rfl) (fun _ _ _ _ _ h => (own_tp h (plain_ints _)).1.weak) rfl (by omega) (by omega) inf25 sz25 sd ?_
                        refine vo_stN ?_
                        try simp only [set_intss, Int.toNat_natCast]
                        refine vo_done ⟨rfl, ?_⟩
                        refine vl_nil (by kernel_rfl) ?_
                        refine hK16 _ ?_
                        refine vc_seq fun K23 hK23 => ?_
                        refine vc_region ?_
                        refine vo_move_ref rfl rfl ?_
                        refine vo_assign_ref rfl rfl ?_
                        refine vo_nil ?_
                        refine hK23 _ ?_
                        refine vc_ret ?_
                        change retG _ _ _ _ _
                        refine retG_one 1 hC rfl rfl rfl rfl rfl ?_
                        first | exact ⟨_, _, ⟨by omega, fun l hl => by have := hL l hl; omega, by omega⟩, rfl, rfl⟩ | exact ⟨L.set 0 (L.getD 0 [] ++ e), _, ⟨by rw [List.length_set]; omega, sl_app hL he, by omega⟩, rfl, rfl⟩
        · refine sv_ext 5 rfl rfl (xt_buildSlice E25 rfl rfl rfl rfl) ?_
          refine vl_any3 3 6 7 (by kernel_rfl) ?_ ?_ ?_
          · refine sv_light 3 rfl rfl (lt_load_known rfl rfl Try.underlying25 rfl sd) ?_
            refine vl_any2 6 7 (by kernel_rfl) ?_ ?_
            · refine sv_ext 6 rfl rfl (xt_buildSlice E25 rfl rfl rfl rfl) ?_
              refine vl_any1 7 (by kernel_rfl) ?_
              · refine sv_ext 7 rfl rfl (xt_buildSlice E25 rfl rfl rfl rfl) ?_
                refine vl_expose 3 (by omega) rfl ?_
                refine vl_weaken 51 rfl ?_
                refine vl_stN ?_
                refine vl_expose 4 (by omega) rfl ?_
                refine vl_weaken 52 rfl ?_
                refine vl_stN ?_
                refine vl_expose 5 (by omega) rfl ?_
                refine vl_weaken 53 rfl ?_
                refine vl_stN ?_
                refine vl_any1 8 (by kernel_rfl) ?_
                · refine sv_ext 8 rfl rfl (xt_buildSlice E23 rfl rfl rfl rfl) ?_
                  refine vl_any1 9 (by kernel_rfl) ?_
                  · refine sv_one 9 rfl (by kernel_rfl) ?_
                    refine vo_expose 6 (by omega) rfl ?_
                    refine vo_weaken 54 rfl ?_
                    refine vo_stN ?_
                    refine vo_call [0] Try.func36 rfl rfl rfl rfl rfl rfl rfl (one2_sat (list := [[1,1],[-5],[0,1,2,3,4,5,6,7,8,9,10,11,12]]) hc (by omega) (by simp) (by simp)) ?_
                    rintro _ _ ⟨e, he, rfl, rfl⟩
                    refine ⟨Nat.le_of_ble_eq_true rfl, ⟨rfl, rfl, rfl⟩, .inl rfl, ?_⟩
                    refine vo_stN ?_
                    have he2 := sl_he he
                    refine vo_done ⟨rfl, ?_⟩
                    refine vl_any1 10 (by kernel_rfl) ?_
                    · refine sv_one 10 rfl (by kernel_rfl) ?_
                      refine vo_take 1 49 (by omega) rfl rfl (get_intss (k := 0) (by omega)) (plain_ints _) fun Rt => ?_
                      refine vo_stN ?_
                      refine vo_appendU E25 rfl (by omega) rfl rfl rfl sd sd fun Rt2 => ?_
                      refine vo_stN ?_
                      try simp only [app_ints, app_intss, app_bools]
                      refine vo_st (by simp only [← List.map_append]; exact eq_refl _) ?_
                      refine vo_done ⟨rfl, ?_⟩
                      refine vl_light0 11 rfl rfl rfl (by kernel_rfl) (by kernel_rfl) (by kernel_rfl) (wnt_none rfl) (l0_index_ref rfl rfl rfl E23.und inf25 sz25 sd sd) ?_
                      try simp only [Int.toNat_natCast]
                      refine vl_any1 12 (by kernel_rfl) ?_
                      · refine sv_one 12 rfl (by kernel_rfl) ?_
                        refine vo_store_tree rfl rfl (.inr ⟨_, rfl⟩) rfl rfl rfl (fits_of rfl) (fun _ _ _ _ _ h => (own_tp h (plain_ints _)).1.weak) rfl (by omega) (by omega) inf25 sz25 sd ?_
                        refine vo_stN ?_
                        try simp only [set_intss, Int.toNat_natCast]
                        refine vo_done ⟨rfl, ?_⟩
                        refine vl_nil (by kernel_rfl) ?_
                        refine hK16 _ ?_
                        refine vc_seq fun K24 hK24 => ?_
                        refine vc_region ?_
                        refine vo_move_ref rfl rfl ?_
                        refine vo_assign_ref rfl rfl ?_
                        refine vo_nil ?_
                        refine hK24 _ ?_
                        refine vc_ret ?_
                        change retG _ _ _ _ _
                        refine retG_one 1 hC rfl rfl rfl rfl rfl ?_
                        first | exact ⟨_, _, ⟨by omega, fun l hl => by have := hL l hl; omega, by omega⟩, rfl, rfl⟩ | exact ⟨L.set 0 (L.getD 0 [] ++ e), _, ⟨by rw [List.length_set]; omega, sl_app hL he, by omega⟩, rfl, rfl⟩
            · refine sv_ext 7 rfl rfl (xt_buildSlice E25 rfl rfl rfl rfl) ?_
              refine vl_any1 6 (by kernel_rfl) ?_
              · refine sv_ext 6 rfl rfl (xt_buildSlice E25 rfl rfl rfl rfl) ?_
                refine vl_expose 3 (by omega) rfl ?_
                refine vl_weaken 51 rfl ?_
                refine vl_stN ?_
                refine vl_expose 5 (by omega) rfl ?_
                refine vl_weaken 52 rfl ?_
                refine vl_stN ?_
                refine vl_expose 4 (by omega) rfl ?_
                refine vl_weaken 53 rfl ?_
                refine vl_stN ?_
                refine vl_any1 8 (by kernel_rfl) ?_
                · refine sv_ext 8 rfl rfl (xt_buildSlice E23 rfl rfl rfl rfl) ?_
                  refine vl_any1 9 (by kernel_rfl) ?_
                  · refine sv_one 9 rfl (by kernel_rfl) ?_
                    refine vo_expose 6 (by omega) rfl ?_
                    refine vo_weaken 54 rfl ?_
                    refine vo_stN ?_
                    refine vo_call [0] Try.func36 rfl rfl rfl rfl rfl rfl rfl (one2_sat (list := [[1,1],[-5],[0,1,2,3,4,5,6,7,8,9,10,11,12]]) hc (by omega) (by simp) (by simp)) ?_
                    rintro _ _ ⟨e, he, rfl, rfl⟩
                    refine ⟨Nat.le_of_ble_eq_true rfl, ⟨rfl, rfl, rfl⟩, .inl rfl, ?_⟩
                    refine vo_stN ?_
                    have he2 := sl_he he
                    refine vo_done ⟨rfl, ?_⟩
                    refine vl_any1 10 (by kernel_rfl) ?_
                    · refine sv_one 10 rfl (by kernel_rfl) ?_
                      refine vo_take 1 49 (by omega) rfl rfl (get_intss (k := 0) (by omega)) (plain_ints _) fun Rt => ?_
                      refine vo_stN ?_
                      refine vo_appendU E25 rfl (by omega) rfl rfl rfl sd sd fun Rt2 => ?_
                      refine vo_stN ?_
                      try simp only [app_ints, app_intss, app_bools]
                      refine vo_st (by simp only [← List.map_append]; exact eq_refl _) ?_
                      refine vo_done ⟨rfl, ?_⟩
                      refine vl_light0 11 rfl rfl rfl (by kernel_rfl) (by kernel_rfl) (by kernel_rfl) (wnt_none rfl) (l0_index_ref rfl rfl rfl E23.und inf25 sz25 sd sd) ?_
                      try simp only [Int.toNat_natCast]
                      refine vl_any1 12 (by kernel_rfl) ?_
                      · refine sv_one 12 rfl (by kernel_rfl) ?_
                        refine vo_store_tree rfl rfl (.inr ⟨_, rfl⟩) rfl rfl rfl (fits_of rfl) (fun _ _ _ _ _ h => (own_tp h (plain_ints _)).1.weak) rfl (by omega) (by omega) inf25 sz25 sd ?_
                        refine vo_stN ?_
                        try simp only [set_intss, Int.toNat_natCast]
                        refine vo_done ⟨rfl, ?_⟩
                        refine vl_nil (by kernel_rfl) ?_
                        refine hK16 _ ?_
                        refine vc_seq fun K25 hK25 => ?_
                        refine vc_region ?_
                        refine vo_move_ref rfl rfl ?_
                        refine vo_assign_ref rfl rfl ?_
                        refine vo_nil ?_
                        refine hK25 _ ?_
                        refine vc_ret ?_
                        change retG _ _ _ _ _
                        refine retG_one 1 hC rfl rfl rfl rfl rfl ?_
                        first | exact ⟨_, _, ⟨by omega, fun l hl => by have := hL l hl; omega, by omega⟩, rfl, rfl⟩ | exact ⟨L.set 0 (L.getD 0 [] ++ e), _, ⟨by rw [List.length_set]; omega, sl_app hL he, by omega⟩, rfl, rfl⟩
          · refine sv_ext 6 rfl rfl (xt_buildSlice E25 rfl rfl rfl rfl) ?_
            refine vl_any2 3 7 (by kernel_rfl) ?_ ?_
            · refine sv_light 3 rfl rfl (lt_load_known rfl rfl Try.underlying25 rfl sd) ?_
              refine vl_any1 7 (by kernel_rfl) ?_
              · refine sv_ext 7 rfl rfl (xt_buildSlice E25 rfl rfl rfl rfl) ?_
                refine vl_expose 3 (by omega) rfl ?_
                refine vl_weaken 51 rfl ?_
                refine vl_stN ?_
                refine vl_expose 4 (by omega) rfl ?_
                refine vl_weaken 52 rfl ?_
                refine vl_stN ?_
                refine vl_expose 5 (by omega) rfl ?_
                refine vl_weaken 53 rfl ?_
                refine vl_stN ?_
                refine vl_any1 8 (by kernel_rfl) ?_
                · refine sv_ext 8 rfl rfl (xt_buildSlice E23 rfl rfl rfl rfl) ?_
                  refine vl_any1 9 (by kernel_rfl) ?_
                  · refine sv_one 9 rfl (by kernel_rfl) ?_
                    refine vo_expose 6 (by omega) rfl ?_
                    refine vo_weaken 54 rfl ?_
                    refine vo_stN ?_
                    refine vo_call [0] Try.func36 rfl rfl rfl rfl rfl rfl rfl (one2_sat (list := [[1,1],[-5],[0,1,2,3,4,5,6,7,8,9,10,11,12]]) hc (by omega) (by simp) (by simp)) ?_
                    rintro _ _ ⟨e, he, rfl, rfl⟩
                    refine ⟨Nat.le_of_ble_eq_true rfl, ⟨rfl, rfl, rfl⟩, .inl rfl, ?_⟩
                    refine vo_stN ?_
                    have he2 := sl_he he
                    refine vo_done ⟨rfl, ?_⟩
                    refine vl_any1 10 (by kernel_rfl) ?_
                    · refine sv_one 10 rfl (by kernel_rfl) ?_
                      refine vo_take 1 49 (by omega) rfl rfl (get_intss (k := 0) (by omega)) (plain_ints _) fun Rt => ?_
                      refine vo_stN ?_
                      refine vo_appendU E25 rfl (by omega) rfl rfl rfl sd sd fun Rt2 => ?_
                      refine vo_stN ?_
                      try simp only [app_ints, app_intss, app_bools]
                      refine vo_st (by simp only [← List.map_append]; exact eq_refl _) ?_
                      refine vo_done ⟨rfl, ?_⟩
                      refine vl_light0 11 rfl rfl rfl (by kernel_rfl) (by kernel_rfl) (by kernel_rfl) (wnt_none rfl) (l0_index_ref rfl rfl rfl E23.und inf25 sz25 sd sd) ?_
                      try simp only [Int.toNat_natCast]
                      refine vl_any1 12 (by kernel_rfl) ?_
                      · refine sv_one 12 rfl (by kernel_rfl) ?_
                        refine vo_store_tree rfl rfl (.inr ⟨_, rfl⟩) rfl rfl rfl (fits_of rfl) (fun _ _ _ _ _ h => (own_tp h (plain_ints _)).1.weak) rfl (by omega) (by omega) inf25 sz25 sd ?_
                        refine vo_stN ?_
                        try simp only [set_intss, Int.toNat_natCast]
                        refine vo_done ⟨rfl, ?_⟩
                        refine vl_nil (by kernel_rfl) ?_
                        refine hK16 _ ?_
                        refine vc_seq fun K26 hK26 => ?_
                        refine vc_region ?_
                        refine vo_move_ref rfl rfl ?_
                        refine vo_assign_ref rfl rfl ?_
                        refine vo_nil ?_
                        refine hK26 _ ?_
                        refine vc_ret ?_
                        change retG _ _ _ _ _
                        refine retG_one 1 hC rfl rfl rfl rfl rfl ?_
                        first | exact ⟨_, _, ⟨by omega, fun l hl => by have := hL l hl; omega, by omega⟩, rfl, rfl⟩ | exact ⟨L.set 0 (L.getD 0 [] ++ e), _, ⟨by rw [List.length_set]; omega, sl_app hL he, by omega⟩, rfl, rfl⟩
            · refine sv_ext 7 rfl rfl (xt_buildSlice E25 rfl rfl rfl rfl) ?_
              refine vl_expose 3 (by omega) rfl ?_
              refine vl_weaken 51 rfl ?_
              refine vl_stN ?_
              refine vl_expose 4 (by omega) rfl ?_
              refine vl_weaken 52 rfl ?_
              refine vl_stN ?_
              refine vl_expose 5 (by omega) rfl ?_
              refine vl_weaken 53 rfl ?_
              refine vl_stN ?_
              refine vl_any2 3 8 (by kernel_rfl) ?_ ?_
              · refine sv_light 3 rfl rfl (lt_load_known rfl rfl Try.underlying25 rfl sd) ?_
                refine vl_any1 8 (by kernel_rfl) ?_
                · refine sv_ext 8 rfl rfl (xt_buildSlice E23 rfl rfl rfl rfl) ?_
                  refine vl_any1 9 (by kernel_rfl) ?_
                  · refine sv_one 9 rfl (by kernel_rfl) ?_
                    refine vo_expose 6 (by omega) rfl ?_
                    refine vo_weaken 54 rfl ?_
                    refine vo_stN ?_
                    refine vo_call [0] Try.func36 rfl rfl rfl rfl rfl rfl rfl (one2_sat (list := [[1,1],[-5],[0,1,2,3,4,5,6,7,8,9,10,11,12]]) hc (by omega) (by simp) (by simp)) ?_
                    rintro _ _ ⟨e, he, rfl, rfl⟩
                    refine ⟨Nat.le_of_ble_eq_true rfl, ⟨rfl, rfl, rfl⟩, .inl rfl, ?_⟩
                    refine vo_stN ?_
                    have he2 := sl_he he
                    refine vo_done ⟨rfl, ?_⟩
                    refine vl_any1 10 (by kernel_rfl) ?_
                    · refine sv_one 10 rfl (by kernel_rfl) ?_
                      refine vo_take 1 49 (by omega) rfl rfl (get_intss (k := 0) (by omega)) (plain_ints _) fun Rt => ?_
                      refine vo_stN ?_
                      refine vo_appendU E25 rfl (by omega) rfl rfl rfl sd sd fun Rt2 => ?_
                      refine vo_stN ?_
                      try simp only [app_ints, app_intss, app_bools]
                      refine vo_st (by simp only [← List.map_append]; exact eq_refl _) ?_
                      refine vo_done ⟨rfl, ?_⟩
                      refine vl_light0 11 rfl rfl rfl (by kernel_rfl) (by kernel_rfl) (by kernel_rfl) (wnt_none rfl) (l0_index_ref rfl rfl rfl E23.und inf25 sz25 sd sd) ?_
                      try simp only [Int.toNat_natCast]
                      refine vl_any1 12 (by kernel_rfl) ?_
                      · refine sv_one 12 rfl (by kernel_rfl) ?_
                        refine vo_store_tree rfl rfl (.inr ⟨_, rfl⟩) rfl rfl rfl (fits_of rfl) (fun _ _ _ _ _ h => (own_tp h (plain_ints _)).1.weak) rfl (by omega) (by omega) inf25 sz25 sd ?_
                        refine vo_stN ?_
                        try simp only [set_intss, Int.toNat_natCast]
                        refine vo_done ⟨rfl, ?_⟩
                        refine vl_nil (by kernel_rfl) ?_
                        refine hK16 _ ?_
                        refine vc_seq fun K27 hK27 => ?_
                        refine vc_region ?_
                        refine vo_move_ref rfl rfl ?_
                        refine vo_assign_ref rfl rfl ?_
                        refine vo_nil ?_
                        refine hK27 _ ?_
                        refine vc_ret ?_
                        change retG _ _ _ _ _
                        refine retG_one 1 hC rfl rfl rfl rfl rfl ?_
                        first | exact ⟨_, _, ⟨by omega, fun l hl => by have := hL l hl; omega, by omega⟩, rfl, rfl⟩ | exact ⟨L.set 0 (L.getD 0 [] ++ e), _, ⟨by rw [List.length_set]; omega, sl_app hL he, by omega⟩, rfl, rfl⟩
              · refine sv_ext 8 rfl rfl (xt_buildSlice E23 rfl rfl rfl rfl) ?_
                refine vl_any2 3 9 (by kernel_rfl) ?_ ?_
                · refine sv_light 3 rfl rfl (lt_load_known rfl rfl Try.underlying25 rfl sd) ?_
                  refine vl_any1 9 (by kernel_rfl) ?_
                  · refine sv_one 9 rfl (by kernel_rfl) ?_
                    refine vo_expose 6 (by omega) rfl ?_
                    refine vo_weaken 54 rfl ?_
                    refine vo_stN ?_
                    refine vo_call [0] Try.func36 rfl rfl rfl rfl rfl rfl rfl (one2_sat (list := [[1,1],[-5],[0,1,2,3,4,5,6,7,8,9,10,11,12]]) hc (by omega) (by simp) (by simp)) ?_
                    rintro _ _ ⟨e, he, rfl, rfl⟩
                    refine ⟨Nat.le_of_ble_eq_true rfl, ⟨rfl, rfl, rfl⟩, .inl rfl, ?_⟩
                    refine vo_stN ?_
                    have he2 := sl_he he
                    refine vo_done ⟨rfl, ?_⟩
                    refine vl_any1 10 (by kernel_rfl) ?_
                    · refine sv_one 10 rfl (by kernel_rfl) ?_
                      refine vo_take 1 49 (by omega) rfl rfl (get_intss (k := 0) (by omega)) (plain_ints _) fun Rt => ?_
                      refine vo_stN ?_
                      refine vo_appendU E25 rfl (by omega) rfl rfl rfl sd sd fun Rt2 => ?_
                      refine vo_stN ?_
                      try simp only [app_ints, app_intss, app_bools]
                      refine vo_st (by simp only [← List.map_append]; exact eq_refl _) ?_
                      refine vo_done ⟨rfl, ?_⟩
                      refine vl_light0 11 rfl rfl rfl (by kernel_rfl) (by kernel_rfl) (by kernel_rfl) (wnt_none rfl) (l0_index_ref rfl rfl rfl E23.und inf25 sz25 sd sd) ?_
                      try simp only [Int.toNat_natCast]
                      refine vl_any1 12 (by kernel_rfl) ?_
                      · refine sv_one 12 rfl (by kernel_rfl) ?_
                        refine vo_store_tree rfl rfl (.inr ⟨_, rfl⟩) rfl rfl rfl (fits_of rfl) (fun _ _ _ _ _ h => (own_tp h (plain_ints _)).1.weak) rfl (by omega) (by omega) inf25 sz25 sd ?_
                        refine vo_stN ?_
                        try simp only [set_intss, Int.toNat_natCast]
                        refine vo_done ⟨rfl, ?_⟩
                        refine vl_nil (by kernel_rfl) ?_
                        refine hK16 _ ?_
                        refine vc_seq fun K28 hK28 => ?_
                        refine vc_region ?_
                        refine vo_move_ref rfl rfl ?_
                        refine vo_assign_ref rfl rfl ?_
                        refine vo_nil ?_
                        refine hK28 _ ?_
                        refine vc_ret ?_
                        change retG _ _ _ _ _
                        refine retG_one 1 hC rfl rfl rfl rfl rfl ?_
                        first | exact ⟨_, _, ⟨by omega, fun l hl => by have := hL l hl; omega, by omega⟩, rfl, rfl⟩ | exact ⟨L.set 0 (L.getD 0 [] ++ e), _, ⟨by rw [List.length_set]; omega, sl_app hL he, by omega⟩, rfl, rfl⟩
                · refine sv_one 9 rfl (by kernel_rfl) ?_
                  refine vo_expose 6 (by omega) rfl ?_
                  refine vo_weaken 54 rfl ?_
                  refine vo_stN ?_
                  refine vo_call [0] Try.func36 rfl rfl rfl rfl rfl rfl rfl (one2_sat (list := [[1,1],[-5],[0,1,2,3,4,5,6,7,8,9,10,11,12]]) hc (by omega) (by simp) (by simp)) ?_
                  rintro _ _ ⟨e, he, rfl, rfl⟩
                  refine ⟨Nat.le_of_ble_eq_true rfl, ⟨rfl, rfl, rfl⟩, .inl rfl, ?_⟩
                  refine vo_stN ?_
                  have he2 := sl_he he
                  refine vo_done ⟨rfl, ?_⟩
                  refine vl_any1 3 (by kernel_rfl) ?_
                  · refine sv_light 3 rfl rfl (lt_load_known rfl rfl Try.underlying25 rfl sd) ?_
                    refine vl_any1 10 (by kernel_rfl) ?_
                    · refine sv_one 10 rfl (by kernel_rfl) ?_
                      refine vo_take 1 49 (by omega) rfl rfl (get_intss (k := 0) (by omega)) (plain_ints _) fun Rt => ?_
                      refine vo_stN ?_
                      refine vo_appendU E25 rfl (by omega) rfl rfl rfl sd sd fun Rt2 => ?_
                      refine vo_stN ?_
                      try simp only [app_ints, app_intss, app_bools]
                      refine vo_st (by simp only [← List.map_append]; exact eq_refl _) ?_
                      refine vo_done ⟨rfl, ?_⟩
                      refine vl_light0 11 rfl rfl rfl (by kernel_rfl) (by kernel_rfl) (by kernel_rfl) (wnt_none rfl) (l0_index_ref rfl rfl rfl E23.und inf25 sz25 sd sd) ?_
                      try simp only [Int.toNat_natCast]
                      refine vl_any1 12 (by kernel_rfl) ?_
                      · refine sv_one 12 rfl (by kernel_rfl) ?_
                        refine vo_store_tree rfl rfl (.inr ⟨_, rfl⟩) rfl rfl rfl (fits_of rfl) (fun _ _ _ _ _ h => (own_tp h (plain_ints _)).1.weak) rfl (by omega) (by omega) inf25 sz25 sd ?_
                        refine vo_stN ?_
                        try simp only [set_intss, Int.toNat_natCast]
                        refine vo_done ⟨rfl, ?_⟩
                        refine vl_nil (by kernel_rfl) ?_
                        refine hK16 _ ?_
                        refine vc_seq fun K29 hK29 => ?_
                        refine vc_region ?_
                        refine vo_move_ref rfl rfl ?_
                        refine vo_assign_ref rfl rfl ?_
                        refine vo_nil ?_
                        refine hK29 _ ?_
                        refine vc_ret ?_
                        change retG _ _ _ _ _
                        refine retG_one 1 hC rfl rfl rfl rfl rfl ?_
                        first | exact ⟨_, _, ⟨by omega, fun l hl => by have := hL l hl; omega, by omega⟩, rfl, rfl⟩ | exact ⟨L.set 0 (L.getD 0 [] ++ e), _, ⟨by rw [List.length_set]; omega, sl_app hL he, by omega⟩, rfl, rfl⟩
          · refine sv_ext 7 rfl rfl (xt_buildSlice E25 rfl rfl rfl rfl) ?_
            refine vl_any2 3 6 (by kernel_rfl) ?_ ?_
            · refine sv_light 3 rfl rfl (lt_load_known rfl rfl Try.underlying25 rfl sd) ?_
              refine vl_any1 6 (by kernel_rfl) ?_
              · refine sv_ext 6 rfl rfl (xt_buildSlice E25 rfl rfl rfl rfl) ?_
                refine vl_expose 3 (by omega) rfl ?_
                refine vl_weaken 51 rfl ?_
                refine vl_stN ?_
                refine vl_expose 5 (by omega) rfl ?_
                refine vl_weaken 52 rfl ?_
                refine vl_stN ?_
                refine vl_expose 4 (by omega) rfl ?_
                refine vl_weaken 53 rfl ?_
                refine vl_stN ?_
                refine vl_any1 8 (by kernel_rfl) ?_
                · refine sv_ext 8 rfl rfl (xt_buildSlice E23 rfl rfl rfl rfl) ?_
                  refine vl_any1 9 (by kernel_rfl) ?_
                  · refine sv_one 9 rfl (by kernel_rfl) ?_
                    refine vo_expose 6 (by omega) rfl ?_
                    refine vo_weaken 54 rfl ?_
                    refine vo_stN ?_
                    refine vo_call [0] Try.func36 rfl rfl rfl rfl rfl rfl rfl (one2_sat (list := [[1,1],[-5],[0,1,2,3,4,5,6,7,8,9,10,11,12]]) hc (by omega) (by simp) (by simp)) ?_
                    rintro _ _ ⟨e, he, rfl, rfl⟩
                    refine ⟨Nat.le_of_ble_eq_true rfl, ⟨rfl, rfl, rfl⟩, .inl rfl, ?_⟩
                    refine vo_stN ?_
                    have he2 := sl_he he
                    refine vo_done ⟨rfl, ?_⟩
                    refine vl_any1 10 (by kernel_rfl) ?_
                    · refine sv_one 10 rfl (by kernel_rfl) ?_
                      refine vo_take 1 49 (by omega) rfl rfl (get_intss (k := 0) (by omega)) (plain_ints _) fun Rt => ?_
                      refine vo_stN ?_
                      refine vo_appendU E25 rfl (by omega) rfl rfl rfl sd sd fun Rt2 => ?_
                      refine vo_stN ?_
                      try simp only [app_ints, app_intss, app_bools]
                      refine vo_st (by simp only [← List.map_append]; exact eq_refl _) ?_
                      refine vo_done ⟨rfl, ?_⟩
                      refine vl_light0 11 rfl rfl rfl (by kernel_rfl) (by kernel_rfl) (by kernel_rfl) (wnt_none rfl) (l0_index_ref rfl rfl rfl E23.und inf25 sz25 sd sd) ?_
                      try simp only [Int.toNat_natCast]
                      refine vl_any1 12 (by kernel_rfl) ?_
                      · refine sv_one 12 rfl (by kernel_rfl) ?_
                        refine vo_store_tree rfl rfl (.inr ⟨_, rfl⟩) rfl rfl rfl (fits_of rfl) (fun _ _ _ _ _ h => (own_tp h (plain_ints _)).1.weak) rfl (by omega) (by omega) inf25 sz25 sd ?_
                        refine vo_stN ?_
                        try simp only [set_intss, Int.toNat_natCast]
                        refine vo_done ⟨rfl, ?_⟩
                        refine vl_nil (by kernel_rfl) ?_
                        refine hK16 _ ?_
                        refine vc_seq fun K30 hK30 => ?_
                        refine vc_region ?_
                        refine vo_move_ref rfl rfl ?_
                        refine vo_assign_ref rfl rfl ?_
                        refine vo_nil ?_
                        refine hK30 _ ?_
                        refine vc_ret ?_
                        change retG _ _ _ _ _
                        refine retG_one 1 hC rfl rfl rfl rfl rfl ?_
                        first | exact ⟨_, _, ⟨by omega, fun l hl => by have := hL l hl; omega, by omega⟩, rfl, rfl⟩ | exact ⟨L.set 0 (L.getD 0 [] ++ e), _, ⟨by rw [List.length_set]; omega, sl_app hL he, by omega⟩, rfl, rfl⟩
            · refine sv_ext 6 rfl rfl (xt_buildSlice E25 rfl rfl rfl rfl) ?_
              refine vl_expose 3 (by omega) rfl ?_
              refine vl_weaken 51 rfl ?_
              refine vl_stN ?_
              refine vl_expose 5 (by omega) rfl ?_
              refine vl_weaken 52 rfl ?_
              refine vl_stN ?_
              refine vl_expose 4 (by omega) rfl ?_
              refine vl_weaken 53 rfl ?_
              refine vl_stN ?_
              refine vl_any2 3 8 (by kernel_rfl) ?_ ?_
              · refine sv_light 3 rfl rfl (lt_load_known rfl rfl Try.underlying25 rfl sd) ?_
                refine vl_any1 8 (by kernel_rfl) ?_
                · refine sv_ext 8 rfl rfl (xt_buildSlice E23 rfl rfl rfl rfl) ?_
                  refine vl_any1 9 (by kernel_rfl) ?_
                  · refine sv_one 9 rfl (by kernel_rfl) ?_
                    refine vo_expose 6 (by omega) rfl ?_
                    refine vo_weaken 54 rfl ?_
                    refine vo_stN ?_
                    refine vo_call [0] Try.func36 rfl rfl rfl rfl rfl rfl rfl (one2_sat (list := [[1,1],[-5],[0,1,2,3,4,5,6,7,8,9,10,11,12]]) hc (by omega) (by simp) (by simp)) ?_
                    rintro _ _ ⟨e, he, rfl, rfl⟩
                    refine ⟨Nat.le_of_ble_eq_true rfl, ⟨rfl, rfl, rfl⟩, .inl rfl, ?_⟩
                    refine vo_stN ?_
                    have he2 := sl_he he
                    refine vo_done ⟨rfl, ?_⟩
                    refine vl_any1 10 (by kernel_rfl) ?_
                    · refine sv_one 10 rfl (by kernel_rfl) ?_
                      refine vo_take 1 49 (by omega) rfl rfl (get_intss (k := 0) (by omega)) (plain_ints _) fun Rt => ?_
                      refine vo_stN ?_
                      refine vo_appendU E25 rfl (by omega) rfl rfl rfl sd sd fun Rt2 => ?_
                      refine vo_stN ?_
                      try simp only [app_ints, app_intss, app_bools]
                      refine vo_st (by simp only [← List.map_append]; exact eq_refl _) ?_
                      refine vo_done ⟨rfl, ?_⟩
                      refine vl_light0 11 rfl rfl rfl (by kernel_rfl) (by kernel_rfl) (by kernel_rfl) (wnt_none rfl) (l0_index_ref rfl rfl rfl E23.und inf25 sz25 sd sd) ?_
                      try simp only [Int.toNat_natCast]
                      refine vl_any1 12 (by kernel_rfl) ?_
                      · refine sv_one 12 rfl (by kernel_rfl) ?_
                        refine vo_store_tree rfl rfl (.inr ⟨_, rfl⟩) rfl rfl rfl (fits_of rfl) (fun _ _ _ _ _ h => (own_tp h (plain_ints _)).1.weak) rfl (by omega) (by omega) inf25 sz25 sd ?_
                        refine vo_stN ?_
                        try simp only [set_intss, Int.toNat_natCast]
                        refine vo_done ⟨rfl, ?_⟩
                        refine vl_nil (by kernel_rfl) ?_
                        refine hK16 _ ?_
                        refine vc_seq fun K31 hK31 => ?_
                        refine vc_region ?_
                        refine vo_move_ref rfl rfl ?_
                        refine vo_assign_ref rfl rfl ?_
                        refine vo_nil ?_
                        refine hK31 _ ?_
                        refine vc_ret ?_
                        change retG _ _ _ _ _
                        refine retG_one 1 hC rfl rfl rfl rfl rfl ?_
                        first | exact ⟨_, _, ⟨by omega, fun l hl => by have := hL l hl; omega, by omega⟩, rfl, rfl⟩ | exact ⟨L.set 0 (L.getD 0 [] ++ e), _, ⟨by rw [List.length_set]; omega, sl_app hL he, by omega⟩, rfl, rfl⟩
              · refine sv_ext 8 rfl rfl (xt_buildSlice E23 rfl rfl rfl rfl) ?_
                refine vl_any2 3 9 (by kernel_rfl) ?_ ?_
                · refine sv_light 3 rfl rfl (lt_load_known rfl rfl Try.underlying25 rfl sd) ?_
                  refine vl_any1 9 (by kernel_rfl) ?_
                  · refine sv_one 9 rfl (by kernel_rfl) ?_
                    refine vo_expose 6 (by omega) rfl ?_
                    refine vo_weaken 54 rfl ?_
                    refine vo_stN ?_
                    refine vo_call [0] Try.func36 rfl rfl rfl rfl rfl rfl rfl (one2_sat (list := [[1,1],[-5],[0,1,2,3,4,5,6,7,8,9,10,11,12]]) hc (by omega) (by simp) (by simp)) ?_
                    rintro _ _ ⟨e, he, rfl, rfl⟩
                    refine ⟨Nat.le_of_ble_eq_true rfl, ⟨rfl, rfl, rfl⟩, .inl rfl, ?_⟩
                    refine vo_stN ?_
                    have he2 := sl_he he
                    refine vo_done ⟨rfl, ?_⟩
                    refine vl_any1 10 (by kernel_rfl) ?_
                    · refine sv_one 10 rfl (by kernel_rfl) ?_
                      refine vo_take 1 49 (by omega) rfl rfl (get_intss (k := 0) (by omega)) (plain_ints _) fun Rt => ?_
                      refine vo_stN ?_
                      refine vo_appendU E25 rfl (by omega) rfl rfl rfl sd sd fun Rt2 => ?_
                      refine vo_stN ?_
                      try simp only [app_ints, app_intss, app_bools]
                      refine vo_st (by simp only [← List.map_append]; exact eq_refl _) ?_
                      refine vo_done ⟨rfl, ?_⟩
                      refine vl_light0 11 rfl rfl rfl (by kernel_rfl) (by kernel_rfl) (by kernel_rfl) (wnt_none rfl) (l0_index_ref rfl rfl rfl E23.und inf25 sz25 sd sd) ?_
                      try simp only [Int.toNat_natCast]
                      refine vl_any1 12 (by kernel_rfl) ?_
                      · refine sv_one 12 rfl (by kernel_rfl) ?_
                        refine vo_store_tree rfl rfl (.inr ⟨_, rfl⟩) rfl rfl rfl (fits_of rfl) (fun _ _ _ _ _ h => (own_tp h (plain_ints _)).1.weak) rfl (by omega) (by omega) inf25 sz25 sd ?_
                        refine vo_stN ?_
                        try simp only [set_intss, Int.toNat_natCast]
                        refine vo_done ⟨rfl, ?_⟩
                        refine vl_nil (by kernel_rfl) ?_
                        refine hK16 _ ?_
                        refine vc_seq fun K32 hK32 => ?_
                        refine vc_region ?_
                        refine vo_move_ref rfl rfl ?_
                        refine vo_assign_ref rfl rfl ?_
                        refine vo_nil ?_
                        refine hK32 _ ?_
                        refine vc_ret ?_
                        change retG _ _ _ _ _
                        refine retG_one 1 hC rfl rfl rfl rfl rfl ?_
                        first | exact ⟨_, _, ⟨by omega, fun l hl => by have := hL l hl; omega, by omega⟩, rfl, rfl⟩ | exact ⟨L.set 0 (L.getD 0 [] ++ e), _, ⟨by rw [List.length_set]; omega, sl_app hL he, by omega⟩, rfl, rfl⟩
                · refine sv_one 9 rfl (by kernel_rfl) ?_
                  refine vo_expose 6 (by omega) rfl ?_
                  refine vo_weaken 54 rfl ?_
                  refine vo_stN ?_
                  refine vo_call [0] Try.func36 rfl rfl rfl rfl rfl rfl rfl (one2_sat (list := [[1,1],[-5],[0,1,2,3,4,5,6,7,8,9,10,11,12]]) hc (by omega) (by simp) (by simp)) ?_
                  rintro _ _ ⟨e, he, rfl, rfl⟩
                  refine ⟨Nat.le_of_ble_eq_true rfl, ⟨rfl, rfl, rfl⟩, .inl rfl, ?_⟩
                  refine vo_stN ?_
                  have he2 := sl_he he
                  refine vo_done ⟨rfl, ?_⟩
                  refine vl_any1 3 (by kernel_rfl) ?_
                  · refine sv_light 3 rfl rfl (lt_load_known rfl rfl Try.underlying25 rfl sd) ?_
                    refine vl_any1 10 (by kernel_rfl) ?_
                    · refine sv_one 10 rfl (by kernel_rfl) ?_
                      refine vo_take 1 49 (by omega) rfl rfl (get_intss (k := 0) (by omega)) (plain_ints _) fun Rt => ?_
                      refine vo_stN ?_
                      refine vo_appendU E25 rfl (by omega) rfl rfl rfl sd sd fun Rt2 => ?_
                      refine vo_stN ?_
                      try simp only [app_ints, app_intss, app_bools]
                      refine vo_st (by simp only [← List.map_append]; exact eq_refl _) ?_
                      refine vo_done ⟨rfl, ?_⟩
                      refine vl_light0 11 rfl rfl rfl (by kernel_rfl) (by kernel_rfl) (by kernel_rfl) (wnt_none rfl) (l0_index_ref rfl rfl rfl E23.und inf25 sz25 sd sd) ?_
                      try simp only [Int.toNat_natCast]
                      refine vl_any1 12 (by kernel_rfl) ?_
                      · refine sv_one 12 rfl (by kernel_rfl) ?_
                        refine vo_store_tree rfl rfl (.inr ⟨_, rfl⟩) rfl rfl rfl (fits_of rfl) (fun _ _ _ _ _ h => (own_tp h (plain_ints _)).1.weak) rfl (by omega) (by omega) inf25 sz25 sd ?_
                        refine vo_stN ?_
                        try simp only [set_intss, Int.toNat_natCast]
                        refine vo_done ⟨rfl, ?_⟩
                        refine vl_nil (by kernel_rfl) ?_
                        refine hK16 _ ?_
                        refine vc_seq fun K33 hK33 => ?_
                        refine vc_region ?_
                        refine vo_move_ref rfl rfl ?_
                        refine vo_assign_ref rfl rfl ?_
                        refine vo_nil ?_
                        refine hK33 _ ?_
                        refine vc_ret ?_
                        change retG _ _ _ _ _
                        refine retG_one 1 hC rfl rfl rfl rfl rfl ?_
                        first | exact ⟨_, _, ⟨by omega, fun l hl => by have := hL l hl; omega, by omega⟩, rfl, rfl⟩ | exact ⟨L.set 0 (L.getD 0 [] ++ e), _, ⟨by rw [List.length_set]; omega, sl_app hL he, by omega⟩, rfl, rfl⟩
        · refine sv_ext 6 rfl rfl (xt_buildSlice E25 rfl rfl rfl rfl) ?_
          refine vl_any3 3 5 7 (by kernel_rfl) ?_ ?_ ?_
          · refine sv_light 3 rfl rfl (lt_load_known rfl rfl Try.underlying25 rfl sd) ?_
            refine vl_any2 5 7 (by kernel_rfl) ?_ ?_
            · refine sv_ext 5 rfl rfl (xt_buildSlice E25 rfl rfl rfl rfl) ?_
              refine vl_any1 7 (by kernel_rfl) ?_
              · refine sv_ext 7 rfl rfl (xt_buildSlice E25 rfl rfl rfl rfl) ?_
                refine vl_expose 4 (by omega) rfl ?_
                refine vl_weaken 51 rfl ?_
                refine vl_stN ?_
                refine vl_expose 3 (by omega) rfl ?_
                refine vl_weaken 52 rfl ?_
                refine vl_stN ?_
                refine vl_expose 5 (by omega) rfl ?_
                refine vl_weaken 53 rfl ?_
                refine vl_stN ?_
                refine vl_any1 8 (by kernel_rfl) ?_
                · refine sv_ext 8 rfl rfl (xt_buildSlice E23 rfl rfl rfl rfl) ?_
                  refine vl_any1 9 (by kernel_rfl) ?_
                  · refine sv_one 9 rfl (by kernel_rfl) ?_
                    refine vo_expose 6 (by omega) rfl ?_
                    refine vo_weaken 54 rfl ?_
                    refine vo_stN ?_
                    refine vo_call [0] Try.func36 rfl rfl rfl rfl rfl rfl rfl (one2_sat (list := [[1,1],[-5],[0,1,2,3,4,5,6,7,8,9,10,11,12]]) hc (by omega) (by simp) (by simp)) ?_
                    rintro _ _ ⟨e, he, rfl, rfl⟩
                    refine ⟨Nat.le_of_ble_eq_true rfl, ⟨rfl, rfl, rfl⟩, .inl rfl, ?_⟩
                    refine vo_stN ?_
                    have he2 := sl_he he
                    refine vo_done ⟨rfl, ?_⟩
                    refine vl_any1 10 (by kernel_rfl) ?_
                    · refine sv_one 10 rfl (by kernel_rfl) ?_
                      refine vo_take 1 49 (by omega) rfl rfl (get_intss (k := 0) (by omega)) (plain_ints _) fun Rt => ?_
                      refine vo_stN ?_
                      refine vo_appendU E25 rfl (by omega) rfl rfl rfl sd sd fun Rt2 => ?_
                      refine vo_stN ?_
                      try simp only [app_ints, app_intss, app_bools]
                      refine vo_st (by simp only [← List.map_append]; exact eq_refl _) ?_
                      refine vo_done ⟨rfl, ?_⟩
                      refine vl_light0 11 rfl rfl rfl (by kernel_rfl) (by kernel_rfl) (by kernel_rfl) (wnt_none rfl) (l0_index_ref rfl rfl rfl E23.und inf25 sz25 sd sd) ?_
                      try simp only [Int.toNat_natCast]
                      refine vl_any1 12 (by kernel_rfl) ?_
                      · refine sv_one 12 rfl (by kernel_rfl) ?_
                        refine vo_store_tree rfl rfl (.inr ⟨_, rfl⟩) rfl rfl rfl (fits_of rfl) (fun _ _ _ _ _ h => (own_tp h (plain_ints _)).1.weak) rfl (by omega) (by omega) inf25 sz25 sd ?_
                        refine vo_stN ?_
                        try simp only [set_intss, Int.toNat_natCast]
                        refine vo_done ⟨rfl, ?_⟩
                        refine vl_nil (by kernel_rfl) ?_
                        refine hK16 _ ?_
                        refine vc_seq fun K34 hK34 => ?_
                        refine vc_region ?_
                        refine vo_move_ref rfl rfl ?_
                        refine vo_assign_ref rfl rfl ?_
                        refine vo_nil ?_
                        refine hK34 _ ?_
                        refine vc_ret ?_
                        change retG _ _ _ _ _
                        refine retG_one 1 hC rfl rfl rfl rfl rfl ?_
                        first | exact ⟨_, _, ⟨by omega, fun l hl => by have := hL l hl; omega, by omega⟩, rfl, rfl⟩ | exact ⟨L.set 0 (L.getD 0 [] ++ e), _, ⟨by rw [List.length_set]; omega, sl_app hL he, by omega⟩, rfl, rfl⟩
            · refine sv_ext 7 rfl rfl (xt_buildSlice E25 rfl rfl rfl rfl) ?_
              refine vl_any1 5 (by kernel_rfl) ?_
              · refine sv_ext 5 rfl rfl (xt_buildSlice E25 rfl rfl rfl rfl) ?_
                refine vl_expose 5 (by omega) rfl ?_
                refine vl_weaken 51 rfl ?_
                refine vl_stN ?_
                refine vl_expose 3 (by omega) rfl ?_
                refine vl_weaken 52 rfl ?_
                refine vl_stN ?_
                refine vl_expose 4 (by omega) rfl ?_
                refine vl_weaken 53 rfl ?_
                refine vl_stN ?_
                refine vl_any1 8 (by kernel_rfl) ?_
                · refine sv_ext 8 rfl rfl (xt_buildSlice E23 rfl rfl rfl rfl) ?_
                  refine vl_any1 9 (by kernel_rfl) ?_
                  · refine sv_one 9 rfl (by kernel_rfl) ?_
                    refine vo_expose 6 (by omega) rfl ?_
                    refine vo_weaken 54 rfl ?_
                    refine vo_stN ?_
                    refine vo_call [0] Try.func36 rfl rfl rfl rfl rfl rfl rfl (one2_sat (list := [[1,1],[-5],[0,1,2,3,4,5,6,7,8,9,10,11,12]]) hc (by omega) (by simp) (by simp)) ?_
                    rintro _ _ ⟨e, he, rfl, rfl⟩
                    refine ⟨Nat.le_of_ble_eq_true rfl, ⟨rfl, rfl, rfl⟩, .inl rfl, ?_⟩
                    refine vo_stN ?_
                    have he2 := sl_he he
                    refine vo_done ⟨rfl, ?_⟩
                    refine vl_any1 10 (by kernel_rfl) ?_
                    · refine sv_one 10 rfl (by kernel_rfl) ?_
                      refine vo_take 1 49 (by omega) rfl rfl (get_intss (k := 0) (by omega)) (plain_ints _) fun Rt => ?_
                      refine vo_stN ?_
                      refine vo_appendU E25 rfl (by omega) rfl rfl rfl sd sd fun Rt2 => ?_
                      refine vo_stN ?_
                      try simp only [app_ints, app_intss, app_bools]
                      refine vo_st (by simp only [← List.map_append]; exact eq_refl _) ?_
                      refine vo_done ⟨rfl, ?_⟩
                      refine vl_light0 11 rfl rfl rfl (by kernel_rfl) (by kernel_rfl) (by kernel_rfl) (wnt_none rfl) (l0_index_ref rfl rfl rfl E23.und inf25 sz25 sd sd) ?_
                      try simp only [Int.toNat_natCast]
                      refine vl_any1 12 (by kernel_rfl) ?_
                      · refine sv_one 12 rfl (by kernel_rfl) ?_
                        refine vo_store_tree rfl rfl (.inr ⟨_, rfl⟩) rfl rfl rfl (fits_of rfl) (fun _ _ _ _ _ h => (own_tp h (plain_ints _)).1.weak) rfl (by omega) (by omega) inf25 sz25 sd ?_
                        refine vo_stN ?_
                        try simp only [set_intss, Int.toNat_natCast]
                        refine vo_done ⟨rfl, ?_⟩
                        refine vl_nil (by kernel_rfl) ?_
                        refine hK16 _ ?_
                        refine vc_seq fun K35 hK35 => ?_
                        refine vc_region ?_
                        refine vo_move_ref rfl rfl ?_
                        refine vo_assign_ref rfl rfl ?_
                        refine vo_nil ?_
                        refine hK35 _ ?_
                        refine vc_ret ?_
                        change retG _ _ _ _ _
                        refine retG_one 1 hC rfl rfl rfl rfl rfl ?_
                        first | exact ⟨_, _, ⟨by omega, fun l hl => by have := hL l hl; omega, by omega⟩, rfl, rfl⟩ | exact ⟨L.set 0 (L.getD 0 [] ++ e), _, ⟨by rw [List.length_set]; omega, sl_app hL he, by omega⟩, rfl, rfl⟩
          · refine sv_ext 5 rfl rfl (xt_buildSlice E25 rfl rfl rfl rfl) ?_
            refine vl_any2 3 7 (by kernel_rfl) ?_ ?_
            · refine sv_light 3 rfl rfl (lt_load_known rfl rfl Try.underlying25 rfl sd) ?_
              refine vl_any1 7 (by kernel_rfl) ?_
              · refine sv_ext 7 rfl rfl (xt_buildSlice E25 rfl rfl rfl rfl) ?_
                refine vl_expose 4 (by omega) rfl ?_
                refine vl_weaken 51 rfl ?_
                refine vl_stN ?_
                refine vl_expose 3 (by omega) rfl ?_
                refine vl_weaken 52 rfl ?_
                refine vl_stN ?_
                refine vl_expose 5 (by omega) rfl ?_
                refine vl_weaken 53 rfl ?_
                refine vl_stN ?_
                refine vl_any1 8 (by kernel_rfl) ?_
                · refine sv_ext 8 rfl rfl (xt_buildSlice E23 rfl rfl rfl rfl) ?_
                  refine vl_any1 9 (by kernel_rfl) ?_
                  · refine sv_one 9 rfl (by kernel_rfl) ?_
                    refine vo_expose 6 (by omega) rfl ?_
                    refine vo_weaken 54 rfl ?_
                    refine vo_stN ?_
                    refine vo_call [0] Try.func36 rfl rfl rfl rfl rfl rfl rfl (one2_sat (list := [[1,1],[-5],[0,1,2,3,4,5,6,7,8,9,10,11,12]]) hc (by omega) (by simp) (by simp)) ?_
                    rintro _ _ ⟨e, he, rfl, rfl⟩
                    refine ⟨Nat.le_of_ble_eq_true rfl, ⟨rfl, rfl, rfl⟩, .inl rfl, ?_⟩
                    refine vo_stN ?_
                    have he2 := sl_he he
                    refine vo_done ⟨rfl, ?_⟩
                    refine vl_any1 10 (by kernel_rfl) ?_
                    · refine sv_one 10 rfl (by kernel_rfl) ?_
                      refine vo_take 1 49 (by omega) rfl rfl (get_intss (k := 0) (by omega)) (plain_ints _) fun Rt => ?_
                      refine vo_stN ?_
                      refine vo_appendU E25 rfl (by omega) rfl rfl rfl sd sd fun Rt2 => ?_
                      refine vo_stN ?_
                      try simp only [app_ints, app_intss, app_bools]
                      refine vo_st (by simp only [← List.map_append]; exact eq_refl _) ?_
                      refine vo_done ⟨rfl, ?_⟩
                      refine vl_light0 11 rfl rfl rfl (by kernel_rfl) (by kernel_rfl) (by kernel_rfl) (wnt_none rfl) (l0_index_ref rfl rfl rfl E23.und inf25 sz25 sd sd) ?_
                      try simp only [Int.toNat_natCast]
                      refine vl_any1 12 (by kernel_rfl) ?_
                      · refine sv_one 12 rfl (by kernel_rfl) ?_
                        refine vo_store_tree rfl rfl (.inr ⟨_, rfl⟩) rfl rfl rfl (fits_of rfl) (fun _ _ _ _ _ h => (own_tp h (plain_ints _)).1.weak) rfl (by omega) (by omega) inf25 sz25 sd ?_
                        refine vo_stN ?_
                        try simp only [set_intss, Int.toNat_natCast]
                        refine vo_done ⟨rfl, ?_⟩
                        refine vl_nil (by kernel_rfl) ?_
                        refine hK16 _ ?_
                        refine vc_seq fun K36 hK36 => ?_
                        refine vc_region ?_
                        refine vo_move_ref rfl rfl ?_
                        refine vo_assign_ref rfl rfl ?_
                        refine vo_nil ?_
                        refine hK36 _ ?_
                        refine vc_ret ?_
                        change retG _ _ _ _ _
                        refine retG_one 1 hC rfl rfl rfl rfl rfl ?_
                        first | exact ⟨_, _, ⟨by omega, fun l hl => by have := hL l hl; omega, by omega⟩, rfl, rfl⟩ | exact ⟨L.set 0 (L.getD 0 [] ++ e), _, ⟨by rw [List.length_set]; omega, sl_app hL he, by omega⟩, rfl, rfl⟩
            · refine sv_ext 7 rfl rfl (xt_buildSlice E25 rfl rfl rfl rfl) ?_
              refine vl_expose 4 (by omega) rfl ?_
              refine vl_weaken 51 rfl ?_
              refine vl_stN ?_
              refine vl_expose 3 (by omega) rfl ?_
              refine vl_weaken 52 rfl ?_
              refine vl_stN ?_
              refine vl_expose 5 (by omega) rfl ?_
              refine vl_weaken 53 rfl ?_
              refine vl_stN ?_
              refine vl_any2 3 8 (by kernel_rfl) ?_ ?_
              · refine sv_light 3 rfl rfl (lt_load_known rfl rfl Try.underlying25 rfl sd) ?_
                refine vl_any1 8 (by kernel_rfl) ?_
                · refine sv_ext 8 rfl rfl (xt_buildSlice E23 rfl rfl rfl rfl) ?_
                  refine vl_any1 9 (by kernel_rfl) ?_
                  · refine sv_one 9 rfl (by kernel_rfl) ?_
                    refine vo_expose 6 (by omega) rfl ?_
                    refine vo_weaken 54 rfl ?_
                    refine vo_stN ?_
                    refine vo_call [0] Try.func36 rfl rfl rfl rfl rfl rfl rfl (one2_sat (list := [[1,1],[-5],[0,1,2,3,4,5,6,7,8,9,10,11,12]]) hc (by omega) (by simp) (by simp)) ?_
                    rintro _ _ ⟨e, he, rfl, rfl⟩
                    refine ⟨Nat.le_of_ble_eq_true rfl, ⟨rfl, rfl, rfl⟩, .inl rfl, ?_⟩
                    refine vo_stN ?_
                    have he2 := sl_he he
                    refine vo_done ⟨rfl, ?_⟩
                    refine vl_any1 10 (by kernel_rfl) ?_
                    · refine sv_one 10 rfl (by kernel_rfl) ?_
                      refine vo_take 1 49 (by omega) rfl rfl (get_intss (k := 0) (by omega)) (plain_ints _) fun Rt => ?_
                      refine vo_stN ?_
                      refine vo_appendU E25 rfl (by omega) rfl rfl rfl sd sd fun Rt2 => ?_
                      refine vo_stN ?_
                      try simp only [app_ints, app_intss, app_bools]
                      refine vo_st (by simp only [← List.map_append]; exact eq_refl _) ?_
                      refine vo_done ⟨rfl, ?_⟩
                      refine vl_light0 11 rfl rfl rfl (by kernel_rfl) (by kernel_rfl) (by kernel_rfl) (wnt_none rfl) (l0_index_ref rfl rfl rfl E23.und inf25 sz25 sd sd) ?_
                      try simp only [Int.toNat_natCast]
                      refine vl_any1 12 (by kernel_rfl) ?_
                      · refine sv_one 12 rfl (by kernel_rfl) ?_
                        refine vo_store_tree rfl rfl (.inr ⟨_, rfl⟩) rfl rfl rfl (fits_of rfl) (fun _ _ _ _ _ h => (own_tp h (plain_ints _)).1.weak) rfl (by omega) (by omega) inf25 sz25 sd ?_
                        refine vo_stN ?_
                        try simp only [set_intss, Int.toNat_natCast]
                        refine vo_done ⟨rfl, ?_⟩
                        refine vl_nil (by kernel_rfl) ?_
                        refine hK16 _ ?_
                        refine vc_seq fun K37 hK37 => ?_
                        refine vc_region ?_
                        refine vo_move_ref rfl rfl ?_
                        refine vo_assign_ref rfl rfl ?_
                        refine vo_nil ?_
                        refine hK37 _ ?_
                        refine vc_ret ?_
                        change retG _ _ _ _ _
                        refine retG_one 1 hC rfl rfl rfl rfl rfl ?_
                        first | exact ⟨_, _, ⟨by omega, fun l hl => by have := hL l hl; omega, by omega⟩, rfl, rfl⟩ | exact ⟨L.set 0 (L.getD 0 [] ++ e), _, ⟨by rw [List.length_set]; omega, sl_app hL he, by omega⟩, rfl, rfl⟩
              · refine sv_ext 8 rfl rfl (xt_buildSlice E23 rfl rfl rfl rfl) ?_
                refine vl_any2 3 9 (by kernel_rfl) ?_ ?_
                · refine sv_light 3 rfl rfl (lt_load_known rfl rfl Try.underlying25 rfl sd) ?_
                  refine vl_any1 9 (by kernel_rfl) ?_
                  · refine sv_one 9 rfl (by kernel_rfl) ?_
                    refine vo_expose 6 (by omega) rfl ?_
                    refine vo_weaken 54 rfl ?_
                    refine vo_stN ?_
                    refine vo_call [0] Try.func36 rfl rfl rfl rfl rfl rfl rfl (one2_sat (list := [[1,1],[-5],[0,1,2,3,4,5,6,7,8,9,10,11,12]]) hc (by omega) (by simp) (by simp)) ?_
                    rintro _ _ ⟨e, he, rfl, rfl⟩
                    refine ⟨Nat.le_of_ble_eq_true rfl, ⟨rfl, rfl, rfl⟩, .inl rfl, ?_⟩
                    refine vo_stN ?_
                    have he2 := sl_he he
                    refine vo_done ⟨rfl, ?_⟩
                    refine vl_any1 10 (by kernel_rfl) ?_
                    · refine sv_one 10 rfl (by kernel_rfl) ?_
                      refine vo_take 1 49 (by omega) rfl rfl (get_intss (k := 0) (by omega)) (plain_ints _) fun Rt => ?_
                      refine vo_stN ?_
                      refine vo_appendU E25 rfl (by omega) rfl rfl rfl sd sd fun Rt2 => ?_
                      refine vo_stN ?_
                      try simp only [app_ints, app_intss, app_bools]
                      refine vo_st (by simp only [← List.map_append]; exact eq_refl _) ?_
                      refine vo_done ⟨rfl, ?_⟩
                      refine vl_light0 11 rfl rfl rfl (by kernel_rfl) (by kernel_rfl) (by kernel_rfl) (wnt_none rfl) (l0_index_ref rfl rfl rfl E23.und inf25 sz25 sd sd) ?_
                      try simp only [Int.toNat_natCast]
                      refine vl_any1 12 (by kernel_rfl) ?_
                      · refine sv_one 12 rfl (by kernel_rfl) ?_
                        refine vo_store_tree rfl rfl (.inr ⟨_, rfl⟩) rfl rfl rfl (fits_of rfl) (fun _ _ _ _ _ h => (own_tp h (plain_ints _)).1.weak) rfl (by omega) (by omega) inf25 sz25 sd ?_
                        refine vo_stN ?_
                        try simp only [set_intss, Int.toNat_natCast]
                        refine vo_done ⟨rfl, ?_⟩
                        refine vl_nil (by kernel_rfl) ?_
                        refine hK16 _ ?_
                        refine vc_seq fun K38 hK38 => ?_
                        refine vc_region ?_
                        refine vo_move_ref rfl rfl ?_
                        refine vo_assign_ref rfl rfl ?_
                        refine vo_nil ?_
                        refine hK38 _ ?_
                        refine vc_ret ?_
                        change retG _ _ _ _ _
                        refine retG_one 1 hC rfl rfl rfl rfl rfl ?_
                        first | exact ⟨_, _, ⟨by omega, fun l hl => by have := hL l hl; omega, by omega⟩, rfl, rfl⟩ | exact ⟨L.set 0 (L.getD 0 [] ++ e), _, ⟨by rw [List.length_set]; omega, sl_app hL he, by omega⟩, rfl, rfl⟩
                · refine sv_one 9 rfl (by kernel_rfl) ?_
                  refine vo_expose 6 (by omega) rfl ?_
                  refine vo_weaken 54 rfl ?_
                  refine vo_stN ?_
                  refine vo_call [0] Try.func36 rfl rfl rfl rfl rfl rfl rfl (one2_sat (list := [[1,1],[-5],[0,1,2,3,4,5,6,7,8,9,10,11,12]]) hc (by omega) (by simp) (by simp)) ?_
                  rintro _ _ ⟨e, he, rfl, rfl⟩
                  refine ⟨Nat.le_of_ble_eq_true rfl, ⟨rfl, rfl, rfl⟩, .inl rfl, ?_⟩
                  refine vo_stN ?_
                  have he2 := sl_he he
                  refine vo_done ⟨rfl, ?_⟩
                  refine vl_any1 3 (by kernel_rfl) ?_
                  · refine sv_light 3 rfl rfl (lt_load_known rfl rfl Try.underlying25 rfl sd) ?_
                    refine vl_any1 10 (by kernel_rfl) ?_
                    · refine sv_one 10 rfl (by kernel_rfl) ?_
                      refine vo_take 1 49 (by omega) rfl rfl (get_intss (k := 0) (by omega)) (plain_ints _) fun Rt => ?_
                      refine vo_stN ?_
                      refine vo_appendU E25 rfl (by omega) rfl rfl rfl sd sd fun Rt2 => ?_
                      refine vo_stN ?_
                      try simp only [app_ints, app_intss, app_bools]
                      refine vo_st (by simp only [← List.map_append]; exact eq_refl _) ?_
                      refine vo_done ⟨rfl, ?_⟩
                      refine vl_light0 11 rfl rfl rfl (by kernel_rfl) (by kernel_rfl) (by kernel_rfl) (wnt_none rfl) (l0_index_ref rfl rfl rfl E23.und inf25 sz25 sd sd) ?_
                      try simp only [Int.toNat_natCast]
                      refine vl_any1 12 (by kernel_rfl) ?_
                      · refine sv_one 12 rfl (by kernel_rfl) ?_
                        refine vo_store_tree rfl rfl (.inr ⟨_, rfl⟩) rfl rfl rfl (fits_of rfl) (fun _ _ _ _ _ h => (own_tp h (plain_ints _)).1.weak) rfl (by omega) (by omega) inf25 sz25 sd ?_
                        refine vo_stN ?_
                        try simp only [set_intss, Int.toNat_natCast]
                        refine vo_done ⟨rfl, ?_⟩
                        refine vl_nil (by kernel_rfl) ?_
                        refine hK16 _ ?_
                        refine vc_seq fun K39 hK39 => ?_
                        refine vc_region ?_
                        refine vo_move_ref rfl rfl ?_
                        refine vo_assign_ref rfl rfl ?_
                        refine vo_nil ?_
                        refine hK39 _ ?_
                        refine vc_ret ?_
                        change retG _ _ _ _ _
                        refine retG_one 1 hC rfl rfl rfl rfl rfl ?_
                        first | exact ⟨_, _, ⟨by omega, fun l hl => by have := hL l hl; omega, by omega⟩, rfl, rfl⟩ | exact ⟨L.set 0 (L.getD 0 [] ++ e), _, ⟨by rw [List.length_set]; omega, sl_app hL he, by omega⟩, rfl, rfl⟩
          · refine sv_ext 7 rfl rfl (xt_buildSlice E25 rfl rfl rfl rfl) ?_
            refine vl_any2 3 5 (by kernel_rfl) ?_ ?_
            · refine sv_light 3 rfl rfl (lt_load_known rfl rfl Try.underlying25 rfl sd) ?_
              refine vl_any1 5 (by kernel_rfl) ?_
              · refine sv_ext 5 rfl rfl (xt_buildSlice E25 rfl rfl rfl rfl) ?_
                refine vl_expose 5 (by omega) rfl ?_
                refine vl_weaken 51 rfl ?_
                refine vl_stN ?_
                refine vl_expose 3 (by omega) rfl ?_
                refine vl_weaken 52 rfl ?_
                refine vl_stN ?_
                refine vl_expose 4 (by omega) rfl ?_
                refine vl_weaken 53 rfl ?_
                refine vl_stN ?_
                refine vl_any1 8 (by kernel_rfl) ?_
                · refine sv_ext 8 rfl rfl (xt_buildSlice E23 rfl rfl rfl rfl) ?_
                  refine vl_any1 9 (by kernel_rfl) ?_
                  · refine sv_one 9 rfl (by kernel_rfl) ?_
                    refine vo_expose 6 (by omega) rfl ?_
                    refine vo_weaken 54 rfl ?_
                    refine vo_stN ?_
                    refine vo_call [0] Try.func36 rfl rfl rfl rfl rfl rfl rfl (one2_sat (list := [[1,1],[-5],[0,1,2,3,4,5,6,7,8,9,10,11,12]]) hc (by omega) (by simp) (by simp)) ?_
                    rintro _ _ ⟨e, he, rfl, rfl⟩
                    refine ⟨Nat.le_of_ble_eq_true rfl, ⟨rfl, rfl, rfl⟩, .inl rfl, ?_⟩
                    refine vo_stN ?_
                    have he2 := sl_he he
                    refine vo_done ⟨rfl, ?_⟩
                    refine vl_any1 10 (by kernel_rfl) ?_
                    · refine sv_one 10 rfl (by kernel_rfl) ?_
                      refine vo_take 1 49 (by omega) rfl rfl (get_intss (k := 0) (by omega)) (plain_ints _) fun Rt => ?_
                      refine vo_stN ?_
                      refine vo_appendU E25 rfl (by omega) rfl rfl rfl sd sd fun Rt2 => ?_
                      refine vo_stN ?_
                      try simp only [app_ints, app_intss, app_bools]
                      refine vo_st (by simp only [← List.map_append]; exact eq_refl _) ?_
                      refine vo_done ⟨rfl, ?_⟩
                      refine vl_light0 11 rfl rfl rfl (by kernel_rfl) (by kernel_rfl) (by kernel_rfl) (wnt_none rfl) (l0_index_ref rfl rfl rfl E23.und inf25 sz25 sd sd) ?_
                      try simp only [Int.toNat_natCast]
                      refine vl_any1 12 (by kernel_rfl) ?_
                      · refine sv_one 12 rfl (by kernel_rfl) ?_
                        refine vo_store_tree rfl rfl (.inr ⟨_, rfl⟩) rfl rfl rfl (fits_of rfl) (fun _ _ _ _ _ h => (own_tp h (plain_ints _)).1.weak) rfl (by omega) (by omega) inf25 sz25 sd ?_
                        refine vo_stN ?_
                        try simp only [set_intss, Int.toNat_natCast]
                        refine vo_done ⟨rfl, ?_⟩
                        refine vl_nil (by kernel_rfl) ?_
                        refine hK16 _ ?_
                        refine vc_seq fun K40 hK40 => ?_
                        refine vc_region ?_
                        refine vo_move_ref rfl rfl ?_
                        refine vo_assign_ref rfl rfl ?_
                        refine vo_nil ?_
                        refine hK40 _ ?_
                        refine vc_ret ?_
                        change retG _ _ _ _ _
                        refine retG_one 1 hC rfl rfl rfl rfl rfl ?_
                        first | exact ⟨_, _, ⟨by omega, fun l hl => by have := hL l hl; omega, by omega⟩, rfl, rfl⟩ | exact ⟨L.set 0 (L.getD 0 [] ++ e), _, ⟨by rw [List.length_set]; omega, sl_app hL he, by omega⟩, rfl, rfl⟩
            · refine sv_ext 5 rfl rfl (xt_buildSlice E25 rfl rfl rfl rfl) ?_
              refine vl_expose 5 (by omega) rfl ?_
              refine vl_weaken 51 rfl ?_
              refine vl_stN ?_
              refine vl_expose 3 (by omega) rfl ?_
              refine vl_weaken 52 rfl ?_
              refine vl_stN ?_
              refine vl_expose 4 (by omega) rfl ?_
              refine vl_weaken 53 rfl ?_
              refine vl_stN ?_
              refine vl_any2 3 8 (by kernel_rfl) ?_ ?_
              · refine sv_light 3 rfl rfl (lt_load_known rfl rfl Try.underlying25 rfl sd) ?_
                refine vl_any1 8 (by kernel_rfl) ?_
                · refine sv_ext 8 rfl rfl (xt_buildSlice E23 rfl rfl rfl rfl) ?_
                  refine vl_any1 9 (by kernel_rfl) ?_
                  · refine sv_one 9 rfl (by kernel_rfl) ?_
                    refine vo_expose 6 (by omega) rfl ?_
                    refine vo_weaken 54 rfl ?_
                    refine vo_stN ?_
                    refine vo_call [0] Try.func36 rfl rfl rfl rfl rfl rfl rfl (one2_sat (list := [[1,1],[-5],[0,1,2,3,4,5,6,7,8,9,10,11,12]]) hc (by omega) (by simp) (by simp)) ?_
                    rintro _ _ ⟨e, he, rfl, rfl⟩
                    refine ⟨Nat.le_of_ble_eq_true rfl, ⟨rfl, rfl, rfl⟩, .inl rfl, ?_⟩
                    refine vo_stN ?_
                    have he2 := sl_he he
                    refine vo_done ⟨rfl, ?_⟩
                    refine vl_any1 10 (by kernel_rfl) ?_
                    · refine sv_one 10 rfl (by kernel_rfl) ?_
                      refine vo_take 1 49 (by omega) rfl rfl (get_intss (k := 0) (by omega)) (plain_ints _) fun Rt => ?_
                      refine vo_stN ?_
                      refine vo_appendU E25 rfl (by omega) rfl rfl rfl sd sd fun Rt2 => ?_
                      refine vo_stN ?_
                      try simp only [app_ints, app_intss, app_bools]
                      refine vo_st (by simp only [← List.map_append]; exact eq_refl _) ?_
                      refine vo_done ⟨rfl, ?_⟩
                      refine vl_light0 11 rfl rfl rfl (by kernel_rfl) (by kernel_rfl) (by kernel_rfl) (wnt_none rfl) (l0_index_ref rfl rfl rfl E23.und inf25 sz25 sd sd) ?_
                      try simp only [Int.toNat_natCast]
                      refine vl_any1 12 (by kernel_rfl) ?_
                      · refine sv_one 12 rfl (by kernel_rfl) ?_
                        refine vo_store_tree rfl rfl (.inr ⟨_, rfl⟩) rfl rfl rfl (fits_of rfl) (fun _ _ _ _ _ h => (own_tp h (plain_ints _)).1.weak) rfl (by omega) (by omega) inf25 sz25 sd ?_
                        refine vo_stN ?_
                        try simp only [set_intss, Int.toNat_natCast]
                        refine vo_done ⟨rfl, ?_⟩
                        refine vl_nil (by kernel_rfl) ?_
                        refine hK16 _ ?_
                        refine vc_seq fun K41 hK41 => ?_
                        refine vc_region ?_
                        refine vo_move_ref rfl rfl ?_
                        refine vo_assign_ref rfl rfl ?_
                        refine vo_nil ?_
                        refine hK41 _ ?_
                        refine vc_ret ?_
                        change retG _ _ _ _ _
                        refine retG_one 1 hC rfl rfl rfl rfl rfl ?_
                        first | exact ⟨_, _, ⟨by omega, fun l hl => by have := hL l hl; omega, by omega⟩, rfl, rfl⟩ | exact ⟨L.set 0 (L.getD 0 [] ++ e), _, ⟨by rw [List.length_set]; omega, sl_app hL he, by omega⟩, rfl, rfl⟩
              · refine sv_ext 8 rfl rfl (xt_buildSlice E23 rfl rfl rfl rfl) ?_
                refine vl_any2 3 9 (by kernel_rfl) ?_ ?_
                · refine sv_light 3 rfl rfl (lt_load_known rfl rfl Try.underlying25 rfl sd) ?_
                  refine vl_any1 9 (by kernel_rfl) ?_
                  · refine sv_one 9 rfl (by kernel_rfl) ?_
                    refine vo_expose 6 (by omega) rfl ?_
                    refine vo_weaken 54 rfl ?_
                    refine vo_stN ?_
                    refine vo_call [0] Try.func36 rfl rfl rfl rfl rfl rfl rfl (one2_sat (list := [[1,1],[-5],[0,1,2,3,4,5,6,7,8,9,10,11,12]]) hc (by omega) (by simp) (by simp)) ?_
                    rintro _ _ ⟨e, he, rfl, rfl⟩
                    refine ⟨Nat.le_of_ble_eq_true rfl, ⟨rfl, rfl, rfl⟩, .inl rfl, ?_⟩
                    refine vo_stN ?_
                    have he2 := sl_he he
                    refine vo_done ⟨rfl, ?_⟩
                    refine vl_any1 10 (by kernel_rfl) ?_
                    · refine sv_one 10 rfl (by kernel_rfl) ?_
                      refine vo_take 1 49 (by omega) rfl rfl (get_intss (k := 0) (by omega)) (plain_ints _) fun Rt => ?_
                      refine vo_stN ?_
                      refine vo_appendU E25 rfl (by omega) rfl rfl rfl sd sd fun Rt2 => ?_
                      refine vo_stN ?_
                      try simp only [app_ints, app_intss, app_bools]
                      refine vo_st (by simp only [← List.map_append]; exact eq_refl _) ?_
                      refine vo_done ⟨rfl, ?_⟩
                      refine vl_light0 11 rfl rfl rfl (by kernel_rfl) (by kernel_rfl) (by kernel_rfl) (wnt_none rfl) (l0_index_ref rfl rfl rfl E23.und inf25 sz25 sd sd) ?_
                      try simp only [Int.toNat_natCast]
                      refine vl_any1 12 (by kernel_rfl) ?_
                      · refine sv_one 12 rfl (by kernel_rfl) ?_
                        refine vo_store_tree rfl rfl (.inr ⟨_, rfl⟩) rfl rfl rfl (fits_of rfl) (fun _ _ _ _ _ h => (own_tp h (plain_ints _)).1.weak) rfl (by omega) (by omega) inf25 sz25 sd ?_
                        refine vo_stN ?_
                        try simp only [set_intss, Int.toNat_natCast]
                        refine vo_done ⟨rfl, ?_⟩
                        refine vl_nil (by kernel_rfl) ?_
                        refine hK16 _ ?_
                        refine vc_seq fun K42 hK42 => ?_
                        refine vc_region ?_
                        refine vo_move_ref rfl rfl ?_
                        refine vo_assign_ref rfl rfl ?_
                        refine vo_nil ?_
                        refine hK42 _ ?_
                        refine vc_ret ?_
                        change retG _ _ _ _ _
                        refine retG_one 1 hC rfl rfl rfl rfl rfl ?_
                        first | exact ⟨_, _, ⟨by omega, fun l hl => by have := hL l hl; omega, by omega⟩, rfl, rfl⟩ | exact ⟨L.set 0 (L.getD 0 [] ++ e), _, ⟨by rw [List.length_set]; omega, sl_app hL he, by omega⟩, rfl, rfl⟩
                · refine sv_one 9 rfl (by kernel_rfl) ?_
                  refine vo_expose 6 (by omega) rfl ?_
                  refine vo_weaken 54 rfl ?_
                  refine vo_stN ?_
                  refine vo_call [0] Try.func36 rfl rfl rfl rfl rfl rfl rfl (one2_sat (list := [[1,1],[-5],[0,1,2,3,4,5,6,7,8,9,10,11,12]]) hc (by omega) (by simp) (by simp)) ?_
                  rintro _ _ ⟨e, he, rfl, rfl⟩
                  refine ⟨Nat.le_of_ble_eq_true rfl, ⟨rfl, rfl, rfl⟩, .inl rfl, ?_⟩
                  refine vo_stN ?_
                  have he2 := sl_he he
                  refine vo_done ⟨rfl, ?_⟩
                  refine vl_any1 3 (by kernel_rfl) ?_
                  · refine sv_light 3 rfl rfl (lt_load_known rfl rfl Try.underlying25 rfl sd) ?_
                    refine vl_any1 10 (by kernel_rfl) ?_
                    · refine sv_one 10 rfl (by kernel_rfl) ?_
                      refine vo_take 1 49 (by omega) rfl rfl (get_intss (k := 0) (by omega)) (plain_ints _) fun Rt => ?_
                      refine vo_stN ?_
                      refine vo_appendU E25 rfl (by omega) rfl rfl rfl sd sd fun Rt2 => ?_
                      refine vo_stN ?_
                      try simp only [app_ints, app_intss, app_bools]
                      refine vo_st (by simp only [← List.map_append]; exact eq_refl _) ?_
                      refine vo_done ⟨rfl, ?_⟩
                      refine vl_light0 11 rfl rfl rfl (by kernel_rfl) (by kernel_rfl) (by kernel_rfl) (wnt_none rfl) (l0_index_ref rfl rfl rfl E23.und inf25 sz25 sd sd) ?_
                      try simp only [Int.toNat_natCast]
                      refine vl_any1 12 (by kernel_rfl) ?_
                      · refine sv_one 12 rfl (by kernel_rfl) ?_
                        refine vo_store_tree rfl rfl (.inr ⟨_, rfl⟩) rfl rfl rfl (fits_of rfl) (fun _ _ _ _ _ h => (own_tp h (plain_ints _)).1.weak) rfl (by omega) (by omega) inf25 sz25 sd ?_
                        refine vo_stN ?_
                        try simp only [set_intss, Int.toNat_natCast]
                        refine vo_done ⟨rfl, ?_⟩
                        refine vl_nil (by kernel_rfl) ?_
                        refine hK16 _ ?_
                        refine vc_seq fun K43 hK43 => ?_
                        refine vc_region ?_
                        refine vo_move_ref rfl rfl ?_
                        refine vo_assign_ref rfl rfl ?_
                        refine vo_nil ?_
                        refine hK43 _ ?_
                        refine vc_ret ?_
                        change retG _ _ _ _ _
                        refine retG_one 1 hC rfl rfl rfl rfl rfl ?_
                        first | exact ⟨_, _, ⟨by omega, fun l hl => by have := hL l hl; omega, by omega⟩, rfl, rfl⟩ | exact ⟨L.set 0 (L.getD 0 [] ++ e), _, ⟨by rw [List.length_set]; omega, sl_app hL he, by omega⟩, rfl, rfl⟩
        · refine sv_ext 7 rfl rfl (xt_buildSlice E25 rfl rfl rfl rfl) ?_
          refine vl_any3 3 5 6 (by kernel_rfl) ?_ ?_ ?_
          · refine sv_light 3 rfl rfl (lt_load_known rfl rfl Try.underlying25 rfl sd) ?_
            refine vl_any2 5 6 (by kernel_rfl) ?_ ?_
            · refine sv_ext 5 rfl rfl (xt_buildSlice E25 rfl rfl rfl rfl) ?_
              refine vl_any1 6 (by kernel_rfl) ?_
              · refine sv_ext 6 rfl rfl (xt_buildSlice E25 rfl rfl rfl rfl) ?_
                refine vl_expose 4 (by omega) rfl ?_
                refine vl_weaken 51 rfl ?_
                refine vl_stN ?_
                refine vl_expose 5 (by omega) rfl ?_
                refine vl_weaken 52 rfl ?_
                refine vl_stN ?_
                refine vl_expose 3 (by omega) rfl ?_
                refine vl_weaken 53 rfl ?_
                refine vl_stN ?_
                refine vl_any1 8 (by kernel_rfl) ?_
                · refine sv_ext 8 rfl rfl (xt_buildSlice E23 rfl rfl rfl rfl) ?_
                  refine vl_any1 9 (by kernel_rfl) ?_
                  · refine sv_one 9 rfl (by kernel_rfl) ?_
                    refine vo_expose 6 (by omega) rfl ?_
                    refine vo_weaken 54 rfl ?_
                    refine vo_stN ?_
                    refine vo_call [0] Try.func36 rfl rfl rfl rfl rfl rfl rfl (one2_sat (list := [[1,1],[-5],[0,1,2,3,4,5,6,7,8,9,10,11,12]]) hc (by omega) (by simp) (by simp)) ?_
                    rintro _ _ ⟨e, he, rfl, rfl⟩
                    refine ⟨Nat.le_of_ble_eq_true rfl, ⟨rfl, rfl, rfl⟩, .inl rfl, ?_⟩
                    refine vo_stN ?_
                    have he2 := sl_he he
                    refine vo_done ⟨rfl, ?_⟩
                    refine vl_any1 10 (by kernel_rfl) ?_
                    · refine sv_one 10 rfl (by kernel_rfl) ?_
                      refine vo_take 1 49 (by omega) rfl rfl (get_intss (k := 0) (by omega)) (plain_ints _) fun Rt => ?_
                      refine vo_stN ?_
                      refine vo_appendU E25 rfl (by omega) rfl rfl rfl sd sd fun Rt2 => ?_
                      refine vo_stN ?_
                      try simp only [app_ints, app_intss, app_bools]
                      refine vo_st (by simp only [← List.map_append]; exact eq_refl _) ?_
                      refine vo_done ⟨rfl, ?_⟩
                      refine vl_light0 11 rfl rfl rfl (by kernel_rfl) (by kernel_rfl) (by kernel_rfl) (wnt_none rfl) (l0_index_ref rfl rfl rfl E23.und inf25 sz25 sd sd) ?_
                      try simp only [Int.toNat_natCast]
                      refine vl_any1 12 (by kernel_rfl) ?_
                      · refine sv_one 12 rfl (by kernel_rfl) ?_
                        refine vo_store_tree rfl rfl (.inr ⟨_, rfl⟩) rfl rfl rfl (fits_of rfl) (fun _ _ _ _ _ h => (own_tp h (plain_ints _)).1.weak) rfl (by omega) (by omega) inf25 sz25 sd ?_
                        refine vo_stN ?_
                        try simp only [set_intss, Int.toNat_natCast]
                        refine vo_done ⟨rfl, ?_⟩
                        refine vl_nil (by kernel_rfl) ?_
                        refine hK16 _ ?_
                        refine vc_seq fun K44 hK44 => ?_
                        refine vc_region ?_
                        refine vo_move_ref rfl rfl ?_
                        refine vo_assign_ref rfl rfl ?_
                        refine vo_nil ?_
                        refine hK44 _ ?_
                        refine vc_ret ?_
                        change retG _ _ _ _ _
                        refine retG_one 1 hC rfl rfl rfl rfl rfl ?_
                        first | exact ⟨_, _, ⟨by omega, fun l hl => by have := hL l hl; omega, by omega⟩, rfl, rfl⟩ | exact ⟨L.set 0 (L.getD 0 [] ++ e), _, ⟨by rw [List.length_set]; omega, sl_app hL he, by omega⟩, rfl, rfl⟩
            · refine sv_ext 6 rfl rfl (xt_buildSlice E25 rfl rfl rfl rfl) ?_
              refine vl_any1 5 (by kernel_rfl) ?_
              · refine sv_ext 5 rfl rfl (xt_buildSlice E25 rfl rfl rfl rfl) ?_
                refine vl_expose 5 (by omega) rfl ?_
                refine vl_weaken 51 rfl ?_
                refine vl_stN ?_
                refine vl_expose 4 (by omega) rfl ?_
                refine vl_weaken 52 rfl ?_
                refine vl_stN ?_
                refine vl_expose 3 (by omega) rfl ?_
                refine vl_weaken 53 rfl ?_
                refine vl_stN ?_
                refine vl_any1 8 (by kernel_rfl) ?_
                · refine sv_ext 8 rfl rfl (xt_buildSlice E23 rfl rfl rfl rfl) ?_
                  refine vl_any1 9 (by kernel_rfl) ?_
                  · refine sv_one 9 rfl (by kernel_rfl) ?_
                    refine vo_expose 6 (by omega) rfl ?_
                    refine vo_weaken 54 rfl ?_
                    refine vo_stN ?_
                    refine vo_call [0] Try.func36 rfl rfl rfl rfl rfl rfl rfl (one2_sat (list := [[1,1],[-5],[0,1,2,3,4,5,6,7,8,9,10,11,12]]) hc (by omega) (by simp) (by simp)) ?_
                    rintro _ _ ⟨e, he, rfl, rfl⟩
                    refine ⟨Nat.le_of_ble_eq_true rfl, ⟨rfl, rfl, rfl⟩, .inl rfl, ?_⟩
                    refine vo_stN ?_
                    have he2 := sl_he he
                    refine vo_done ⟨rfl, ?_⟩
                    refine vl_any1 10 (by kernel_rfl) ?_
                    · refine sv_one 10 rfl (by kernel_rfl) ?_
                      refine vo_take 1 49 (by omega) rfl rfl (get_intss (k := 0) (by omega)) (plain_ints _) fun Rt => ?_
                      refine vo_stN ?_
                      refine vo_appendU E25 rfl (by omega) rfl rfl rfl sd sd fun Rt2 => ?_
                      refine vo_stN ?_
                      try simp only [app_ints, app_intss, app_bools]
                      refine vo_st (by simp only [← List.map_append]; exact eq_refl _) ?_
                      refine vo_done ⟨rfl, ?_⟩
                      refine vl_light0 11 rfl rfl rfl (by kernel_rfl) (by kernel_rfl) (by kernel_rfl) (wnt_none rfl) (l0_index_ref rfl rfl rfl E23.und inf25 sz25 sd sd) ?_
                      try simp only [Int.toNat_natCast]
                      refine vl_any1 12 (by kernel_rfl) ?_
                      · refine sv_one 12 rfl (by kernel_rfl) ?_
                        refine vo_store_tree rfl rfl (.inr ⟨_, rfl⟩) rfl rfl rfl (fits_of rfl) (fun _ _ _ _ _ h => (own_tp h (plain_ints _)).1.weak) rfl (by omega) (by omega) inf25 sz25 sd ?_
                        refine vo_stN ?_
                        try simp only [set_intss, Int.toNat_natCast]
                        refine vo_done ⟨rfl, ?_⟩
                        refine vl_nil (by kernel_rfl) ?_
                        refine hK16 _ ?_
                        refine vc_seq fun K45 hK45 => ?_
                        refine vc_region ?_
                        refine vo_move_ref rfl rfl ?_
                        refine vo_assign_ref rfl rfl ?_
                        refine vo_nil ?_
                        refine hK45 _ ?_
                        refine vc_ret ?_
                        change retG _ _ _ _ _
                        refine retG_one 1 hC rfl rfl rfl rfl rfl ?_
                        first | exact ⟨_, _, ⟨by omega, fun l hl => by have := hL l hl; omega, by omega⟩, rfl, rfl⟩ | exact ⟨L.set 0 (L.getD 0 [] ++ e), _, ⟨by rw [List.length_set]; omega, sl_app hL he, by omega⟩, rfl, rfl⟩
          · refine sv_ext 5 rfl rfl (xt_buildSlice E25 rfl rfl rfl rfl) ?_
            refine vl_any2 3 6 (by kernel_rfl) ?_ ?_
            · refine sv_light 3 rfl rfl (lt_load_known rfl rfl Try.underlying25 rfl sd) ?_
              refine vl_any1 6 (by kernel_rfl) ?_
              · refine sv_ext 6 rfl rfl (xt_buildSlice E25 rfl rfl rfl rfl) ?_
                refine vl_expose 4 (by omega) rfl ?_
                refine vl_weaken 51 rfl ?_
                refine vl_stN ?_
                refine vl_expose 5 (by omega) rfl ?_
                refine vl_weaken 52 rfl ?_
                refine vl_stN ?_
                refine vl_expose 3 (by omega) rfl ?_
                refine vl_weaken 53 rfl ?_
                refine vl_stN ?_
                refine vl_any1 8 (by kernel_rfl) ?_
                · refine sv_ext 8 rfl rfl (xt_buildSlice E23 rfl rfl rfl rfl) ?_
                  refine vl_any1 9 (by kernel_rfl) ?_
                  · refine sv_one 9 rfl (by kernel_rfl) ?_
                    refine vo_expose 6 (by omega) rfl ?_
                    refine vo_weaken 54 rfl ?_
                    refine vo_stN ?_
                    refine vo_call [0] Try.func36 rfl rfl rfl rfl rfl rfl rfl (one2_sat (list := [[1,1],[-5],[0,1,2,3,4,5,6,7,8,9,10,11,12]]) hc (by omega) (by simp) (by simp)) ?_
                    rintro _ _ ⟨e, he, rfl, rfl⟩
                    refine ⟨Nat.le_of_ble_eq_true rfl, ⟨rfl, rfl, rfl⟩, .inl rfl, ?_⟩
                    refine vo_stN ?_
                    have he2 := sl_he he
                    refine vo_done ⟨rfl, ?_⟩
                    refine vl_any1 10 (by kernel_rfl) ?_
                    · refine sv_one 10 rfl (by kernel_rfl) ?_
                      refine vo_take 1 49 (by omega) rfl rfl (get_intss (k := 0) (by omega)) (plain_ints _) fun Rt => ?_
                      refine vo_stN ?_
                      refine vo_appendU E25 rfl (by omega) rfl rfl rfl sd sd fun Rt2 => ?_
                      refine vo_stN ?_
                      try simp only [app_ints, app_intss, app_bools]
                      refine vo_st (by simp only [← List.map_append]; exact eq_refl _) ?_
                      refine vo_done ⟨rfl, ?_⟩
                      refine vl_light0 11 rfl rfl rfl (by kernel_rfl) (by kernel_rfl) (by kernel_rfl) (wnt_none rfl) (l0_index_ref rfl rfl rfl E23.und inf25 sz25 sd sd) ?_
                      try simp only [Int.toNat_natCast]
                      refine vl_any1 12 (by kernel_rfl) ?_
                      · refine sv_one 12 rfl (by kernel_rfl) ?_
                        refine vo_store_tree rfl rfl (.inr ⟨_, rfl⟩) rfl rfl rfl (fits_of rfl) (fun _ _ _ _ _ h => (own_tp h (plain_ints _)).1.weak) rfl (by omega) (by omega) inf25 sz25 sd ?_
                        refine vo_stN ?_
                        try simp only [set_intss, Int.toNat_natCast]
                        refine vo_done ⟨rfl, ?_⟩
                        refine vl_nil (by kernel_rfl) ?_
                        refine hK16 _ ?_
                        refine vc_seq fun K46 hK46 => ?_
                        refine vc_region ?_
                        refine vo_move_ref rfl rfl ?_
                        refine vo_assign_ref rfl rfl ?_
                        refine vo_nil ?_
                        refine hK46 _ ?_
                        refine vc_ret ?_
                        change retG _ _ _ _ _
                        refine retG_one 1 hC rfl rfl rfl rfl rfl ?_
                        first | exact ⟨_, _, ⟨by omega, fun l hl => by have := hL l hl; omega, by omega⟩, rfl, rfl⟩ | exact ⟨L.set 0 (L.getD 0 [] ++ e), _, ⟨by rw [List.length_set]; omega, sl_app hL he, by omega⟩, rfl, rfl⟩
            · refine sv_ext 6 rfl rfl (xt_buildSlice E25 rfl rfl rfl rfl) ?_
              refine vl_expose 4 (by omega) rfl ?_
              refine vl_weaken 51 rfl ?_
              refine vl_stN ?_
              refine vl_expose 5 (by omega) rfl ?_
              refine vl_weaken 52 rfl ?_
              refine vl_stN ?_
              refine vl_expose 3 (by omega) rfl ?_
              refine vl_weaken 53 rfl ?_
              refine vl_stN ?_
              refine vl_any2 3 8 (by kernel_rfl) ?_ ?_
              · refine sv_light 3 rfl rfl (lt_load_known rfl rfl Try.underlying25 rfl sd) ?_
                refine vl_any1 8 (by kernel_rfl) ?_
                · refine sv_ext 8 rfl rfl (xt_buildSlice E23 rfl rfl rfl rfl) ?_
                  refine vl_any1 9 (by kernel_rfl) ?_
                  · refine sv_one 9 rfl (by kernel_rfl) ?_
                    refine vo_expose 6 (by omega) rfl ?_
                    refine vo_weaken 54 rfl ?_
                    refine vo_stN ?_
                    refine vo_call [0] Try.func36 rfl rfl rfl rfl rfl rfl rfl (one2_sat (list := [[1,1],[-5],[0,1,2,3,4,5,6,7,8,9,10,11,12]]) hc (by omega) (by simp) (by simp)) ?_
                    rintro _ _ ⟨e, he, rfl, rfl⟩
                    refine ⟨Nat.le_of_ble_eq_true rfl, ⟨rfl, rfl, rfl⟩, .inl rfl, ?_⟩
                    refine vo_stN ?_
                    have he2 := sl_he he
                    refine vo_done ⟨rfl, ?_⟩
                    refine vl_any1 10 (by kernel_rfl) ?_
                    · refine sv_one 10 rfl (by kernel_rfl) ?_
                      refine vo_take 1 49 (by omega) rfl rfl (get_intss (k := 0) (by omega)) (plain_ints _) fun Rt => ?_
                      refine vo_stN ?_
                      refine vo_appendU E25 rfl (by omega) rfl rfl rfl sd sd fun Rt2 => ?_
                      refine vo_stN ?_
                      try simp only [app_ints, app_intss, app_bools]
                      refine vo_st (by simp only [← List.map_append]; exact eq_refl _) ?_
                      refine vo_done ⟨rfl, ?_⟩
                      refine vl_light0 11 rfl rfl rfl (by kernel_rfl) (by kernel_rfl) (by kernel_rfl) (wnt_none rfl) (l0_index_ref rfl rfl rfl E23.und inf25 sz25 sd sd) ?_
                      try simp only [Int.toNat_natCast]
                      refine vl_any1 12 (by kernel_rfl) ?_
                      · refine sv_one 12 rfl (by kernel_rfl) ?_
                        refine vo_store_tree rfl rfl (.inr ⟨_, rfl⟩) rfl rfl rfl (fits_of rfl) (fun _ _ _ _ _ h => (own_tp h (plain_ints _)).1.weak) rfl (by omega) (by omega) inf25 sz25 sd ?_
                        refine vo_stN ?_
                        try simp only [set_intss, Int.toNat_natCast]
                        refine vo_done ⟨rfl, ?_⟩
                        refine vl_nil (by kernel_rfl) ?_
                        refine hK16 _ ?_
                        refine vc_seq fun K47 hK47 => ?_
                        refine vc_region ?_
                        refine vo_move_ref rfl rfl ?_
                        refine vo_assign_ref rfl rfl ?_
                        refine vo_nil ?_
                        refine hK47 _ ?_
                        refine vc_ret ?_
                        change retG _ _ _ _ _
                        refine retG_one 1 hC rfl rfl rfl rfl rfl ?_
                        first | exact ⟨_, _, ⟨by omega, fun l hl => by have := hL l hl; omega, by omega⟩, rfl, rfl⟩ | exact ⟨L.set 0 (L.getD 0 [] ++ e), _, ⟨by rw [List.length_set]; omega, sl_app hL he, by omega⟩, rfl, rfl⟩
              · refine sv_ext 8 rfl rfl (xt_buildSlice E23 rfl rfl rfl rfl) ?_
                refine vl_any2 3 9 (by kernel_rfl) ?_ ?_
                · refine sv_light 3 rfl rfl (lt_load_known rfl rfl Try.underlying25 rfl sd) ?_
                  refine vl_any1 9 (by kernel_rfl) ?_
                  · refine sv_one 9 rfl (by kernel_rfl) ?_
                    refine vo_expose 6 (by omega) rfl ?_
                    refine vo_weaken 54 rfl ?_
                    refine vo_stN ?_
                    refine vo_call [0] Try.func36 rfl rfl rfl rfl rfl rfl rfl (one2_sat (list := [[1,1],[-5],[0,1,2,3,4,5,6,7,8,9,10,11,12]]) hc (by omega) (by simp) (by simp)) ?_
                    rintro _ _ ⟨e, he, rfl, rfl⟩
                    refine ⟨Nat.le_of_ble_eq_true rfl, ⟨rfl, rfl, rfl⟩, .inl rfl, ?_⟩
                    refine vo_stN ?_
                    have he2 := sl_he he
                    refine vo_done ⟨rfl, ?_⟩
                    refine vl_any1 10 (by kernel_rfl) ?_
                    · refine sv_one 10 rfl (by kernel_rfl) ?_
                      refine vo_take 1 49 (by omega) rfl rfl (get_intss (k := 0) (by omega)) (plain_ints _) fun Rt => ?_
                      refine vo_stN ?_
                      refine vo_appendU E25 rfl (by omega) rfl rfl rfl sd sd fun Rt2 => ?_
                      refine vo_stN ?_
                      try simp only [app_ints, app_intss, app_bools]
                      refine vo_st (by simp only [← List.map_append]; exact eq_refl _) ?_
                      refine vo_done ⟨rfl, ?_⟩
                      refine vl_light0 11 rfl rfl rfl (by kernel_rfl) (by kernel_rfl) (by kernel_rfl) (wnt_none rfl) (l0_index_ref rfl rfl rfl E23.und inf25 sz25 sd sd) ?_
                      try simp only [Int.toNat_natCast]
                      refine vl_any1 12 (by kernel_rfl) ?_
                      · refine sv_one 12 rfl (by kernel_rfl) ?_
                        refine vo_store_tree rfl rfl (.inr ⟨_, rfl⟩) rfl rfl rfl (fits_of rfl) (fun _ _ _ _ _ h => (own_tp h (plain_ints _)).1.weak) rfl (by omega) (by omega) inf25 sz25 sd ?_
                        refine vo_stN ?_
                        try simp only [set_intss, Int.toNat_natCast]
                        refine vo_done ⟨rfl, ?_⟩
                        refine vl_nil (by kernel_rfl) ?_
                        refine hK16 _ ?_
                        refine vc_seq fun K48 hK48 => ?_
                        refine vc_region ?_
                        refine vo_move_ref rfl rfl ?_
                        refine vo_assign_ref rfl rfl ?_
                        refine vo_nil ?_
                        refine hK48 _ ?_
                        refine vc_ret ?_
                        change retG _ _ _ _ _
                        refine retG_one 1 hC rfl rfl rfl rfl rfl ?_
                        first | exact ⟨_, _, ⟨by omega, fun l hl => by have := hL l hl; omega, by omega⟩, rfl, rfl⟩ | exact ⟨L.set 0 (L.getD 0 [] ++ e), _, ⟨by rw [List.length_set]; omega, sl_app hL he, by omega⟩, rfl, rfl⟩
                · refine sv_one 9 rfl (by kernel_rfl) ?_
                  refine vo_expose 6 (by omega) rfl ?_
                  refine vo_weaken 54 rfl ?_
                  refine vo_stN ?_
                  refine vo_call [0] Try.func36 rfl rfl rfl rfl rfl rfl rfl (one2_sat (list := [[1,1],[-5],[0,1,2,3,4,5,6,7,8,9,10,11,12]]) hc (by omega) (by simp) (by simp)) ?_
                  rintro _ _ ⟨e, he, rfl, rfl⟩
                  refine ⟨Nat.le_of_ble_eq_true rfl, ⟨rfl, rfl, rfl⟩, .inl rfl, ?_⟩
                  refine vo_stN ?_
                  have he2 := sl_he he
                  refine vo_done ⟨rfl, ?_⟩
                  refine vl_any1 3 (by kernel_rfl) ?_
                  · refine sv_light 3 rfl rfl (lt_load_known rfl rfl Try.underlying25 rfl sd) ?_
                    refine vl_any1 10 (by kernel_rfl) ?_
                    · refine sv_one 10 rfl (by kernel_rfl) ?_
                      refine vo_take 1 49 (by omega) rfl rfl (get_intss (k := 0) (by omega)) (plain_ints _) fun Rt => ?_
                      refine vo_stN ?_
                      refine vo_appendU E25 rfl (by omega) rfl rfl rfl sd sd fun Rt2 => ?_
                      refine vo_stN ?_
                      try simp only [app_ints, app_intss, app_bools]
                      refine vo_st (by simp only [← List.map_append]; exact eq_refl _) ?_
                      refine vo_done ⟨rfl, ?_⟩
                      refine vl_light0 11 rfl rfl rfl (by kernel_rfl) (by kernel_rfl) (by kernel_rfl) (wnt_none rfl) (l0_index_ref rfl rfl rfl E23.und inf25 sz25 sd sd) ?_
                      try simp only [Int.toNat_natCast]
                      refine vl_any1 12 (by kernel_rfl) ?_
                      · refine sv_one 12 rfl (by kernel_rfl) ?_
                        refine vo_store_tree rfl rfl (.inr ⟨_, rfl⟩) rfl rfl rfl (fits_of rfl) (fun _ _ _ _ _ h => (own_tp h (plain_ints _)).1.weak) rfl (by omega) (by omega) inf25 sz25 sd ?_
                        refine vo_stN ?_
                        try simp only [set_intss, Int.toNat_natCast]
                        refine vo_done ⟨rfl, ?_⟩
                        refine vl_nil (by kernel_rfl) ?_
                        refine hK16 _ ?_
                        refine vc_seq fun K49 hK49 => ?_
                        refine vc_region ?_
                        refine vo_move_ref rfl rfl ?_
                        refine vo_assign_ref rfl rfl ?_
                        refine vo_nil ?_
                        refine hK49 _ ?_
                        refine vc_ret ?_
                        change retG _ _ _ _ _
                        refine retG_one 1 hC rfl rfl rfl rfl rfl ?_
                        first | exact ⟨_, _, ⟨by omega, fun l hl => by have := hL l hl; omega, by omega⟩, rfl, rfl⟩ | exact ⟨L.set 0 (L.getD 0 [] ++ e), _, ⟨by rw [List.length_set]; omega, sl_app hL he, by omega⟩, rfl, rfl⟩
          · refine sv_ext 6 rfl rfl (xt_buildSlice E25 rfl rfl rfl rfl) ?_
            refine vl_any2 3 5 (by kernel_rfl) ?_ ?_
            · refine sv_light 3 rfl rfl (lt_load_known rfl rfl Try.underlying25 rfl sd) ?_
              refine vl_any1 5 (by kernel_rfl) ?_
              · refine sv_ext 5 rfl rfl (xt_buildSlice E25 rfl rfl rfl rfl) ?_
                refine vl_expose 5 (by omega) rfl ?_
                refine vl_weaken 51 rfl ?_
                refine vl_stN ?_
                refine vl_expose 4 (by omega) rfl ?_
                refine vl_weaken 52 rfl ?_
                refine vl_stN ?_
                refine vl_expose 3 (by omega) rfl ?_
                refine vl_weaken 53 rfl ?_
                refine vl_stN ?_
                refine vl_any1 8 (by kernel_rfl) ?_
                · refine sv_ext 8 rfl rfl (xt_buildSlice E23 rfl rfl rfl rfl) ?_
                  refine vl_any1 9 (by kernel_rfl) ?_
                  · refine sv_one 9 rfl (by kernel_rfl) ?_
                    refine vo_expose 6 (by omega) rfl ?_
                    refine vo_weaken 54 rfl ?_
                    refine vo_stN ?_
                    refine vo_call [0] Try.func36 rfl rfl rfl rfl rfl rfl rfl (one2_sat (list := [[1,1],[-5],[0,1,2,3,4,5,6,7,8,9,10,11,12]]) hc (by omega) (by simp) (by simp)) ?_
                    rintro _ _ ⟨e, he, rfl, rfl⟩
                    refine ⟨Nat.le_of_ble_eq_true rfl, ⟨rfl, rfl, rfl⟩, .inl rfl, ?_⟩
                    refine vo_stN ?_
                    have he2 := sl_he he
                    refine vo_done ⟨rfl, ?_⟩
                    refine vl_any1 10 (by kernel_rfl) ?_
                    · refine sv_one 10 rfl (by kernel_rfl) ?_
                      refine vo_take 1 49 (by omega) rfl rfl (get_intss (k := 0) (by omega)) (plain_ints _) fun Rt => ?_
                      refine vo_stN ?_
                      refine vo_appendU E25 rfl (by omega) rfl rfl rfl sd sd fun Rt2 => ?_
                      refine vo_stN ?_
                      try simp only [app_ints, app_intss, app_bools]
                      refine vo_st (by simp only [← List.map_append]; exact eq_refl _) ?_
                      refine vo_done ⟨rfl, ?_⟩
                      refine vl_light0 11 rfl rfl rfl (by kernel_rfl) (by kernel_rfl) (by kernel_rfl) (wnt_none rfl) (l0_index_ref rfl rfl rfl E23.und inf25 sz25 sd sd) ?_
                      try simp only [Int.toNat_natCast]
                      refine vl_any1 12 (by kernel_rfl) ?_
                      · refine sv_one 12 rfl (by kernel_rfl) ?_
                        refine vo_store_tree rfl rfl (.inr ⟨_, rfl⟩) rfl rfl rfl (fits_of rfl) (fun _ _ _ _ _ h => (own_tp h (plain_ints _)).1.weak) rfl (by omega) (by omega) inf25 sz25 sd ?_
                        refine vo_stN ?_
                        try simp only [set_intss, Int.toNat_natCast]
                        refine vo_done ⟨rfl, ?_⟩
                        refine vl_nil (by kernel_rfl) ?_
                        refine hK16 _ ?_
                        refine vc_seq fun K50 hK50 => ?_
                        refine vc_region ?_
                        refine vo_move_ref rfl rfl ?_
                        refine vo_assign_ref rfl rfl ?_
                        refine vo_nil ?_
                        refine hK50 _ ?_
                        refine vc_ret ?_
                        change retG _ _ _ _ _
                        refine retG_one 1 hC rfl rfl rfl rfl rfl ?_
                        first | exact ⟨_, _, ⟨by omega, fun l hl => by have := hL l hl; omega, by omega⟩, rfl, rfl⟩ | exact ⟨L.set 0 (L.getD 0 [] ++ e), _, ⟨by rw [List.length_set]; omega, sl_app hL he, by omega⟩, rfl, rfl⟩
            · refine sv_ext 5 rfl rfl (xt_buildSlice E25 rfl rfl rfl rfl) ?_
              refine vl_expose 5 (by omega) rfl ?_
              refine vl_weaken 51 rfl ?_
              refine vl_stN ?_
              refine vl_expose 4 (by omega) rfl ?_
              refine vl_weaken 52 rfl ?_
              refine vl_stN ?_
              refine vl_expose 3 (by omega) rfl ?_
              refine vl_weaken 53 rfl ?_
              refine vl_stN ?_
              refine vl_any2 3 8 (by kernel_rfl) ?_ ?_
              · refine sv_light 3 rfl rfl (lt_load_known rfl rfl Try.underlying25 rfl sd) ?_
                refine vl_any1 8 (by kernel_rfl) ?_
                · refine sv_ext 8 rfl rfl (xt_buildSlice E23 rfl rfl rfl rfl) ?_
                  refine vl_any1 9 (by kernel_rfl) ?_
                  · refine sv_one 9 rfl (by kernel_rfl) ?_
                    refine vo_expose 6 (by omega) rfl ?_
                    refine vo_weaken 54 rfl ?_
                    refine vo_stN ?_
                    refine vo_call [0] Try.func36 rfl rfl rfl rfl rfl rfl rfl (one2_sat (list := [[1,1],[-5],[0,1,2,3,4,5,6,7,8,9,10,11,12]]) hc (by omega) (by simp) (by simp)) ?_
                    rintro _ _ ⟨e, he, rfl, rfl⟩
                    refine ⟨Nat.le_of_ble_eq_true rfl, ⟨rfl, rfl, rfl⟩, .inl rfl, ?_⟩
                    refine vo_stN ?_
                    have he2 := sl_he he
                    refine vo_done ⟨rfl, ?_⟩
                    refine vl_any1 10 (by kernel_rfl) ?_
                    · refine sv_one 10 rfl (by kernel_rfl) ?_
                      refine vo_take 1 49 (by omega) rfl rfl (get_intss (k := 0) (by omega)) (plain_ints _) fun Rt => ?_
                      refine vo_stN ?_
                      refine vo_appendU E25 rfl (by omega) rfl rfl rfl sd sd fun Rt2 => ?_
                      refine vo_stN ?_
                      try simp only [app_ints, app_intss, app_bools]
                      refine vo_st (by simp only [← List.map_append]; exact eq_refl _) ?_
                      refine vo_done ⟨rfl, ?_⟩
                      refine vl_light0 11 rfl rfl rfl (by kernel_rfl) (by kernel_rfl) (by kernel_rfl) (wnt_none rfl) (l0_index_ref rfl rfl rfl E23.und inf25 sz25 sd sd) ?_
                      try simp only [Int.toNat_natCast]
                      refine vl_any1 12 (by kernel_rfl) ?_
                      · refine sv_one 12 rfl (by kernel_rfl) ?_
                        refine vo_store_tree rfl rfl (.inr ⟨_, rfl⟩) rfl rfl rfl (fits_of rfl) (fun _ _ _ _ _ h => (own_tp h (plain_ints _)).1.weak) rfl (by omega) (by omega) inf25 sz25 sd ?_
                        refine vo_stN ?_
                        try simp only [set_intss, Int.toNat_natCast]
                        refine vo_done ⟨rfl, ?_⟩
                        refine vl_nil (by kernel_rfl) ?_
                        refine hK16 _ ?_
                        refine vc_seq fun K51 hK51 => ?_
                        refine vc_region ?_
                        refine vo_move_ref rfl rfl ?_
                        refine vo_assign_ref rfl rfl ?_
                        refine vo_nil ?_
                        refine hK51 _ ?_
                        refine vc_ret ?_
                        change retG _ _ _ _ _
                        refine retG_one 1 hC rfl rfl rfl rfl rfl ?_
                        first | exact ⟨_, _, ⟨by omega, fun l hl => by have := hL l hl; omega, by omega⟩, rfl, rfl⟩ | exact ⟨L.set 0 (L.getD 0 [] ++ e), _, ⟨by rw [List.length_set]; omega, sl_app hL he, by omega⟩, rfl, rfl⟩
              · refine sv_ext 8 rfl rfl (xt_buildSlice E23 rfl rfl rfl rfl) ?_
                refine vl_any2 3 9 (by kernel_rfl) ?_ ?_
                · refine sv_light 3 rfl rfl (lt_load_known rfl rfl Try.underlying25 rfl sd) ?_
                  refine vl_any1 9 (by kernel_rfl) ?_
                  · refine sv_one 9 rfl (by kernel_rfl) ?_
                    refine vo_expose 6 (by omega) rfl ?_
                    refine vo_weaken 54 rfl ?_
                    refine vo_stN ?_
                    refine vo_call [0] Try.func36 rfl rfl rfl rfl rfl rfl rfl (one2_sat (list := [[1,1],[-5],[0,1,2,3,4,5,6,7,8,9,10,11,12]]) hc (by omega) (by simp) (by simp)) ?_
                    rintro _ _ ⟨e, he, rfl, rfl⟩
                    refine ⟨Nat.le_of_ble_eq_true rfl, ⟨rfl, rfl, rfl⟩, .inl rfl, ?_⟩
                    refine vo_stN ?_
                    have he2 := sl_he he
                    refine vo_done ⟨rfl, ?_⟩
                    refine vl_any1 10 (by kernel_rfl) ?_
                    · refine sv_one 10 rfl (by kernel_rfl) ?_
                      refine vo_take 1 49 (by omega) rfl rfl (get_intss (k := 0) (by omega)) (plain_ints _) fun Rt => ?_
                      refine vo_stN ?_
                      refine vo_appendU E25 rfl (by omega) rfl rfl rfl sd sd fun Rt2 => ?_
                      refine vo_stN ?_
                      try simp only [app_ints, app_intss, app_bools]
                      refine vo_st (by simp only [← List.map_append]; exact eq_refl _) ?_
                      refine vo_done ⟨rfl, ?_⟩
                      refine vl_light0 11 rfl rfl rfl (by kernel_rfl) (by kernel_rfl) (by kernel_rfl) (wnt_none rfl) (l0_index_ref rfl rfl rfl E23.und inf25 sz25 sd sd) ?_
                      try simp only [Int.toNat_natCast]
                      refine vl_any1 12 (by kernel_rfl) ?_
                      · refine sv_one 12 rfl (by kernel_rfl) ?_
                        refine vo_store_tree rfl rfl (.inr ⟨_, rfl⟩) rfl rfl rfl (fits_of rfl) (fun _ _ _ _ _ h => (own_tp h (plain_ints _)).1.weak) rfl (by omega) (by omega) inf25 sz25 sd ?_
                        refine vo_stN ?_
                        try simp only [set_intss, Int.toNat_natCast]
                        refine vo_done ⟨rfl, ?_⟩
                        refine vl_nil (by kernel_rfl) ?_
                        refine hK16 _ ?_
                        refine vc_seq fun K52 hK52 => ?_
                        refine vc_region ?_
                        refine vo_move_ref rfl rfl ?_
                        refine vo_assign_ref rfl rfl ?_
                        refine vo_nil ?_
                        refine hK52 _ ?_
                        refine vc_ret ?_
                        change retG _ _ _ _ _
                        refine retG_one 1 hC rfl rfl rfl rfl rfl ?_
                        first | exact ⟨_, _, ⟨by omega, fun l hl => by have := hL l hl; omega, by omega⟩, rfl, rfl⟩ | exact ⟨L.set 0 (L.getD 0 [] ++ e), _, ⟨by rw [List.length_set]; omega, sl_app hL he, by omega⟩, rfl, rfl⟩
                · refine sv_one 9 rfl (by kernel_rfl) ?_
                  refine vo_expose 6 (by omega) rfl ?_
                  refine vo_weaken 54 rfl ?_
                  refine vo_stN ?_
                  refine vo_call [0] Try.func36 rfl rfl rfl rfl rfl rfl rfl (one2_sat (list := [[1,1],[-5],[0,1,2,3,4,5,6,7,8,9,10,11,12]]) hc (by omega) (by simp) (by simp)) ?_
                  rintro _ _ ⟨e, he, rfl, rfl⟩
                  refine ⟨Nat.le_of_ble_eq_true rfl, ⟨rfl, rfl, rfl⟩, .inl rfl, ?_⟩
                  refine vo_stN ?_
                  have he2 := sl_he he
                  refine vo_done ⟨rfl, ?_⟩
                  refine vl_any1 3 (by kernel_rfl) ?_
                  · refine sv_light 3 rfl rfl (lt_load_known rfl rfl Try.underlying25 rfl sd) ?_
                    refine vl_any1 10 (by kernel_rfl) ?_
                    · refine sv_one 10 rfl (by kernel_rfl) ?_
                      refine vo_take 1 49 (by omega) rfl rfl (get_intss (k := 0) (by omega)) (plain_ints _) fun Rt => ?_
                      refine vo_stN ?_
                      refine vo_appendU E25 rfl (by omega) rfl rfl rfl sd sd fun Rt2 => ?_
                      refine vo_stN ?_
                      try simp only [app_ints, app_intss, app_bools]
                      refine vo_st (by simp only [← List.map_append]; exact eq_refl _) ?_
                      refine vo_done ⟨rfl, ?_⟩
                      refine vl_light0 11 rfl rfl rfl (by kernel_rfl) (by kernel_rfl) (by kernel_rfl) (wnt_none rfl) (l0_index_ref rfl rfl rfl E23.und inf25 sz25 sd sd) ?_
                      try simp only [Int.toNat_natCast]
                      refine vl_any1 12 (by kernel_rfl) ?_
                      · refine sv_one 12 rfl (by kernel_rfl) ?_
                        refine vo_store_tree rfl rfl (.inr ⟨_, rfl⟩) rfl rfl rfl (fits_of rfl) (fun _ _ _ _ _ h => (own_tp h (plain_ints _)).1.weak) rfl (by omega) (by omega) inf25 sz25 sd ?_
                        refine vo_stN ?_
                        try simp only [set_intss, Int.toNat_natCast]
                        refine vo_done ⟨rfl, ?_⟩
                        refine vl_nil (by kernel_rfl) ?_
                        refine hK16 _ ?_
                        refine vc_seq fun K53 hK53 => ?_
                        refine vc_region ?_
                        refine vo_move_ref rfl rfl ?_
                        refine vo_assign_ref rfl rfl ?_
                        refine vo_nil ?_
                        refine hK53 _ ?_
                        refine vc_ret ?_
                        change retG _ _ _ _ _
                        refine retG_one 1 hC rfl rfl rfl rfl rfl ?_
                        first | exact ⟨_, _, ⟨by omega, fun l hl => by have := hL l hl; omega, by omega⟩, rfl, rfl⟩ | exact ⟨L.set 0 (L.getD 0 [] ++ e), _, ⟨by rw [List.length_set]; omega, sl_app hL he, by omega⟩, rfl, rfl⟩
      · try simp only [decide_eq_true_eq, decide_eq_false_iff_not, beq_iff_eq, bne_iff_ne, beq_eq_false_iff_ne, bne_eq_false_iff_eq, Bool.not_eq_true, Bool.not_eq_false, Bool.not_eq_eq_eq_not, Bool.not_true, Bool.not_false, List.length_map, Int.not_lt, Int.not_le, ne_eq, Decidable.not_not] at hc5
        refine vc_skip ?_
        refine hK16 _ ?_
        refine vc_seq fun K54 hK54 => ?_
        refine vc_region ?_
        refine vo_move_ref rfl rfl ?_
        refine vo_assign_ref rfl rfl ?_
        refine vo_nil ?_
        refine hK54 _ ?_
        refine vc_ret ?_
        change retG _ _ _ _ _
        refine retG_one 1 hC rfl rfl rfl rfl rfl ?_
        first | exact ⟨_, _, ⟨by omega, fun l hl => by have := hL l hl; omega, by omega⟩, rfl, rfl⟩ | exact ⟨L.set 0 (L.getD 0 [] ++ e), _, ⟨by rw [List.length_set]; omega, sl_app hL he, by omega⟩, rfl, rfl⟩
    · try simp only [decide_eq_true_eq, decide_eq_false_iff_not, beq_iff_eq, bne_iff_ne, beq_eq_false_iff_ne, bne_eq_false_iff_eq, Bool.not_eq_true, Bool.not_eq_false, Bool.not_eq_eq_eq_not, Bool.not_true, Bool.not_false, List.length_map, Int.not_lt, Int.not_le, ne_eq, Decidable.not_not] at hg4
      refine vo_guard_off rfl rfl rfl rfl rfl ?_
      refine vo_guard_off rfl rfl rfl rfl rfl ?_
      refine vo_guard_off rfl rfl rfl rfl rfl ?_
      refine vo_pick_f rfl rfl ?_
      refine vo_nil ?_
      refine hK17 _ ?_
      refine vc_cond_f rfl ?_
      refine vc_skip ?_
      refine hK16 _ ?_
      refine vc_seq fun K55 hK55 => ?_
      refine vc_region ?_
      refine vo_move_ref rfl rfl ?_
      refine vo_assign_ref rfl rfl ?_
      refine vo_nil ?_
      refine hK55 _ ?_
      refine vc_ret ?_
      change retG _ _ _ _ _
      refine retG_one 1 hC rfl rfl rfl rfl rfl ?_
      first | exact ⟨_, _, ⟨by omega, fun l hl => by have := hL l hl; omega, by omega⟩, rfl, rfl⟩ | exact ⟨L.set 0 (L.getD 0 [] ++ e), _, ⟨by rw [List.length_set]; omega, sl_app hL he, by omega⟩, rfl, rfl⟩

end Go.Vl

namespace Go.Vl
set_option linter.unusedVariables false
set_option linter.unusedSimpArgs false
open Go.Proofs

theorem lt17 {B : List (List Int)} (h : ∀ l ∈ B, l.length ≤ 17) : ∀ l ∈ B, l.length < 1000000000 := fun l hl => by have := h l hl; omega
theorem lens17 {B : List (List Int)} (h : ∀ l ∈ B, l.length ≤ 17) (n : Nat) : (B.getD n []).length ≤ 17 := by
  by_cases hn : n < B.length
  · exact h _ (getD_mem hn [])
  · simp [List.getD, List.getElem?_eq_none (by omega : B.length ≤ n)]
theorem app17 {B : List (List Int)} {x : List Int} (h : ∀ l ∈ B, l.length ≤ 17) (h2 : x.length ≤ 17) : ∀ l ∈ B ++ [x], l.length ≤ 17 := app_lens h h2

theorem DrawMergeLists_sat {nl : Option Bool} {c : List (Fin 256)} (hl : c.length < 1000000000) : SatAt Try.prog 5 [.pv false (.sl nl 1 (c.map byteP))] [] (fun res rows => ∃ (L : List (List Int)) (f : Bool) (nl5 : Option Bool), (L.length ≤ 4 ∧ (∀ l ∈ L, l.length ≤ 17)) ∧ res = [.pv f (.sl nl5 1 (L.map ints))] ∧ rows = []) := by
  refine sat_entry_g (ts := [2]) Try.func5 rfl rfl (by decide) (Nat.le_of_ble_eq_true rfl) fun C hC => ?_
  rw [Try.ntmps5]
  replace hC : C.nb = 0 := hC
  refine vc_seq fun K1 hK1 => ?_
  refine vc_region ?_
  refine vo_assign_pv rfl rfl ?_
  refine vo_nil ?_
  refine hK1 _ ?_
  refine vc_seq fun K2 hK2 => ?_
  refine vc_region ?_
  refine vo_move_pv rfl rfl ?_
  refine vo_call [] Try.func16 rfl rfl rfl rfl rfl rfl rfl (newReader_sat hl) ?_
  rintro _ _ ⟨nl2, c2, hc, rfl, rfl⟩
  refine ⟨Nat.le_of_ble_eq_true rfl, ⟨rfl, rfl, rfl⟩, .inl rfl, ?_⟩
  refine vo_stN ?_
  refine vo_assign_ptr rfl rfl ?_
  refine vo_nil ?_
  refine hK2 _ ?_
  refine vc_seq fun K3 hK3 => ?_
  refine vc_seq fun K4 hK4 => ?_
  refine vc_region ?_
  refine vo_move_ptr rfl rfl ?_
  refine vo_call [0] Try.func17 rfl rfl rfl rfl rfl rfl rfl (pick_sat hc (by omega)) ?_
  rintro _ _ ⟨x, ⟨hx0, hx1⟩, rfl, rfl⟩
  refine ⟨Nat.le_of_ble_eq_true rfl, ⟨rfl, rfl, rfl⟩, .inl rfl, ?_⟩
  refine vo_stN ?_
  refine vo_binI rfl rfl rfl rfl trivial ?_
  refine vo_nil ?_
  refine hK4 _ ?_
  refine vc_cond rfl (fun hc1 => ?_) (fun hc1 => ?_)
  · try simp only [decide_eq_true_eq, decide_eq_false_iff_not, beq_iff_eq, bne_iff_ne, beq_eq_false_iff_ne, bne_eq_false_iff_eq, Bool.not_eq_true, Bool.not_eq_false, Bool.not_eq_eq_eq_not, Bool.not_true, Bool.not_false, List.length_map, Int.not_lt, Int.not_le, ne_eq, Decidable.not_not] at hc1
    refine vc_seq fun K5 hK5 => ?_
    refine vc_region ?_
    refine vo_move_ptr rfl rfl ?_
    refine vo_call [0] Try.func18 rfl rfl rfl rfl rfl rfl rfl (someBases_sat hc (by omega)) ?_
    rintro _ _ ⟨B, q, ⟨hB, hB2, hB3, hB4⟩, rfl, rfl⟩
    refine ⟨Nat.le_of_ble_eq_true rfl, ⟨rfl, rfl, rfl⟩, .inl rfl, ?_⟩
    refine vo_stN ?_
    refine vo_assign_ref rfl rfl ?_
    refine vo_nil ?_
    refine hK5 _ ?_
    refine vc_seq fun K6 hK6 => ?_
    refine vc_region ?_
    refine vo_buildSlice E23 rfl rfl rfl rfl rfl ?_
    refine vo_assign_ref rfl rfl ?_
    refine vo_nil ?_
    refine hK6 _ ?_
    refine vc_seq fun K7 hK7 => ?_
    refine vc_region ?_
    refine vo_move_ref rfl rfl ?_
    refine vo_len_ref rfl rfl rfl Try.underlying23 ?_
    refine vo_binI rfl rfl rfl rfl sd ?_
    refine vo_assign_pv rfl rfl ?_
    refine vo_nil ?_
    refine hK7 _ ?_
    refine vc_seq fun K8 hK8 => ?_
    refine vc_seq fun K9 hK9 => ?_
    refine vc_region ?_
    refine vo_assign_pv rfl rfl ?_
    refine vo_nil ?_
    refine hK9 _ ?_
    refine vc_block ?_
    refine vc_stN ?_
    refine vc_loop [4, 5, 6, 7] (fun mz vs rows => ∃ (k : Nat) (O : List (List Int)), mz = (B.getD (((B.map ints).length : Int) - 1).toNat []).length - k ∧ (k ≤ (B.getD (((B.map ints).length : Int) - 1).toNat []).length) ∧ (O.length = k) ∧ (∀ l ∈ O, l.length ≤ 17) ∧ vs = [.ref 1, .ref 2, i64 (((B.map ints).length : Int) - 1), i64 k] ∧ rows = [rdr nl2 c2 q, Row.own 25 1 (some false) true (B.map ints), Row.own 25 1 (some false) true (O.map ints)]) ((B.getD (((B.map ints).length : Int) - 1).toNat []).length) (le_len hC rfl) ⟨rfl, rfl⟩ ⟨0, [], rfl, Nat.zero_le _, rfl, (by simp), rfl, rfl⟩ ?_
    rintro mz vs rows - - ⟨k, O, rfl, hk, hO, hO2, rfl, rfl⟩
    have hBl := hB.1
    have hlm : (B.map ints).length = B.length := List.length_map ..
    have hvb := hB.vb hB2
    have hc3l := lens3 hB.lens (((B.map ints).length : Int) - 1).toNat
    have hmm : k < (B.getD (((B.map ints).length : Int) - 1).toNat []).length → (0 ≤ (B.getD (((B.map ints).length : Int) - 1).toNat []).getD k 0 ∧ (B.getD (((B.map ints).length : Int) - 1).toNat []).getD k 0 < B.length) := fun h => by have := hvb.bd (getD_mem h 0); omega
    refine vc_seq fun K10 hK10 => ?_
    refine vc_seq fun K11 hK11 => ?_
    refine vc_region ?_
    refine vo_move_pv rfl rfl ?_
    refine vo_move_ref rfl rfl ?_
    refine vo_move_pv rfl rfl ?_
    refine vo_index_ref rfl rfl rfl rfl E23.und inf25 sz25 sd sd ?_
    try simp only [Int.toNat_natCast]
    refine vo_load_own rfl rfl rfl Try.underlying25 rfl sd (getD_intss _ _) rfl ?_
    try simp only [Int.toNat_natCast]
    refine vo_len_pv rfl rfl Try.underlying25 ?_
    refine vo_binI rfl rfl rfl rfl trivial ?_
    refine vo_nil ?_
    refine hK11 _ ?_
    refine vc_cond rfl (fun hc2 => ?_) (fun hc2 => ?_)
    · try simp only [decide_eq_true_eq, decide_eq_false_iff_not, beq_iff_eq, bne_iff_ne, beq_eq_false_iff_ne, bne_eq_false_iff_eq, Bool.not_eq_true, Bool.not_eq_false, Bool.not_eq_eq_eq_not, Bool.not_true, Bool.not_false, List.length_map, Int.not_lt, Int.not_le, ne_eq, Decidable.not_not] at hc2
      have hcc : k < (B.getD (((B.map ints).length : Int) - 1).toNat []).length := by rw [hlm]; omega
      obtain ⟨hb0, hb1⟩ := hmm hcc
      refine vc_skip ?_
      refine hK10 _ ?_
      refine vc_seq fun K12 hK12 => ?_
      refine vc_block ?_
      refine vc_region ?_
      refine vo_move_ref rfl rfl ?_
      refine vo_move_ref rfl rfl ?_
      refine vo_move_ref rfl rfl ?_
      refine vo_move_pv rfl rfl ?_
      refine vo_index_ref rfl rfl rfl rfl E23.und inf25 sz25 sd sd ?_
      try simp only [Int.toNat_natCast]
      refine vo_load_own rfl rfl rfl Try.underlying25 rfl sd (getD_intss _ _) rfl ?_
      try simp only [Int.toNat_natCast]
      refine vo_move_pv rfl rfl ?_
      refine vo_index_pv (.int .i64 0) rfl rfl rfl E25.und inf3 sz3 sd sd ?_
      simp only [Int.toNat_natCast, Int.toNat_zero, getD_ints, getD_intss, getD_bools, getD_bytes, PV.cells]
      refine vo_load_adr rfl rfl Try.underlying3 rfl ?_
      refine vo_call [] Try.func19 rfl rfl rfl rfl rfl rfl rfl (orderOf_satI (bases := B) (x := (B.getD (((B.map ints).length : Int) - 1).toNat []).getD k 0) (by omega) (lt3 hB.lens) hvb hb0 hb1) ?_
      rintro _ _ ⟨nl6, rfl, rfl⟩
      refine ⟨Nat.le_of_ble_eq_true rfl, ⟨rfl, rfl, rfl⟩, .inr ⟨rfl, rfl⟩, ?_⟩
      refine vo_stN ?_
      refine vo_expose 3 (by omega) rfl ?_
      refine vo_weaken 37 rfl ?_
      refine vo_stN ?_
      refine vo_buildSlice E23 rfl rfl rfl rfl rfl ?_
      refine vo_append E23 rfl (by omega) rfl rfl rfl sd sd ?_
      refine vo_stN ?_
      try simp only [app_ints, app_intss, app_bools]
      refine vo_assign_ref rfl rfl ?_
      refine vo_nil ?_
      refine hK12 _ ?_
      refine vc_region ?_
      refine vo_move_pv rfl rfl ?_
      refine vo_binI rfl rfl rfl rfl sd ?_
      refine vo_assign_pv rfl rfl ?_
      refine vo_nil ?_
      change again _ _ _ _ _ _
      refine again_mk rfl rfl rfl rfl ⟨_, ?_, k + 1, O ++ [ordM B ((B.getD (((B.map ints).length : Int) - 1).toNat []).getD k 0).toNat], rfl, ?_, ?_, ?_, rfl, rfl⟩
      · omega
      · omega
      · rw [List.length_append, List.length_singleton]; omega
      · exact app17 hO2 (by have := ordM_len hvb (show ((B.getD (((B.map ints).length : Int) - 1).toNat []).getD k 0).toNat < B.length by omega); omega)
    · try simp only [decide_eq_true_eq, decide_eq_false_iff_not, beq_iff_eq, bne_iff_ne, beq_eq_false_iff_ne, bne_eq_false_iff_eq, Bool.not_eq_true, Bool.not_eq_false, Bool.not_eq_eq_eq_not, Bool.not_true, Bool.not_false, List.length_map, Int.not_lt, Int.not_le, ne_eq, Decidable.not_not] at hc2
      refine vc_exit ?_
      refine hK8 _ ?_
      refine vc_seq fun K13 hK13 => ?_
      refine vc_region ?_
      refine vo_move_ref rfl rfl ?_
      refine vo_move_ref rfl rfl ?_
      refine vo_move_pv rfl rfl ?_
      refine vo_index_ref rfl rfl rfl rfl E23.und inf25 sz25 sd sd ?_
      try simp only [Int.toNat_natCast]
      refine vo_load_own rfl rfl rfl Try.underlying25 rfl sd (getD_intss _ _) rfl ?_
      try simp only [Int.toNat_natCast]
      refine vo_weaken 44 rfl ?_
      refine vo_buildSlice E23 rfl rfl rfl rfl rfl ?_
      refine vo_append E23 rfl (by omega) rfl rfl rfl sd sd ?_
      refine vo_stN ?_
      try simp only [app_ints, app_intss, app_bools]
      refine vo_assign_ref rfl rfl ?_
      refine vo_expose 2 (by omega) rfl ?_
      refine vo_stN ?_
      refine vo_nil ?_
      refine hK13 _ ?_
      refine vc_ret ?_
      change retG _ _ _ _ _
      refine retG_sel [] [] hC rfl rfl rfl rfl rfl rfl ?_
      exact ⟨_, _, _, ⟨by rw [List.length_append, List.length_singleton]; omega, app17 hO2 (by omega)⟩, rfl, rfl⟩
  · try simp only [decide_eq_true_eq, decide_eq_false_iff_not, beq_iff_eq, bne_iff_ne, beq_eq_false_iff_ne, bne_eq_false_iff_eq, Bool.not_eq_true, Bool.not_eq_false, Bool.not_eq_eq_eq_not, Bool.not_true, Bool.not_false, List.length_map, Int.not_lt, Int.not_le, ne_eq, Decidable.not_not] at hc1
    refine vc_skip ?_
    refine hK3 _ ?_
    refine vc_seq fun K14 hK14 => ?_
    refine vc_region ?_
    refine vo_move_ptr rfl rfl ?_
    refine vo_call [0] Try.func20 rfl rfl rfl rfl rfl rfl rfl (someLists_sat hc (by omega)) ?_
    rintro _ _ ⟨L, q, ⟨g1, g2, g3⟩, rfl, rfl⟩
    refine ⟨Nat.le_of_ble_eq_true rfl, ⟨rfl, rfl, rfl⟩, .inl rfl, ?_⟩
    refine vo_stN ?_
    refine vo_assign_ref rfl rfl ?_
    refine vo_treeown 1 (by omega) rfl ?_
    refine vo_stN ?_
    refine vo_expose 1 (by omega) rfl ?_
    refine vo_stN ?_
    refine vo_nil ?_
    refine hK14 _ ?_
    refine vc_ret ?_
    change retG _ _ _ _ _
    refine retG_sel [] [] hC rfl rfl rfl rfl rfl rfl ?_
    exact ⟨L, _, _, ⟨g1, g2⟩, rfl, rfl⟩

end Go.Vl

namespace Go.Vl
set_option linter.unusedVariables false
set_option linter.unusedSimpArgs false
open Go.Proofs

theorem merge_sub : ∀ (n : Nat) (ls : List (List Int)), hds (mergeF n ls).2 = [] → ∀ l ∈ ls, l.Sublist (mergeF n ls).1
  | 0, ls, h, l, hl => by rw [hds_nil.1 h l hl]; exact List.nil_sublist _
  | n+1, ls, h, l, hl => by
    unfold mergeF at h ⊢
    split at h
    · rename_i e
      simp only [e]
      rw [hds_nil.1 h l hl]; exact List.nil_sublist _
    · rename_i x e
      simp only [e]
      have h1 := merge_sub n (ls.map (tk x)) h (tk x l) (List.mem_map_of_mem hl)
      by_cases h2 : 0 < l.length ∧ l.getD 0 0 = x
      · rw [tk_t h2.1 h2.2] at h1
        cases l with
        | nil => exact List.nil_sublist _
        | cons y l =>
          have : y = x := h2.2
          rw [this]
          exact List.Sublist.cons_cons x h1
      · rw [tk_f h2] at h1
        exact List.Sublist.cons x h1

theorem fM_eq3 (x : Int) : ∀ (l : List Int) (i : Int), fM x l i = findM x l i
  | [], _ => rfl
  | y :: l, i => by unfold fM findM; rw [fM_eq3 x l (i+1)]
theorem find_ge (x : Int) : ∀ (l : List Int) (i : Int), 0 ≤ findM x l i → i ≤ findM x l i
  | [], i, h => by simp [findM] at h
  | y :: l, i, h => by
    unfold findM at h ⊢
    split
    · exact Int.le_refl _
    · rename_i hy
      rw [if_neg hy] at h
      have := find_ge x l (i+1) h
      omega
/-- Behind the first place. -/
theorem bhd_cons {x y : Int} {l : List Int} : bhd x (y :: l) ↔ y ≠ x ∧ x ∈ l := by
  unfold bhd
  rw [fM_eq3]
  by_cases h : y = x
  · simp [findM, h]
  · have e : findM x (y :: l) 0 = findM x l 1 := by show (if y = x then _ else _) = _; rw [if_neg h]; rfl
    rw [e]
    constructor
    · intro h2; exact ⟨h, (findM_mem x l 1 (by omega)).1 (by omega)⟩
    · rintro ⟨_, h2⟩
      have h3 := (findM_mem x l 1 (by omega)).2 h2
      have := find_ge x l 1 h3
      omega
theorem bhd_suf {x : Int} {l l' : List Int} (h : l' <:+ l) (hn : l.Nodup) (hb : bhd x l') : bhd x l := by
  obtain ⟨t, rfl⟩ := h
  cases t with
  | nil => exact hb
  | cons y t =>
    have hm : x ∈ l' := by
      cases l' with
      | nil => exact absurd hb (by unfold bhd; simp [fM])
      | cons z r => exact List.mem_cons_of_mem _ (bhd_cons.1 hb).2
    refine bhd_cons.2 ⟨fun e => ?_, List.mem_append_right _ hm⟩
    subst e
    exact (List.nodup_cons.1 hn).1 (List.mem_append_right _ hm)
theorem tk_suf (x : Int) (l : List Int) : tk x l <:+ l := by
  unfold tk; split
  · exact List.drop_suffix 1 l
  · exact List.suffix_refl l
theorem rest_suf : ∀ (n : Nat) (ls : List (List Int)), ∀ l' ∈ (mergeF n ls).2, ∃ l ∈ ls, l' <:+ l
  | 0, ls, l', h => ⟨l', h, List.suffix_refl _⟩
  | n+1, ls, l', h => by
    unfold mergeF at h
    split at h
    · exact ⟨l', h, List.suffix_refl _⟩
    · rename_i x hx
      obtain ⟨l, h1, h2⟩ := rest_suf n _ l' h
      obtain ⟨l0, h3, rfl⟩ := List.mem_map.1 h1
      exact ⟨l0, h3, h2.trans (tk_suf _ _)⟩
theorem rest_stuck : ∀ (n : Nat) (ls : List (List Int)), tot ls ≤ n → fhM (mergeF n ls).2 = none := by
  intro n
  induction n with
  | zero =>
    intro ls h
    show fhM ls = none
    cases e : fhM ls with
    | none => rfl
    | some x => have := fhM_tot e; omega
  | succ n ih =>
    intro ls h
    cases e : fhM ls with
    | none => rw [mergeF_none e]; exact e
    | some x =>
      rw [mergeF_some e h]
      exact ih _ (by have := fhM_tot e; omega)
theorem fhF_none {all : List (List Int)} : ∀ {ls : List (List Int)}, fhF all ls = none → ∀ l ∈ ls, freeH all l = none
  | [], _, l, h => by cases h
  | a :: r, h, l, hl => by
    unfold fhF at h
    split at h
    · cases h
    · rename_i e
      rcases List.mem_cons.1 hl with rfl | hl
      · exact e
      · exact fhF_none h l hl
theorem stuck_beh {ls : List (List Int)} (h : fhM ls = none) {l : List Int} (hl : l ∈ ls) (hp : 0 < l.length) : anyB ls (l.getD 0 0) := by
  have h1 := fhF_none h l hl
  unfold freeH at h1
  split at h1
  · cases h1
  · rename_i h2
    exact Classical.byContradiction fun h3 => h2 ⟨hp, h3⟩
theorem hds_mem {ls : List (List Int)} {x : Int} : x ∈ hds ls ↔ ∃ l ∈ ls, 0 < l.length ∧ l.getD 0 0 = x := by
  unfold hds
  rw [List.mem_flatMap]
  constructor
  · rintro ⟨l, h1, h2⟩
    cases l with
    | nil => simp [hd1] at h2
    | cons y l => exact ⟨_, h1, by simp, (List.mem_singleton.1 h2).symm⟩
  · rintro ⟨l, h1, h2, h3⟩
    cases l with
    | nil => simp at h2
    | cons y l => exact ⟨_, h1, List.mem_singleton.2 h3.symm⟩
theorem once_mem3 : ∀ (l acc : List Int) (x : Int), x ∈ onceF acc l ↔ x ∈ acc ∨ x ∈ l
  | [], acc, x => by simp [onceF]
  | y :: l, acc, x => by
    unfold onceF
    rw [once_mem3 l _ x]
    split
    · rename_i h
      constructor
      · rintro (h1 | h1)
        · exact .inl h1
        · exact .inr (List.mem_cons_of_mem _ h1)
      · rintro (h1 | h1)
        · exact .inl h1
        · rcases List.mem_cons.1 h1 with rfl | h1
          · exact .inl h
          · exact .inr h1
    · simp only [List.mem_append, List.mem_cons, List.not_mem_nil, or_false]
      constructor
      · rintro ((h1 | h1) | h1)
        · exact .inl h1
        · exact .inr (.inl h1)
        · exact .inr (.inr h1)
      · rintro (h1 | h1 | h1)
        · exact .inl (.inl h1)
        · exact .inl (.inr h1)
        · exact .inr h1
theorem once_nodup3 : ∀ (l acc : List Int), acc.Nodup → (onceF acc l).Nodup
  | [], acc, h => h
  | y :: l, acc, h => by
    unfold onceF
    split
    · exact once_nodup3 l acc h
    · rename_i hy; exact once_nodup3 l _ (nodup_snoc h hy)
/-- What is said of the heads that are stuck. -/
structure SkL (L : List (List Int)) : Prop where
  ok : OKLs L
  beh : ∀ x ∈ skR L, ∃ l ∈ L, bhd x l
  nod : (skR L).Nodup
  two : 2 ≤ (skR L).length
  no : ¬ mgOK L
theorem skL_of {L : List (List Int)} (h : skR L ≠ []) : SkL L := by
  have hok : OKLs L := Classical.byContradiction fun h2 => h (skR_no h2)
  have e := skR_yes hok
  have hst := rest_stuck (tot L) L (Nat.le_refl _)
  have hbeh : ∀ x ∈ skR L, ∃ l ∈ (mergeM L).2, bhd x l := by
    intro x hx
    rw [e] at hx
    rcases (once_mem3 _ [] x).1 hx with h1 | h1
    · cases h1
    · obtain ⟨l, h2, h3, h4⟩ := hds_mem.1 h1
      have := stuck_beh hst h2 h3
      rw [h4] at this
      exact this
  have hnod : (skR L).Nodup := by rw [e]; exact once_nodup3 _ _ List.nodup_nil
  refine ⟨hok, fun x hx => ?_, hnod, ?_, fun hm => h (by rw [e, hm.2]; rfl)⟩
  · obtain ⟨l', h1, h2⟩ := hbeh x hx
    obtain ⟨l, h3, h4⟩ := rest_suf _ _ l' h1
    exact ⟨l, h3, bhd_suf h4 (hok.1 l h3).2 h2⟩
  · obtain ⟨x, hx⟩ : ∃ x, x ∈ skR L := by
      cases hs : skR L with
      | nil => exact absurd hs h
      | cons x r => exact ⟨x, List.mem_cons_self⟩
    obtain ⟨l', h1, h2⟩ := hbeh x hx
    cases l' with
    | nil => exact absurd h2 (by unfold bhd; simp [fM])
    | cons y r =>
      have hy : y ∈ skR L := by
        rw [e]
        exact (once_mem3 _ [] y).2 (.inr (hds_mem.2 ⟨_, h1, by simp, rfl⟩))
      have hne := (bhd_cons.1 h2).1
      cases hs : skR L with
      | nil => exact absurd hs h
      | cons a t =>
        cases t with
        | nil =>
          rw [hs] at hx hy
          rw [List.mem_singleton.1 hx, List.mem_singleton.1 hy] at hne
          exact absurd rfl hne
        | cons b t => simp
theorem keepP_of {a b : List Int} (ha : OKL a 12) (hb : OKL b 12) (h : b.Sublist a) : KeepP a b :=
  ⟨ha, hb, (kpN_sub b a 0 (Nat.zero_le _)).2 (by simpa using h)⟩
theorem keepP_sub {a b : List Int} (h : KeepP a b) : b.Sublist a := by
  have := (kpN_sub b a 0 (Nat.zero_le _)).1 h.2.2
  simpa using this
/-- What is said of a merge. -/
structure MgL (L : List (List Int)) : Prop where
  ok : OKLs L
  sub : ∀ l ∈ L, l.Sublist (mgR L)
  mem : ∀ x ∈ mgR L, ∃ l ∈ L, x ∈ l
  nod : (mgR L).Nodup
  sk : skR L = []
theorem mgL_of {L : List (List Int)} (h : mgOK L) : MgL L := by
  have e := mgR_yes h
  refine ⟨h.1, ?_, ?_, ?_, ?_⟩
  · rw [e]; exact merge_sub _ _ h.2
  · rw [e]; exact fun x hx => mergeF_mem _ _ x hx
  · rw [e]; exact mergeF_nodup _ _ fun l hl => (h.1.1 l hl).2
  · rw [skR_yes h.1, h.2]; rfl
theorem fhF_eq {all : List (List Int)} {x : Int} : ∀ {ls : List (List Int)}, (∀ l ∈ ls, ∀ y, freeH all l = some y → y = x) → (∃ l ∈ ls, freeH all l = some x) → fhF all ls = some x
  | [], _, ⟨l, h, _⟩ => by cases h
  | a :: r, h1, ⟨l, hl, h2⟩ => by
    unfold fhF
    split
    · rename_i y hy
      rw [h1 a List.mem_cons_self y hy]
    · rename_i hy
      rcases List.mem_cons.1 hl with rfl | hl
      · rw [h2] at hy; cases hy
      · exact fhF_eq (fun l hl => h1 l (List.mem_cons_of_mem _ hl)) ⟨l, hl, h2⟩
theorem merge_self : ∀ (n : Nat) (o : List Int) (ls : List (List Int)), o.Nodup → tot ls ≤ n → (∀ l ∈ ls, l.Sublist o) → o ∈ ls → (mergeF n ls).1 = o ∧ hds (mergeF n ls).2 = [] := by
  intro n
  induction n with
  | zero =>
    intro o ls hn ht hs ho
    have h0 : o = [] := by have := tot_mem ho; exact List.eq_nil_of_length_eq_zero (by omega)
    subst h0
    exact ⟨rfl, hds_nil.2 fun l hl => List.sublist_nil.1 (hs l hl)⟩
  | succ n ih =>
    intro o ls hn ht hs ho
    cases o with
    | nil =>
      have hnil : ∀ l ∈ ls, l = [] := fun l hl => List.sublist_nil.1 (hs l hl)
      have hno : fhM ls = none := by
        cases e : fhM ls with
        | none => rfl
        | some x =>
          obtain ⟨l, h1, h2, _⟩ := fhF_some e
          rw [hnil l h1] at h2; simp at h2
      rw [mergeF_none hno]
      exact ⟨rfl, hds_nil.2 hnil⟩
    | cons x o =>
      obtain ⟨hx, hno⟩ := List.nodup_cons.1 hn
      have hform : ∀ l ∈ ls, l.Sublist o ∨ ∃ r, l = x :: r ∧ r.Sublist o := by
        intro l hl
        rcases List.sublist_cons_iff.1 (hs l hl) with h | h
        · exact .inl h
        · exact .inr h
      have hfree : ¬ anyB ls x := by
        rintro ⟨l, hl, hb⟩
        rcases hform l hl with h | ⟨r, rfl, h⟩
        · cases l with
          | nil => exact absurd hb (by unfold bhd; simp [fM])
          | cons y r => exact hx (h.mem (List.mem_cons_of_mem _ (bhd_cons.1 hb).2))
        · exact (bhd_cons.1 hb).1 rfl
      have hfh : fhM ls = some x := by
        refine fhF_eq (fun l hl y hy => ?_) ⟨x :: o, ho, freeH_t (by simp) hfree⟩
        unfold freeH at hy
        split at hy
        · rename_i h2
          cases hy
          rcases hform l hl with h | ⟨r, rfl, h⟩
          · have hm : l.getD 0 0 ∈ o := h.mem (getD_mem h2.1 0)
            exact absurd ⟨x :: o, ho, bhd_cons.2 ⟨fun e => hx (by rw [e]; exact hm), hm⟩⟩ h2.2
          · rfl
        · cases hy
      have htk : ∀ l ∈ ls, (tk x l).Sublist o := by
        intro l hl
        rcases hform l hl with h | ⟨r, rfl, h⟩
        · exact (tk_suf x l).sublist.trans h
        · rw [tk_t (x := x) (l := x :: r) (by simp) rfl]; exact h
      obtain ⟨a1, a2⟩ := ih o (ls.map (tk x)) hno (by have := fhM_tot hfh; omega) (fun l hl => by obtain ⟨l0, h3, rfl⟩ := List.mem_map.1 hl; exact htk l0 h3) (List.mem_map.2 ⟨x :: o, ho, by rw [tk_t (x := x) (l := x :: o) (by simp) rfl]; rfl⟩)
      rw [mergeF_some hfh ht]
      exact ⟨by show x :: (mergeF n _).1 = _; rw [a1], a2⟩
theorem mg_self {o : List Int} {ls : List (List Int)} (hok : OKLs ls) (ho : o ∈ ls) (hs : ∀ l ∈ ls, l.Sublist o) : mgOK ls ∧ mgR ls = o := by
  obtain ⟨a1, a2⟩ := merge_self (tot ls) o ls (hok.1 o ho).2 (Nat.le_refl _) hs ho
  have h : mgOK ls := ⟨hok, a2⟩
  exact ⟨h, by rw [mgR_yes h]; exact a1⟩

end Go.Vl

namespace Go.Vl
set_option linter.unusedVariables false
set_option linter.unusedSimpArgs false
open Go.Proofs

/-- Orders that keep lists, by what is left. -/
def sN : Nat → List (List Int) → List Int → Int
  | 0, _, _ => 1
  | n+1, ls, left => (left.map fun x => if anyB ls x then 0 else sN n (ls.map (tk x)) (left.erase x)).sum
def gS (n : Nat) (ls : List (List Int)) (left : List Int) (x : Int) : Int := if anyB ls x then 0 else sN n (ls.map (tk x)) (left.erase x)
theorem sN_succ (n : Nat) (ls : List (List Int)) (left : List Int) : sN (n+1) ls left = (left.map (gS n ls left)).sum := rfl
theorem sum_bd {f : Int → Int} {M : Int} (hM : 0 ≤ M) (h : ∀ x, 0 ≤ f x ∧ f x ≤ M) : ∀ l : List Int, 0 ≤ (l.map f).sum ∧ (l.map f).sum ≤ (l.length : Int) * M
  | [] => by simp
  | x :: l => by
    have h1 := sum_bd hM h l
    have h2 := h x
    rw [List.map_cons, List.sum_cons, List.length_cons, Int.natCast_add, Int.add_mul]
    omega
theorem sN_bd : ∀ (n : Nat) (ls : List (List Int)) (left : List Int), left.length ≤ 7 → 0 ≤ sN n ls left ∧ sN n ls left ≤ 7 ^ n
  | 0, _, _, _ => by simp [sN]
  | n+1, ls, left, h => by
    have hM : (0 : Int) ≤ 7 ^ n := Int.pow_nonneg (by omega)
    have h1 : ∀ x, 0 ≤ gS n ls left x ∧ gS n ls left x ≤ 7 ^ n := by
      intro x
      unfold gS
      split
      · exact ⟨Int.le_refl _, hM⟩
      · exact sN_bd n _ _ (Nat.le_trans (List.length_erase_le ..) h)
    have h2 := sum_bd hM h1 left
    rw [sN_succ]
    refine ⟨h2.1, Int.le_trans h2.2 ?_⟩
    rw [Int.pow_succ, Int.mul_comm (7 ^ n) 7]
    exact Int.mul_le_mul_of_nonneg_right (by omega) hM
theorem pow7 {n : Nat} (h : n ≤ 7) : (7 : Int) ^ n ≤ 823543 := by
  rcases n with _ | _ | _ | _ | _ | _ | _ | _ | n
  all_goals first | omega | decide
theorem gS_bd {n : Nat} {ls : List (List Int)} {left : List Int} (h : left.length ≤ 7) (hn : n ≤ 7) (x : Int) : 0 ≤ gS n ls left x ∧ gS n ls left x ≤ 823543 := by
  unfold gS
  split
  · omega
  · have h1 := sN_bd n (ls.map (tk x)) (left.erase x) (Nat.le_trans (List.length_erase_le ..) h)
    have := pow7 hn
    omega
theorem gsum_bd {n : Nat} {ls : List (List Int)} {left l : List Int} (h : left.length ≤ 7) (hn : n ≤ 7) : 0 ≤ (l.map (gS n ls left)).sum ∧ (l.map (gS n ls left)).sum ≤ (l.length : Int) * 823543 := sum_bd (by omega) (gS_bd h hn) l
theorem gsum_take {n : Nat} {ls : List (List Int)} {left l : List Int} {k : Nat} (h : k < l.length) : ((l.take (k+1)).map (gS n ls left)).sum = ((l.take k).map (gS n ls left)).sum + gS n ls left (l.getD k 0) := by
  rw [List.take_succ_eq_append_getElem h, List.map_append, List.sum_append, getD_at h]; simp
theorem gS_no {n : Nat} {ls : List (List Int)} {left : List Int} {x : Int} (h : anyB ls x) : gS n ls left x = 0 := if_pos h
theorem gS_yes {n : Nat} {ls : List (List Int)} {left : List Int} {x : Int} (h : ¬ anyB ls x) : gS n ls left x = sN n (ls.map (tk x)) (left.erase x) := if_neg h
theorem erase_ix : ∀ {l : List Int}, l.Nodup → ∀ {k : Nat}, k < l.length → l.eraseIdx k = l.erase (l.getD k 0)
  | [], _, k, h => by simp at h
  | x :: l, _, 0, _ => by show l = (x :: l).erase x; rw [List.erase_cons_head]
  | x :: l, hn, k + 1, h => by
    obtain ⟨h1, h2⟩ := List.nodup_cons.1 hn
    have hk : k < l.length := by simpa using h
    have hm : l.getD k 0 ∈ l := getD_mem hk 0
    have hne : x ≠ l.getD k 0 := fun e => h1 (by rw [e]; exact hm)
    show x :: l.eraseIdx k = (x :: l).erase (l.getD k 0)
    rw [List.erase_cons_tail (by simpa using hne), erase_ix h2 hk]
theorem perm_sum {f : Int → Int} {a b : List Int} (h : a.Perm b) : (a.map f).sum = (b.map f).sum := by
  induction h with
  | nil => rfl
  | cons x _ ih => simp [ih]
  | swap x y l => simp only [List.map_cons, List.sum_cons]; omega
  | trans _ _ h1 h2 => exact h1.trans h2
theorem sum_filter {f : Int → Int} {p : Int → Bool} (h : ∀ x, p x = false → f x = 0) : ∀ l : List Int, (l.map f).sum = ((l.filter p).map f).sum
  | [] => rfl
  | x :: l => by
    rw [List.map_cons, List.sum_cons, sum_filter h l, List.filter_cons]
    cases hp : p x
    · rw [h x hp]; simp
    · simp
/-- What is left is what the lists have. -/
structure InvL (ls : List (List Int)) (left : List Int) : Prop where
  nd : ∀ l ∈ ls, l.Nodup
  ln : left.Nodup
  mem : ∀ x, x ∈ left ↔ ∃ l ∈ ls, x ∈ l
theorem InvL.nil {ls : List (List Int)} {left : List Int} (h : InvL ls left) : left = [] ↔ hds ls = [] := by
  rw [hds_nil]
  constructor
  · intro e l hl
    cases l with
    | nil => rfl
    | cons y l => have := (h.mem y).2 ⟨_, hl, List.mem_cons_self⟩; rw [e] at this; cases this
  · intro e
    cases left with
    | nil => rfl
    | cons x l =>
      obtain ⟨l, h1, h2⟩ := (h.mem x).1 List.mem_cons_self
      rw [e l h1] at h2; cases h2
theorem InvL.head {ls : List (List Int)} {left : List Int} (h : InvL ls left) {x : Int} (hx : x ∈ left) (hb : ¬ anyB ls x) : x ∈ hds ls := by
  obtain ⟨l, h1, h2⟩ := (h.mem x).1 hx
  cases l with
  | nil => cases h2
  | cons y l =>
    refine hds_mem.2 ⟨_, h1, by simp, ?_⟩
    rcases List.mem_cons.1 h2 with rfl | h3
    · rfl
    · by_cases hy : y = x
      · exact hy
      · exact absurd ⟨_, h1, bhd_cons.2 ⟨hy, h3⟩⟩ hb
theorem InvL.hmem {ls : List (List Int)} {left : List Int} (h : InvL ls left) {x : Int} (hx : x ∈ hds ls) : x ∈ left := by
  obtain ⟨l, h1, h2, h3⟩ := hds_mem.1 hx
  exact (h.mem x).2 ⟨l, h1, by rw [← h3]; exact getD_mem h2 0⟩
theorem InvL.step {ls : List (List Int)} {left : List Int} (h : InvL ls left) {x : Int} (hb : ¬ anyB ls x) : InvL (ls.map (tk x)) (left.erase x) := by
  refine ⟨fun l' hl => ?_, h.ln.erase _, fun y => ?_⟩
  · obtain ⟨l, h1, rfl⟩ := List.mem_map.1 hl
    exact tk_nodup (h.nd l h1)
  · rw [h.ln.mem_erase_iff, h.mem]
    constructor
    · rintro ⟨hne, l, h1, h2⟩
      refine ⟨tk x l, List.mem_map_of_mem h1, ?_⟩
      cases l with
      | nil => cases h2
      | cons z l =>
        by_cases hz : z = x
        · rw [tk_t (x := x) (l := z :: l) (by simp) hz]
          rcases List.mem_cons.1 h2 with h3 | h3
          · exact absurd (h3.trans hz) hne
          · exact h3
        · rw [tk_f (x := x) (l := z :: l) (fun h => hz h.2)]; exact h2
    · rintro ⟨l', h1, h2⟩
      obtain ⟨l, h3, rfl⟩ := List.mem_map.1 h1
      refine ⟨fun e => ?_, l, h3, tk_sub h2⟩
      subst e
      exact tk_not (h.nd l h3) (fun hbl => hb ⟨l, h3, hbl⟩) h2
theorem InvL.sum {ls : List (List Int)} {left : List Int} (h : InvL ls left) (n : Nat) : ((onceF [] (hds ls)).map (gS n ls left)).sum = (left.map (gS n ls left)).sum := by
  have h0 : ∀ x, (decide (¬ anyB ls x)) = false → gS n ls left x = 0 := fun x hx => gS_no (by simpa using hx)
  rw [sum_filter (p := fun x => decide (¬ anyB ls x)) h0 (onceF [] (hds ls)), sum_filter (p := fun x => decide (¬ anyB ls x)) h0 left]
  refine perm_sum ?_
  refine (List.perm_ext_iff_of_nodup ((once_nodup3 _ _ List.nodup_nil).filter _) (h.ln.filter _)).2 fun x => ?_
  rw [List.mem_filter, List.mem_filter, once_mem3]
  constructor
  · rintro ⟨h1 | h1, h2⟩
    · cases h1
    · exact ⟨h.hmem h1, h2⟩
  · rintro ⟨h1, h2⟩
    exact ⟨.inr (h.head h1 (by simpa using h2)), h2⟩
/-- All numbers of lists, once. -/
def numM (ls : List (List Int)) : List Int := onceF [] ls.flatten
theorem numM_inv {ls : List (List Int)} (h : ∀ l ∈ ls, l.Nodup) : InvL ls (numM ls) :=
  ⟨h, once_nodup3 _ _ List.nodup_nil, fun x => by unfold numM; rw [once_mem3, List.mem_flatten]; simp⟩
def coP (ls : List (List Int)) : Prop := OKLs ls ∧ (numM ls).length ≤ 7
instance {ls : List (List Int)} : Decidable (coP ls) := by unfold coP; infer_instance
def coR (ls : List (List Int)) : Int := if coP ls then sN (numM ls).length ls (numM ls) else -1

end Go.Vl

namespace Go.Vl
set_option linter.unusedVariables false
set_option linter.unusedSimpArgs false
open Go.Proofs

theorem dr_eq2 {l : List Int} {i : Nat} : List.take ((l.map intP).length - ((i : Int) + 1).toNat) (l.drop ((i : Int) + 1).toNat) = l.drop (i+1) := by
  rw [show ((i : Int) + 1).toNat = i + 1 by omega, List.take_of_length_le (by rw [List.length_drop, List.length_map]; exact Nat.le_refl _)]
theorem er_app {l : List Int} {i : Nat} : l.take i ++ l.drop (i+1) = l.eraseIdx i := (List.eraseIdx_eq_take_drop_succ l i).symm
theorem tk_lens {ls : List (List Int)} {x : Int} {N : Nat} (h : ∀ l ∈ ls, l.length < N) : ∀ l ∈ ls.map (tk x), l.length < N := mg_len h

theorem countFrom_step {left : List Int} {nl0 : Option Bool} {lists : List (List Int)} (hlists : lists.length < 1000000000) (hllists : ∀ l ∈ lists, l.length < 1000000000) (hi : InvL lists left) (h7 : left.length ≤ 7) (ih : ∀ (ls2 : List (List Int)) (left2 : List Int) (n1 : Option Bool), ls2.length < 1000000000 → (∀ l ∈ ls2, l.length < 1000000000) → InvL ls2 left2 → left2.length < left.length → SatAt Try.prog 28 [.pv false (.sl n1 1 (ls2.map ints))] [] (fun res rows => res = [i64 (sN left2.length ls2 left2)] ∧ rows = [])) : SatAt Try.prog 28 [.pv false (.sl nl0 1 (lists.map ints))] [] (fun res rows => res = [i64 (sN left.length lists left)] ∧ rows = []) := by
  have hol := onceL_len (hds lists)
  have hhl := hds_len lists
  refine sat_entry (ts := [2]) Try.func28 rfl rfl (by decide) (Nat.le_of_ble_eq_true rfl) fun C hC => ?_
  rw [Try.ntmps28]
  replace hC : C.nb = 0 := hC
  refine vc_seq fun K1 hK1 => ?_
  refine vc_region ?_
  refine vo_assign_pv rfl rfl ?_
  refine vo_nil ?_
  refine hK1 _ ?_
  refine vc_seq fun K2 hK2 => ?_
  refine vc_region ?_
  refine vo_move_pv rfl rfl ?_
  refine vo_call [] Try.func23 rfl rfl rfl rfl rfl rfl rfl (heads_sat hlists hllists) ?_
  rintro _ _ ⟨nl8, rfl, rfl⟩
  refine ⟨Nat.le_of_ble_eq_true rfl, ⟨rfl, rfl, rfl⟩, .inl rfl, ?_⟩
  refine vo_stN ?_
  refine vo_assign_ref rfl rfl ?_
  refine vo_nil ?_
  refine hK2 _ ?_
  refine vc_seq fun K3 hK3 => ?_
  refine vc_seq fun K4 hK4 => ?_
  refine vc_region ?_
  refine vo_move_ref rfl rfl ?_
  refine vo_len_ref rfl rfl rfl Try.underlying25 ?_
  refine vo_binI rfl rfl rfl rfl trivial ?_
  refine vo_nil ?_
  refine hK4 _ ?_
  refine vc_cond rfl (fun hc1 => ?_) (fun hc1 => ?_)
  · try simp only [decide_eq_true_eq, decide_eq_false_iff_not, beq_iff_eq, bne_iff_ne, beq_eq_false_iff_ne, bne_eq_false_iff_eq, Bool.not_eq_true, Bool.not_eq_false, Bool.not_eq_eq_eq_not, Bool.not_true, Bool.not_false, List.length_map, Int.not_lt, Int.not_le, ne_eq, Decidable.not_not] at hc1
    refine vc_seq fun K5 hK5 => ?_
    refine vc_region ?_
    refine vo_assign_pv rfl rfl ?_
    refine vo_nil ?_
    refine hK5 _ ?_
    refine vc_ret ?_
    change retPv _ _ _ _ _
    refine retPv_mk rfl rfl rfl ⟨?_, rfl⟩
    refine (congrArg (fun b => [i64 b]) (?_ : _ = _) : [i64 _] = [i64 _])
    have e : left = [] := hi.nil.2 (once_nil.1 (List.eq_nil_of_length_eq_zero (by omega)))
    rw [e]; rfl
  · try simp only [decide_eq_true_eq, decide_eq_false_iff_not, beq_iff_eq, bne_iff_ne, beq_eq_false_iff_ne, bne_eq_false_iff_eq, Bool.not_eq_true, Bool.not_eq_false, Bool.not_eq_eq_eq_not, Bool.not_true, Bool.not_false, List.length_map, Int.not_lt, Int.not_le, ne_eq, Decidable.not_not] at hc1
    have hne : left ≠ [] := fun e => hc1 (by rw [hi.nil.1 e]; rfl)
    obtain ⟨n, hN⟩ : ∃ n, left.length = n + 1 := ⟨left.length - 1, by have := List.length_pos_iff.2 hne; omega⟩
    refine vc_skip ?_
    refine hK3 _ ?_
    refine vc_seq fun K6 hK6 => ?_
    refine vc_region ?_
    refine vo_assign_pv rfl rfl ?_
    refine vo_nil ?_
    refine hK6 _ ?_
    refine vc_seq fun K7 hK7 => ?_
    refine vc_seq fun K8 hK8 => ?_
    refine vc_region ?_
    refine vo_move_ref rfl rfl ?_
    refine vo_len_ref rfl rfl rfl Try.underlying25 ?_
    refine vo_move_pv rfl rfl ?_
    refine vo_nil ?_
    refine hK8 _ ?_
    refine vc_block ?_
    refine vc_expose 0 (by omega) rfl ?_
    refine vc_stN ?_
    refine vc_stN ?_
    refine vc_loopF [0, 12, 13] [4, 14] [.pv false (.sl nl0 1 (lists.map ints)), .pv true (.sl nl8 1 ((onceF [] (hds lists)).map intP)), i64 (((onceF [] (hds lists)).map intP).length : Nat)] _ (fun mz vs => ∃ (k : Nat) (acc : Int), mz = (onceF [] (hds lists)).length - k ∧ (k ≤ (onceF [] (hds lists)).length) ∧ (acc = (((onceF [] (hds lists)).take k).map (gS n lists left)).sum) ∧ vs = [i64 acc, i64 k]) ((onceF [] (hds lists)).length) rfl rfl (le_len hC rfl) ⟨rfl, rfl, rfl⟩ ⟨0, 0, rfl, Nat.zero_le _, rfl, rfl⟩ ?_
    rintro mz vs - ⟨k, acc, rfl, hk, hacc, rfl⟩
    refine vc_stN ?_
    have hsb := gsum_bd (n := n) (ls := lists) (left := left) (l := (onceF [] (hds lists)).take k) h7 (by omega)
    rw [List.length_take] at hsb
    refine vc_seq fun K9 hK9 => ?_
    refine vc_region ?_
    refine vo_binI rfl rfl rfl rfl trivial ?_
    refine vo_nil ?_
    refine hK9 _ ?_
    refine vc_seq fun K10 hK10 => ?_
    refine vc_cond rfl (fun hc2 => ?_) (fun hc2 => ?_)
    · try simp only [decide_eq_true_eq, decide_eq_false_iff_not, beq_iff_eq, bne_iff_ne, beq_eq_false_iff_ne, bne_eq_false_iff_eq, Bool.not_eq_true, Bool.not_eq_false, Bool.not_eq_eq_eq_not, Bool.not_true, Bool.not_false, List.length_map, Int.not_lt, Int.not_le, ne_eq, Decidable.not_not] at hc2
      have hxm : ((onceF [] (hds lists)).getD k 0) ∈ left := hi.hmem (((once_mem3 _ [] _).1 (getD_mem (show k < (onceF [] (hds lists)).length by omega) 0)).resolve_left (by simp))
      have hgb := gS_bd (n := n) (ls := lists) (left := left) h7 (by omega) ((onceF [] (hds lists)).getD k 0)
      refine vc_skip ?_
      refine hK10 _ ?_
      refine vc_seq fun K11 hK11 => ?_
      refine vc_block ?_
      refine vc_seq fun K12 hK12 => ?_
      refine vc_region ?_
      refine vo_index_pv (.int .i64 0) rfl rfl rfl E25.und inf3 sz3 sd sd ?_
      simp only [Int.toNat_natCast, Int.toNat_zero, getD_ints, getD_intss, getD_bools, getD_bytes, PV.cells]
      refine vo_load_adr rfl rfl Try.underlying3 rfl ?_
      refine vo_assign_pv rfl rfl ?_
      refine vo_nil ?_
      refine hK12 _ ?_
      refine vc_seq fun K13 hK13 => ?_
      refine vc_region ?_
      refine vo_move_pv rfl rfl ?_
      refine vo_move_pv rfl rfl ?_
      refine vo_call0 Try.func44 rfl rfl rfl rfl (isBehind_sat (x := ((onceF [] (hds lists)).getD k 0)) hlists hllists) ?_
      rintro _ _ ⟨rfl, rfl⟩
      refine ⟨rfl, rfl, .inl rfl, ?_⟩
      refine vo_not rfl rfl ?_
      refine vo_nil ?_
      refine hK13 _ ?_
      refine vc_cond rfl (fun hc3 => ?_) (fun hc3 => ?_)
      · try simp only [decide_eq_true_eq, decide_eq_false_iff_not, beq_iff_eq, bne_iff_ne, beq_eq_false_iff_ne, bne_eq_false_iff_eq, Bool.not_eq_true, Bool.not_eq_false, Bool.not_eq_eq_eq_not, Bool.not_true, Bool.not_false, List.length_map, Int.not_lt, Int.not_le, ne_eq, Decidable.not_not] at hc3
        have hEl : (left.erase ((onceF [] (hds lists)).getD k 0)).length = n := by rw [List.length_erase_of_mem hxm]; omega
        have hg : gS n lists left ((onceF [] (hds lists)).getD k 0) = sN (left.erase ((onceF [] (hds lists)).getD k 0)).length (lists.map (tk ((onceF [] (hds lists)).getD k 0))) (left.erase ((onceF [] (hds lists)).getD k 0)) := by rw [gS_yes hc3, hEl]
        refine vc_region ?_
        refine vo_move_pv rfl rfl ?_
        refine vo_move_pv rfl rfl ?_
        refine vo_move_pv rfl rfl ?_
        refine vo_call [] Try.func39 rfl rfl rfl rfl rfl rfl rfl (withoutHead_sat (x := ((onceF [] (hds lists)).getD k 0)) hlists hllists) ?_
        rintro _ _ ⟨rfl, rfl⟩
        refine ⟨Nat.le_of_ble_eq_true rfl, ⟨rfl, rfl, rfl⟩, .inl rfl, ?_⟩
        refine vo_stN ?_
        refine vo_call0 Try.func28 rfl rfl rfl rfl (ih (lists.map (tk ((onceF [] (hds lists)).getD k 0))) (left.erase ((onceF [] (hds lists)).getD k 0)) _ (by rw [List.length_map]; exact hlists) (tk_lens hllists) (hi.step hc3) (by omega)) ?_
        rintro _ _ ⟨rfl, rfl⟩
        refine ⟨rfl, rfl, .inr rfl, ?_⟩
        refine vo_binI rfl rfl rfl rfl sd ?_
        refine vo_assign_pv rfl rfl ?_
        refine vo_nil ?_
        refine hK11 _ ?_
        refine vc_region ?_
        refine vo_binI rfl rfl rfl rfl sd ?_
        refine vo_move_pv rfl rfl ?_
        refine vo_nil ?_
        change againF _ _ _ _ _ _ _ _ _
        refine againF_mk rfl rfl rfl rfl rfl rfl ⟨_, ?_, k + 1, _, rfl, ?_, ?_, rfl⟩
        · omega
        · omega
        · rw [gsum_take (by omega), ← hacc, hg]
          try omega
      · try simp only [decide_eq_true_eq, decide_eq_false_iff_not, beq_iff_eq, bne_iff_ne, beq_eq_false_iff_ne, bne_eq_false_iff_eq, Bool.not_eq_true, Bool.not_eq_false, Bool.not_eq_eq_eq_not, Bool.not_true, Bool.not_false, List.length_map, Int.not_lt, Int.not_le, ne_eq, Decidable.not_not] at hc3
        have hg : gS n lists left ((onceF [] (hds lists)).getD k 0) = 0 := gS_no hc3
        refine vc_skip ?_
        refine hK11 _ ?_
        refine vc_region ?_
        refine vo_binI rfl rfl rfl rfl sd ?_
        refine vo_move_pv rfl rfl ?_
        refine vo_nil ?_
        change againF _ _ _ _ _ _ _ _ _
        refine againF_mk rfl rfl rfl rfl rfl rfl ⟨_, ?_, k + 1, _, rfl, ?_, ?_, rfl⟩
        · omega
        · omega
        · rw [gsum_take (by omega), ← hacc, hg]
          try omega
    · try simp only [decide_eq_true_eq, decide_eq_false_iff_not, beq_iff_eq, bne_iff_ne, beq_eq_false_iff_ne, bne_eq_false_iff_eq, Bool.not_eq_true, Bool.not_eq_false, Bool.not_eq_eq_eq_not, Bool.not_true, Bool.not_false, List.length_map, Int.not_lt, Int.not_le, ne_eq, Decidable.not_not] at hc2
      refine vc_exit ?_
      refine hK7 _ ?_
      refine vc_seq fun K14 hK14 => ?_
      refine vc_region ?_
      refine vo_move_pv rfl rfl ?_
      refine vo_assign_pv rfl rfl ?_
      refine vo_nil ?_
      refine hK14 _ ?_
      refine vc_ret ?_
      change retPv _ _ _ _ _
      refine retPv_mk rfl rfl rfl ⟨?_, rfl⟩
      refine (congrArg (fun b => [i64 b]) (?_ : _ = _) : [i64 _] = [i64 _])
      rw [hacc, take_all (by omega), hi.sum, hN]; rfl

theorem countFrom_sat : ∀ (n : Nat) (lists : List (List Int)) (left : List Int) (nl0 : Option Bool), lists.length < 1000000000 → (∀ l ∈ lists, l.length < 1000000000) → InvL lists left → left.length ≤ n → left.length ≤ 7 → SatAt Try.prog 28 [.pv false (.sl nl0 1 (lists.map ints))] [] (fun res rows => res = [i64 (sN left.length lists left)] ∧ rows = []) := by
  intro n
  induction n with
  | zero =>
    intro lists left nl0 h1 h2 h3 h4 h5
    exact countFrom_step h1 h2 h3 h5 fun ls2 left2 n1 a1 a2 a3 a4 => by omega
  | succ n ih =>
    intro lists left nl0 h1 h2 h3 h4 h5
    exact countFrom_step h1 h2 h3 h5 fun ls2 left2 n1 a1 a2 a3 a4 => ih ls2 left2 n1 a1 a2 a3 (by omega) (by omega)

end Go.Vl

namespace Go.Vl
set_option linter.unusedVariables false
set_option linter.unusedSimpArgs false
open Go.Proofs

theorem row1_eq9 {el : TypeId} {e : Nat} {nl : Option Bool} {f : Bool} {xs ys : List PV} (h : xs = ys) : [Row.own el e nl f xs] = [Row.own el e nl f ys] := by rw [h]
theorem flat_take {ls : List (List Int)} {i : Nat} (h : i < ls.length) : (ls.take (i+1)).flatten = (ls.take i).flatten ++ ls.getD i [] := by
  rw [List.take_succ_eq_append_getElem h, List.flatten_append, getD_at h]; simp
theorem flat_takeK {ls : List (List Int)} {i k : Nat} (h : i < ls.length) (hk : (ls.getD i []).length ≤ k) : (ls.take i).flatten ++ (ls.getD i []).take k = (ls.take (i+1)).flatten := by
  rw [flat_take h, List.take_of_length_le hk]
theorem once_one {a l : List Int} {k : Nat} (h : k < l.length) : onceF [] (a ++ l.take (k+1)) = if l.getD k 0 ∈ onceF [] (a ++ l.take k) then onceF [] (a ++ l.take k) else onceF [] (a ++ l.take k) ++ [l.getD k 0] := by
  rw [List.take_succ_eq_append_getElem h, ← List.append_assoc, onceF_snoc, getD_at h]
theorem flat_len2 {M : Nat} : ∀ {ls : List (List Int)}, (∀ l ∈ ls, l.length ≤ M) → ls.flatten.length ≤ ls.length * M
  | [], _ => by simp
  | x :: ls, h => by
    have h1 := flat_len2 (M := M) fun l hl => h l (List.mem_cons_of_mem _ hl)
    have h2 := h x List.mem_cons_self
    rw [List.flatten_cons, List.length_append, List.length_cons, Nat.add_mul]; omega
theorem sub_len : ∀ {a b : List Int}, a.Nodup → (∀ x ∈ a, x ∈ b) → a.length ≤ b.length
  | [], b, _, _ => Nat.zero_le _
  | x :: a, b, hn, h => by
    obtain ⟨h1, h2⟩ := List.nodup_cons.1 hn
    have hx := h x List.mem_cons_self
    have := sub_len (b := b.erase x) h2 fun y hy => (List.mem_erase_of_ne (fun e => h1 (by rw [← e]; exact hy))).2 (h y (List.mem_cons_of_mem _ hy))
    rw [List.length_erase_of_mem hx] at this
    have := List.length_pos_of_mem hx
    rw [List.length_cons]; omega
theorem coP_len {ls : List (List Int)} (h : coP ls) : ∀ l ∈ ls, l.length ≤ 7 := by
  intro l hl
  have := sub_len (h.1.1 l hl).2 (b := numM ls) (fun x hx => ((numM_inv fun l hl => (h.1.1 l hl).2).mem x).2 ⟨l, hl, hx⟩)
  have := h.2
  omega
theorem coP_iff {ls : List (List Int)} : coP ls ↔ ls.length ≤ 6 ∧ (∀ l ∈ ls, OKL l 7) ∧ (numM ls).length ≤ 7 := by
  constructor
  · intro h; exact ⟨h.1.2, fun l hl => ⟨by have := coP_len h l hl; omega, (h.1.1 l hl).2⟩, h.2⟩
  · rintro ⟨h1, h2, h3⟩; exact ⟨⟨fun l hl => ⟨by have := (h2 l hl).1; omega, (h2 l hl).2⟩, h1⟩, h3⟩
theorem coR_no {ls : List (List Int)} (h : ¬ coP ls) : coR ls = -1 := if_neg h
theorem coR_yes {ls : List (List Int)} (h : coP ls) : coR ls = sN (numM ls).length ls (numM ls) := if_pos h
theorem tk_flat {ls : List (List Int)} {k M : Nat} (h : ∀ l ∈ ls.take k, l.length ≤ M) : (ls.take k).flatten.length ≤ k * M := by
  have h1 := flat_len2 h
  have h2 : (ls.take k).length ≤ k := by rw [List.length_take]; omega
  exact Nat.le_trans h1 (Nat.mul_le_mul_right _ h2)

theorem canCount_sat {nl0 : Option Bool} {lists : List (List Int)} (hlists : lists.length < 1000000000) (hllists : ∀ l ∈ lists, l.length < 1000000000)  : SatAt Try.prog 27 [.pv false (.sl nl0 1 (lists.map ints))] [] (fun res rows => res = [bo (decide (coP lists))] ∧ rows = []) := by
  refine sat_entry (ts := [2]) Try.func27 rfl rfl (by decide) (Nat.le_of_ble_eq_true rfl) fun C hC => ?_
  rw [Try.ntmps27]
  replace hC : C.nb = 0 := hC
  refine vc_seq fun K1 hK1 => ?_
  refine vc_region ?_
  refine vo_assign_pv rfl rfl ?_
  refine vo_nil ?_
  refine hK1 _ ?_
  refine vc_seq fun K2 hK2 => ?_
  refine vc_seq fun K3 hK3 => ?_
  refine vc_region ?_
  refine vo_move_pv rfl rfl ?_
  refine vo_len_pv rfl rfl Try.underlying23 ?_
  refine vo_binI rfl rfl rfl rfl trivial ?_
  refine vo_nil ?_
  refine hK3 _ ?_
  refine vc_cond rfl (fun hc1 => ?_) (fun hc1 => ?_)
  · try simp only [decide_eq_true_eq, decide_eq_false_iff_not, beq_iff_eq, bne_iff_ne, beq_eq_false_iff_ne, bne_eq_false_iff_eq, Bool.not_eq_true, Bool.not_eq_false, Bool.not_eq_eq_eq_not, Bool.not_true, Bool.not_false, List.length_map, Int.not_lt, Int.not_le, ne_eq, Decidable.not_not] at hc1
    refine vc_seq fun K4 hK4 => ?_
    refine vc_region ?_
    refine vo_assign_pv rfl rfl ?_
    refine vo_nil ?_
    refine hK4 _ ?_
    refine vc_ret ?_
    change retPv _ _ _ _ _
    refine retPv_mk rfl rfl rfl ⟨?_, rfl⟩
    refine (congrArg (fun b => [bo b]) (?_ : _ = _) : [bo _] = [bo _])
    exact bF fun h => by have := h.1.2; omega
  · try simp only [decide_eq_true_eq, decide_eq_false_iff_not, beq_iff_eq, bne_iff_ne, beq_eq_false_iff_ne, bne_eq_false_iff_eq, Bool.not_eq_true, Bool.not_eq_false, Bool.not_eq_eq_eq_not, Bool.not_true, Bool.not_false, List.length_map, Int.not_lt, Int.not_le, ne_eq, Decidable.not_not] at hc1
    have hl6 : lists.length ≤ 6 := by omega
    refine vc_skip ?_
    refine hK2 _ ?_
    refine vc_seq fun K5 hK5 => ?_
    refine vc_region ?_
    refine vo_assign_pv rfl rfl ?_
    refine vo_nil ?_
    refine hK5 _ ?_
    refine vc_seq fun K6 hK6 => ?_
    refine vc_seq fun K7 hK7 => ?_
    refine vc_region ?_
    refine vo_move_pv rfl rfl ?_
    refine vo_len_pv rfl rfl Try.underlying23 ?_
    refine vo_move_pv rfl rfl ?_
    refine vo_nil ?_
    refine hK7 _ ?_
    refine vc_block ?_
    refine vc_own_nil 3 E25 rfl ?_
    refine vc_flagrow 0 rfl ?_
    refine vc_stN ?_
    refine vc_loop [3, 9, 10, 11] (fun mz vs rows => ∃ (k : Nat), mz = lists.length - k ∧ (k ≤ lists.length) ∧ (∀ l ∈ lists.take k, OKL l 7) ∧ vs = [.ref 0, .pv false (.sl nl0 1 (lists.map ints)), i64 ((lists.map ints).length : Nat), i64 k] ∧ rows = [Row.own 3 1 none false (((lists.take k).flatten).map intP)]) (lists.length) (le_len hC rfl) ⟨rfl, rfl⟩ ⟨0, rfl, Nat.zero_le _, (by simp), rfl, rfl⟩ ?_
    rintro mz vs rows - - ⟨k, rfl, hk, hp, rfl, rfl⟩
    have hfl := tk_flat (ls := lists) (k := k) (M := 7) (fun l hl => by have := (hp l hl).1; omega)
    refine vc_seq fun K8 hK8 => ?_
    refine vc_region ?_
    refine vo_binI rfl rfl rfl rfl trivial ?_
    refine vo_nil ?_
    refine hK8 _ ?_
    refine vc_seq fun K9 hK9 => ?_
    refine vc_cond rfl (fun hc2 => ?_) (fun hc2 => ?_)
    · try simp only [decide_eq_true_eq, decide_eq_false_iff_not, beq_iff_eq, bne_iff_ne, beq_eq_false_iff_ne, bne_eq_false_iff_eq, Bool.not_eq_true, Bool.not_eq_false, Bool.not_eq_eq_eq_not, Bool.not_true, Bool.not_false, List.length_map, Int.not_lt, Int.not_le, ne_eq, Decidable.not_not] at hc2
      refine vc_skip ?_
      refine hK9 _ ?_
      refine vc_seq fun K10 hK10 => ?_
      refine vc_block ?_
      refine vc_seq fun K11 hK11 => ?_
      refine vc_region ?_
      refine vo_index_pv (.sl none 1 []) rfl rfl rfl E23.und inf25 sz25 sd sd ?_
      simp only [Int.toNat_natCast, Int.toNat_zero, getD_ints, getD_intss, getD_bools, getD_bytes, PV.cells]
      refine vo_load_adr rfl rfl Try.underlying25 rfl ?_
      refine vo_assign_pv rfl rfl ?_
      refine vo_nil ?_
      refine hK11 _ ?_
      refine vc_seq fun K12 hK12 => ?_
      refine vc_seq fun K13 hK13 => ?_
      refine vc_region ?_
      refine vo_move_pv rfl rfl ?_
      refine vo_call0 Try.func37 rfl rfl rfl rfl (isList_sat (lens hllists _ (by omega))) ?_
      rintro _ _ ⟨rfl, rfl⟩
      refine ⟨rfl, rfl, .inl rfl, ?_⟩
      refine vo_not rfl rfl ?_
      refine vo_nil ?_
      refine hK13 _ ?_
      refine vc_cond rfl (fun hc3 => ?_) (fun hc3 => ?_)
      · try simp only [decide_eq_true_eq, decide_eq_false_iff_not, beq_iff_eq, bne_iff_ne, beq_eq_false_iff_ne, bne_eq_false_iff_eq, Bool.not_eq_true, Bool.not_eq_false, Bool.not_eq_eq_eq_not, Bool.not_true, Bool.not_false, List.length_map, Int.not_lt, Int.not_le, ne_eq, Decidable.not_not] at hc3
        refine vc_seq fun K14 hK14 => ?_
        refine vc_region ?_
        refine vo_assign_pv rfl rfl ?_
        refine vo_nil ?_
        refine hK14 _ ?_
        refine vc_ret ?_
        change retPv _ _ _ _ _
        refine retPv_mk rfl rfl rfl ⟨?_, rfl⟩
        refine (congrArg (fun b => [bo b]) (?_ : _ = _) : [bo _] = [bo _])
        exact bF fun h => hc3 ((coP_iff.1 h).2.1 _ (getD_mem (by omega) []))
      · try simp only [decide_eq_true_eq, decide_eq_false_iff_not, beq_iff_eq, bne_iff_ne, beq_eq_false_iff_ne, bne_eq_false_iff_eq, Bool.not_eq_true, Bool.not_eq_false, Bool.not_eq_eq_eq_not, Bool.not_true, Bool.not_false, List.length_map, Int.not_lt, Int.not_le, ne_eq, Decidable.not_not] at hc3
        have hlk := hc3.1
        refine vc_skip ?_
        refine hK12 _ ?_
        refine vc_region ?_
        refine vo_move_ref rfl rfl ?_
        refine vo_move_pv rfl rfl ?_
        refine vo_append E25 rfl (by omega) rfl rfl rfl sd sd ?_
        refine vo_stN ?_
        try simp only [app_ints, app_intss, app_bools]
        refine vo_assign_ref rfl rfl ?_
        refine vo_nil ?_
        refine hK10 _ ?_
        refine vc_region ?_
        refine vo_binI rfl rfl rfl rfl sd ?_
        refine vo_move_pv rfl rfl ?_
        refine vo_nil ?_
        change again _ _ _ _ _ _
        refine again_mk rfl rfl rfl rfl ⟨_, ?_, k + 1, rfl, ?_, ?_, rfl, (row1_eq9 (by rw [flat_take (by omega), List.map_append]))⟩
        · omega
        · omega
        · exact (all_take_succ (by omega) []).2 ⟨hp, by assumption⟩
    · try simp only [decide_eq_true_eq, decide_eq_false_iff_not, beq_iff_eq, bne_iff_ne, beq_eq_false_iff_ne, bne_eq_false_iff_eq, Bool.not_eq_true, Bool.not_eq_false, Bool.not_eq_eq_eq_not, Bool.not_true, Bool.not_false, List.length_map, Int.not_lt, Int.not_le, ne_eq, Decidable.not_not] at hc2
      refine vc_exit ?_
      refine hK6 _ ?_
      refine vc_seq fun K15 hK15 => ?_
      refine vc_region ?_
      refine vo_move_ref rfl rfl ?_
      refine vo_call [] Try.func40 rfl rfl rfl rfl rfl rfl rfl (eachOnce_sat (list := (lists.take k).flatten) (by omega)) ?_
      rintro _ _ ⟨nl8, rfl, rfl⟩
      refine ⟨Nat.le_of_ble_eq_true rfl, ⟨rfl, rfl, rfl⟩, .inr ⟨rfl, rfl⟩, ?_⟩
      refine vo_stN ?_
      refine vo_len_ref rfl rfl rfl Try.underlying25 ?_
      refine vo_binI rfl rfl rfl rfl trivial ?_
      refine vo_assign_pv rfl rfl ?_
      refine vo_nil ?_
      refine hK15 _ ?_
      refine vc_ret ?_
      change retPv _ _ _ _ _
      refine retPv_mk rfl rfl rfl ⟨?_, rfl⟩
      refine (congrArg (fun b => [bo b]) (?_ : _ = _) : [bo _] = [bo _])
      rw [take_all (by omega)] at hp ⊢
      exact decide_eq_decide.2 ⟨fun h => coP_iff.2 ⟨hl6, hp, by unfold numM; rw [List.length_map] at h; omega⟩, fun h => by have := h.2; unfold numM at this; rw [List.length_map]; omega⟩


theorem implCountOrders_sat {nl0 : Option Bool} {lists : List (List Int)} (hlists : lists.length < 1000000000) (hllists : ∀ l ∈ lists, l.length < 1000000000)  : SatAt Try.prog 9 [.pv false (.sl nl0 1 (lists.map ints))] [] (fun res rows => res = [i64 (coR lists)] ∧ rows = []) := by
  refine sat_entry (ts := [2]) Try.func9 rfl rfl (by decide) (Nat.le_of_ble_eq_true rfl) fun C hC => ?_
  rw [Try.ntmps9]
  replace hC : C.nb = 0 := hC
  refine vc_seq fun K1 hK1 => ?_
  refine vc_region ?_
  refine vo_assign_pv rfl rfl ?_
  refine vo_nil ?_
  refine hK1 _ ?_
  refine vc_seq fun K2 hK2 => ?_
  refine vc_seq fun K3 hK3 => ?_
  refine vc_region ?_
  refine vo_move_pv rfl rfl ?_
  refine vo_call0 Try.func27 rfl rfl rfl rfl (canCount_sat hlists hllists) ?_
  rintro _ _ ⟨rfl, rfl⟩
  refine ⟨rfl, rfl, .inl rfl, ?_⟩
  refine vo_not rfl rfl ?_
  refine vo_nil ?_
  refine hK3 _ ?_
  refine vc_cond rfl (fun hc1 => ?_) (fun hc1 => ?_)
  · try simp only [decide_eq_true_eq, decide_eq_false_iff_not, beq_iff_eq, bne_iff_ne, beq_eq_false_iff_ne, bne_eq_false_iff_eq, Bool.not_eq_true, Bool.not_eq_false, Bool.not_eq_eq_eq_not, Bool.not_true, Bool.not_false, List.length_map, Int.not_lt, Int.not_le, ne_eq, Decidable.not_not] at hc1
    refine vc_seq fun K4 hK4 => ?_
    refine vc_region ?_
    refine vo_assign_pv rfl rfl ?_
    refine vo_nil ?_
    refine hK4 _ ?_
    refine vc_ret ?_
    change retPv _ _ _ _ _
    refine retPv_mk rfl rfl rfl ⟨?_, rfl⟩
    refine (congrArg (fun b => [i64 b]) (?_ : _ = _) : [i64 _] = [i64 _])
    rw [coR_no hc1]
  · try simp only [decide_eq_true_eq, decide_eq_false_iff_not, beq_iff_eq, bne_iff_ne, beq_eq_false_iff_ne, bne_eq_false_iff_eq, Bool.not_eq_true, Bool.not_eq_false, Bool.not_eq_eq_eq_not, Bool.not_true, Bool.not_false, List.length_map, Int.not_lt, Int.not_le, ne_eq, Decidable.not_not] at hc1
    refine vc_skip ?_
    refine hK2 _ ?_
    refine vc_seq fun K5 hK5 => ?_
    refine vc_region ?_
    refine vo_move_pv rfl rfl ?_
    refine vo_call0 Try.func28 rfl rfl rfl rfl (countFrom_sat 7 lists (numM lists) _ hlists hllists (numM_inv fun l hl => (hc1.1.1 l hl).2) hc1.2 hc1.2) ?_
    rintro _ _ ⟨rfl, rfl⟩
    refine ⟨rfl, rfl, .inl rfl, ?_⟩
    refine vo_assign_pv rfl rfl ?_
    refine vo_nil ?_
    refine hK5 _ ?_
    refine vc_ret ?_
    change retPv _ _ _ _ _
    refine retPv_mk rfl rfl rfl ⟨?_, rfl⟩
    refine (congrArg (fun b => [i64 b]) (?_ : _ = _) : [i64 _] = [i64 _])
    rw [coR_yes hc1]

end Go.Vl

namespace Go.Vl
set_option linter.unusedVariables false
set_option linter.unusedSimpArgs false
open Go.Proofs

theorem any_take_succ {α : Type} {P : α → Prop} {L : List α} {k : Nat} (h : k < L.length) (d : α) : (∃ l ∈ L.take (k+1), P l) ↔ (∃ l ∈ L.take k, P l) ∨ P (L.getD k d) := by
  rw [List.take_succ_eq_append_getElem h, getD_at h]
  constructor
  · rintro ⟨l, h1, h2⟩
    rcases List.mem_append.1 h1 with h1 | h1
    · exact .inl ⟨l, h1, h2⟩
    · rw [List.mem_singleton.1 h1] at h2; exact .inr h2
  · rintro (⟨l, h1, h2⟩ | h)
    · exact ⟨l, List.mem_append_left _ h1, h2⟩
    · exact ⟨_, List.mem_append_right _ (List.mem_singleton.2 rfl), h⟩
theorem nod_at {l : List Int} (h : l.Nodup) {i : Nat} (hi : i < l.length) : l.getD i 0 ∉ l.take i := ((nodup_take_succ hi 0).1 (nodup_take (i+1) h)).2
theorem any_none {α : Type} {P : α → Prop} {L : List α} : false = true ↔ ∃ l ∈ L.take 0, P l := by simp
theorem bhd_f3 {x : Int} {l : List Int} : bhd x l ↔ 0 < findM x l 0 := by unfold bhd; rw [fM_eq3]
theorem app_take {a : List Int} {L : List (List Int)} {n : Nat} : [PV.sl none 1 (a.map intP)] ++ List.map ints (L.take n) = (a :: L.take n).map ints := rfl
theorem OKLs.cons {a : List Int} {L : List (List Int)} (h : OKLs L) (ha : OKL a 12) (h0 : 0 < L.length) : OKLs (a :: L.take (L.length - 1)) := by
  refine ⟨fun l hl => ?_, ?_⟩
  · rcases List.mem_cons.1 hl with rfl | hl
    · exact ha
    · exact h.1 l (List.mem_of_mem_take hl)
  · rw [List.length_cons, List.length_take]; have := h.2; omega
theorem okl_of {a : List Int} (h : a.Nodup) (h2 : ¬ (12 : Int) < a.length) : OKL a 12 := ⟨by omega, h⟩

end Go.Vl

namespace Go.Vl
set_option linter.unusedVariables false
set_option linter.unusedSimpArgs false
open Go.Proofs

theorem sum_le {f g : Int → Int} : ∀ {l : List Int}, (∀ x ∈ l, f x ≤ g x) → (l.map f).sum ≤ (l.map g).sum
  | [], _ => Int.le_refl _
  | x :: l, h => by
    have h1 := sum_le fun y hy => h y (List.mem_cons_of_mem _ hy)
    have h2 := h x List.mem_cons_self
    rw [List.map_cons, List.map_cons, List.sum_cons, List.sum_cons]; omega
theorem gS_bd' (n : Nat) (ls : List (List Int)) (left : List Int) (h : left.length ≤ 7) (x : Int) : 0 ≤ gS n ls left x := by
  unfold gS
  split
  · exact Int.le_refl _
  · exact (sN_bd n _ _ (Nat.le_trans (List.length_erase_le ..) h)).1
theorem sN_mono : ∀ (n : Nat) (ls1 ls2 : List (List Int)) (l1 l2 : List Int), (∀ l ∈ ls1, l ∈ ls2) → l1.Perm l2 → l1.length ≤ 7 → sN n ls2 l2 ≤ sN n ls1 l1
  | 0, _, _, _, _, _, _, _ => Int.le_refl _
  | n+1, ls1, ls2, l1, l2, h, hp, h7 => by
    rw [sN_succ, sN_succ, perm_sum (f := gS n ls1 l1) hp]
    refine sum_le fun x hx => ?_
    by_cases h2 : anyB ls2 x
    · rw [gS_no h2]
      exact (gS_bd' n ls1 l1 h7 x)
    · have h1 : ¬ anyB ls1 x := fun ⟨l, a, b⟩ => h2 ⟨l, h l a, b⟩
      rw [gS_yes h1, gS_yes h2]
      refine sN_mono n _ _ _ _ (fun l hl => ?_) (hp.erase x) (Nat.le_trans (List.length_erase_le ..) h7)
      obtain ⟨l0, h3, rfl⟩ := List.mem_map.1 hl
      exact List.mem_map_of_mem (h l0 h3)
theorem once_self : ∀ (l acc : List Int), (acc ++ l).Nodup → onceF acc l = acc ++ l
  | [], acc, _ => by simp [onceF]
  | x :: l, acc, h => by
    have hx : x ∉ acc := fun hx => by
      have := (List.nodup_append.1 h).2.2 x hx x List.mem_cons_self
      exact this rfl
    show onceF (if x ∈ acc then acc else acc ++ [x]) l = _
    rw [if_neg hx, once_self l (acc ++ [x]) (by simpa using h)]; simp
theorem sN_one : ∀ (l : List Int), l.Nodup → sN l.length [l] l = 1
  | [], _ => rfl
  | x :: l, h => by
    obtain ⟨h1, h2⟩ := List.nodup_cons.1 h
    have hx : ¬ anyB [x :: l] x := by
      rintro ⟨l2, a, b⟩
      rw [List.mem_singleton.1 a] at b
      exact (bhd_cons.1 b).1 rfl
    have ho : ∀ y ∈ l, gS l.length [x :: l] (x :: l) y = 0 := fun y hy => gS_no ⟨x :: l, List.mem_singleton.2 rfl, bhd_cons.2 ⟨fun e => h1 (by rw [e]; exact hy), hy⟩⟩
    have hz : ∀ {q : List Int}, (∀ y ∈ q, gS l.length [x :: l] (x :: l) y = 0) → (q.map (gS l.length [x :: l] (x :: l))).sum = 0 := by
      intro q hq
      induction q with
      | nil => rfl
      | cons y q ih => rw [List.map_cons, List.sum_cons, hq y List.mem_cons_self, ih fun z hz => hq z (List.mem_cons_of_mem _ hz)]; rfl
    rw [List.length_cons, sN_succ, List.map_cons, List.sum_cons, hz ho, gS_yes hx, List.erase_cons_head]
    have e : [x :: l].map (tk x) = [l] := by rw [List.map_cons, tk_t (x := x) (l := x :: l) (by simp) rfl]; rfl
    rw [e, sN_one l h2]; rfl
theorem coR_one {l : List Int} (h : l.Nodup) (h7 : l.length ≤ 7) : coR [l] = 1 := by
  have e : numM [l] = l := by unfold numM; rw [show [l].flatten = l by simp, once_self l [] (by simpa using h)]; rfl
  rw [coR_yes (coP_iff.2 ⟨by simp, fun x hx => by rw [List.mem_singleton.1 hx]; exact ⟨by omega, h⟩, by rw [e]; exact h7⟩), e]
  exact sN_one l h
theorem coR_nil : coR [] = 1 := by
  rw [coR_yes (coP_iff.2 ⟨by simp, fun x hx => (by cases hx), by decide⟩)]; rfl
theorem coR_nn {L : List (List Int)} (h : 0 ≤ coR L) : coP L := by
  by_cases h1 : coP L
  · exact h1
  · rw [coR_no h1] at h; omega
/-- Lists that say nothing new only leave fewer orders. -/
theorem coR_mono {L R : List (List Int)} (h : coP L) (hR : ∀ l ∈ R, l ∈ L) (h6 : R.length ≤ 6) (hm : ∀ l ∈ L, ∀ x ∈ l, ∃ r ∈ R, x ∈ r) : coR L ≤ coR R := by
  have hL := coP_iff.1 h
  have iL := numM_inv fun l hl => (h.1.1 l hl).2
  have iR := numM_inv (ls := R) fun l hl => (h.1.1 l (hR l hl)).2
  have hp : (numM R).Perm (numM L) := (List.perm_ext_iff_of_nodup iR.ln iL.ln).2 fun x => by
    rw [iR.mem, iL.mem]
    exact ⟨fun ⟨l, a, b⟩ => ⟨l, hR l a, b⟩, fun ⟨l, a, b⟩ => hm l a x b⟩
  have hlen := hp.length_eq
  have hcR : coP R := coP_iff.2 ⟨h6, fun l hl => hL.2.1 l (hR l hl), by rw [hlen]; exact hL.2.2⟩
  rw [coR_yes h, coR_yes hcR, hlen]
  exact sN_mono _ _ _ _ _ hR hp hcR.2
theorem sl_one {L : List (List Int)} {i : Nat} (h : i < L.length) : List.take (((i : Int) + 1).toNat - i) (L.drop i) = [L.getD i []] := by
  rw [show ((i : Int) + 1).toNat - i = 1 by omega, List.drop_eq_getElem_cons h, getD_at h]; rfl
theorem last_all {L : List (List Int)} {k : Nat} (h0 : 0 < L.length) (hk : (L.getD (L.length - 1) []).length ≤ k) (h : ∀ x ∈ (L.getD (L.length - 1) []).take k, ∃ r ∈ L.take (L.length - 1), x ∈ r) : ∀ l ∈ L, ∀ x ∈ l, ∃ r ∈ L.take (L.length - 1), x ∈ r := by
  intro l hl x hx
  have e := List.take_succ_eq_append_getElem (show L.length - 1 < L.length by omega)
  rw [← getD_at (show L.length - 1 < L.length by omega) [], show L.length - 1 + 1 = L.length by omega, List.take_length] at e
  rw [e] at hl
  rcases List.mem_append.1 hl with h1 | h1
  · exact ⟨l, h1, hx⟩
  · rw [List.mem_singleton.1 h1] at hx
    exact h x (by rw [List.take_of_length_le hk]; exact hx)
theorem ix_m9 {L : List (List Int)} : (((L.map ints).length : Int) - 1).toNat = L.length - 1 := by rw [List.length_map]; omega

end Go.Vl

namespace Go.Vl
set_option linter.unusedVariables false
set_option linter.unusedSimpArgs false
open Go.Proofs

theorem sum_pos {f : Int → Int} (h0 : ∀ x, 0 ≤ f x) : ∀ {l : List Int} {x : Int}, x ∈ l → 0 < f x → 0 < (l.map f).sum
  | [], _, h, _ => by cases h
  | y :: l, x, h, hx => by
    have hs : 0 ≤ (l.map f).sum := by
      clear h
      induction l with
      | nil => simp
      | cons z l ih => rw [List.map_cons, List.sum_cons]; have := h0 z; omega
    rw [List.map_cons, List.sum_cons]
    have hy := h0 y
    rcases List.mem_cons.1 h with rfl | h
    · omega
    · have := sum_pos h0 h hx; omega
theorem pos_sum {f : Int → Int} : ∀ {l : List Int}, 0 < (l.map f).sum → ∃ x ∈ l, 0 < f x
  | [], h => by simp at h
  | y :: l, h => by
    rw [List.map_cons, List.sum_cons] at h
    by_cases hy : 0 < f y
    · exact ⟨y, List.mem_cons_self, hy⟩
    · obtain ⟨x, h1, h2⟩ := pos_sum (f := f) (l := l) (by omega)
      exact ⟨x, List.mem_cons_of_mem _ h1, h2⟩
theorem tk_comm {x y : Int} (hxy : x ≠ y) {l : List Int} (hx : ¬ bhd x l) (hy : ¬ bhd y l) : tk x (tk y l) = tk y (tk x l) := by
  cases l with
  | nil => rfl
  | cons z r =>
    have nx : z ≠ x → x ∉ r := fun h h2 => hx (bhd_cons.2 ⟨h, h2⟩)
    have ny : z ≠ y → y ∉ r := fun h h2 => hy (bhd_cons.2 ⟨h, h2⟩)
    have keep : ∀ {q : Int}, q ∉ r → tk q r = r := by
      intro q hq
      cases r with
      | nil => rfl
      | cons w r => exact tk_f fun h => hq (by have : w = q := h.2; rw [this]; exact List.mem_cons_self)
    by_cases h1 : z = x
    · have h2 : z ≠ y := fun e => hxy (h1.symm.trans e)
      rw [tk_f (x := y) (l := z :: r) (fun h => h2 h.2), tk_t (x := x) (l := z :: r) (by simp) h1]
      exact (keep (ny h2)).symm
    · by_cases h2 : z = y
      · rw [tk_f (x := x) (l := z :: r) (fun h => h1 h.2), tk_t (x := y) (l := z :: r) (by simp) h2]
        exact keep (nx h1)
      · rw [tk_f (x := y) (l := z :: r) (fun h => h2 h.2), tk_f (x := x) (l := z :: r) (fun h => h1 h.2), tk_f (x := y) (l := z :: r) (fun h => h2 h.2)]
theorem anyB_tk {ls : List (List Int)} (hn : ∀ l ∈ ls, l.Nodup) {x y : Int} (h : ¬ anyB ls x) : ¬ anyB (ls.map (tk y)) x := by
  rintro ⟨l', h1, h2⟩
  obtain ⟨l, h3, rfl⟩ := List.mem_map.1 h1
  exact h ⟨l, h3, bhd_suf (tk_suf y l) (hn l h3) h2⟩
theorem gS_nn {n : Nat} {ls : List (List Int)} {left : List Int} (h : left.length ≤ 7) (x : Int) : 0 ≤ gS n ls left x := gS_bd' n ls left h x
/-- What may come first may come first in some order. -/
theorem sN_first : ∀ (n : Nat) (ls : List (List Int)) (left : List Int), InvL ls left → left.length = n + 1 → n < 7 → 0 < sN (n+1) ls left → ∀ x ∈ left, ¬ anyB ls x → 0 < sN n (ls.map (tk x)) (left.erase x)
  | n, ls, left, hi, hl, h7, hp, x, hx, hb => by
    rw [sN_succ] at hp
    obtain ⟨y, hy, hpy⟩ := pos_sum hp
    have hby : ¬ anyB ls y := fun h => by rw [gS_no h] at hpy; omega
    rw [gS_yes hby] at hpy
    by_cases hxy : x = y
    · subst hxy; exact hpy
    · cases n with
      | zero =>
        exfalso
        have h1 : left.length = 1 := hl
        cases left with
        | nil => cases hx
        | cons a t =>
          cases t with
          | nil => exact hxy ((List.mem_singleton.1 hx).trans (List.mem_singleton.1 hy).symm)
          | cons b t => simp at h1
      | succ n =>
        have hxe : x ∈ left.erase y := (hi.ln.mem_erase_iff).2 ⟨hxy, hx⟩
        have hye : y ∈ left.erase x := (hi.ln.mem_erase_iff).2 ⟨fun e => hxy e.symm, hy⟩
        have hly : (left.erase y).length = n + 1 := by rw [List.length_erase_of_mem hy]; omega
        have hlx : (left.erase x).length = n + 1 := by rw [List.length_erase_of_mem hx]; omega
        have h1 := sN_first n (ls.map (tk y)) (left.erase y) (hi.step hby) hly (by omega) hpy x hxe (anyB_tk hi.nd hb)
        have hc : (ls.map (tk y)).map (tk x) = (ls.map (tk x)).map (tk y) := by
          rw [List.map_map, List.map_map]
          exact List.map_congr_left fun l hl => tk_comm hxy (fun h => hb ⟨l, hl, h⟩) (fun h => hby ⟨l, hl, h⟩)
        rw [hc, List.erase_comm] at h1
        rw [sN_succ]
        refine sum_pos (fun z => gS_nn (by omega) z) hye ?_
        rw [gS_yes (anyB_tk hi.nd hby)]
        exact h1
/-- A merge is found just when some order keeps the lists. -/
theorem merge_iff : ∀ (n : Nat) (ls : List (List Int)) (left : List Int), InvL ls left → tot ls ≤ n → left.length ≤ 7 → (hds (mergeF n ls).2 = [] ↔ 0 < sN left.length ls left) := by
  intro n
  induction n with
  | zero =>
    intro ls left hi ht h7
    have hnil : ∀ l ∈ ls, l = [] := fun l hl => List.eq_nil_of_length_eq_zero (by have := tot_mem hl; omega)
    have hh := hds_nil.2 hnil
    have hl := hi.nil.2 hh
    subst hl
    exact ⟨fun _ => by show (0 : Int) < 1; omega, fun _ => hh⟩
  | succ n ih =>
    intro ls left hi ht h7
    cases e : fhM ls with
    | none =>
      rw [mergeF_none e]
      by_cases hl : left = []
      · have := hi.nil.1 hl
        subst hl
        exact ⟨fun _ => by show (0 : Int) < 1; omega, fun _ => this⟩
      · have hne : hds ls ≠ [] := fun h => hl (hi.nil.2 h)
        refine ⟨fun h => absurd h hne, fun h => ?_⟩
        exfalso
        obtain ⟨k, hk⟩ : ∃ k, left.length = k + 1 := ⟨left.length - 1, by have := List.length_pos_iff.2 hl; omega⟩
        rw [hk, sN_succ] at h
        obtain ⟨x, hx, hpx⟩ := pos_sum h
        have hb : ¬ anyB ls x := fun h => by rw [gS_no h] at hpx; omega
        obtain ⟨l, h1, h2, h3⟩ := hds_mem.1 (hi.head hx hb)
        exact hb (by rw [← h3]; exact stuck_beh e h1 h2)
    | some x =>
      obtain ⟨l, h1, h2, h3, hb⟩ := fhF_some e
      have hx : x ∈ left := (hi.mem x).2 ⟨l, h1, by rw [← h3]; exact getD_mem h2 0⟩
      have hpos := List.length_pos_of_mem hx
      obtain ⟨k, hk⟩ : ∃ k, left.length = k + 1 := ⟨left.length - 1, by omega⟩
      have hle : (left.erase x).length = k := by rw [List.length_erase_of_mem hx]; omega
      rw [mergeF_some e ht]
      have h4 := ih (ls.map (tk x)) (left.erase x) (hi.step hb) (by have := fhM_tot e; omega) (by omega)
      rw [hle] at h4
      show hds (mergeF n (ls.map (tk x))).2 = [] ↔ _
      rw [h4, hk]
      constructor
      · intro h5
        rw [sN_succ]
        exact sum_pos (fun z => gS_nn h7 z) hx (by rw [gS_yes hb]; exact h5)
      · intro h5
        exact sN_first k ls left hi hk (by omega) h5 x hx hb
theorem mg_count {L : List (List Int)} (h : coP L) : mgOK L ↔ 0 < coR L := by
  rw [coR_yes h]
  have := merge_iff (tot L) L (numM L) (numM_inv fun l hl => (h.1.1 l hl).2) (Nat.le_refl _) h.2
  exact ⟨fun h1 => this.1 h1.2, fun h1 => ⟨h.1, this.2 h1⟩⟩

end Go.Vl

namespace Go.Vl
set_option linter.unusedVariables false
set_option linter.unusedSimpArgs false
open Go.Proofs

theorem FnMergeListsCount_sat {nl : Option Bool} {c : List (Fin 256)} : SatAt Try.prog 3 [.pv false (.sl nl 1 (c.map byteP))] [] (fun res rows => res = [bo true] ∧ rows = []) := by
  refine sat_entry (ts := [2]) Try.func3 rfl rfl (by decide) (Nat.le_of_ble_eq_true rfl) fun C hC => ?_
  rw [Try.ntmps3]
  replace hC : C.nb = 0 := hC
  refine vc_seq fun K1 hK1 => ?_
  refine vc_region ?_
  refine vo_assign_pv rfl rfl ?_
  refine vo_nil ?_
  refine hK1 _ ?_
  refine vc_seq fun K2 hK2 => ?_
  refine vc_seq fun K3 hK3 => ?_
  refine vc_region ?_
  refine vo_move_pv rfl rfl ?_
  refine vo_len_pv rfl rfl Try.underlying22 ?_
  refine vo_binI rfl rfl rfl rfl trivial ?_
  refine vo_nil ?_
  refine hK3 _ ?_
  refine vc_cond rfl (fun hc1 => ?_) (fun hc1 => ?_)
  · try simp only [decide_eq_true_eq, decide_eq_false_iff_not, beq_iff_eq, bne_iff_ne, beq_eq_false_iff_ne, bne_eq_false_iff_eq, Bool.not_eq_true, Bool.not_eq_false, Bool.not_eq_eq_eq_not, Bool.not_true, Bool.not_false, List.length_map, Int.not_lt, Int.not_le, ne_eq, Decidable.not_not] at hc1
    refine vc_seq fun K4 hK4 => ?_
    refine vc_region ?_
    refine vo_assign_pv rfl rfl ?_
    refine vo_nil ?_
    refine hK4 _ ?_
    refine vc_ret ?_
    change retPv _ _ _ _ _
    refine retPv_mk rfl rfl rfl ⟨?_, rfl⟩
    rfl
  · try simp only [decide_eq_true_eq, decide_eq_false_iff_not, beq_iff_eq, bne_iff_ne, beq_eq_false_iff_ne, bne_eq_false_iff_eq, Bool.not_eq_true, Bool.not_eq_false, Bool.not_eq_eq_eq_not, Bool.not_true, Bool.not_false, List.length_map, Int.not_lt, Int.not_le, ne_eq, Decidable.not_not] at hc1
    refine vc_skip ?_
    refine hK2 _ ?_
    refine vc_seq fun K5 hK5 => ?_
    refine vc_region ?_
    refine vo_move_pv rfl rfl ?_
    refine vo_call0 Try.func5 rfl rfl rfl rfl (DrawMergeLists_sat (by omega)) ?_
    rintro _ _ ⟨L, f, nl5, ⟨h1, h2⟩, rfl, rfl⟩
    refine ⟨rfl, rfl, .inl rfl, ?_⟩
    refine vo_assign_pv rfl rfl ?_
    refine vo_nil ?_
    refine hK5 _ ?_
    refine vc_seq fun K6 hK6 => ?_
    refine vc_region ?_
    refine vo_move_pv rfl rfl ?_
    refine vo_call [] Try.func6 rfl rfl rfl rfl rfl rfl rfl (implMergeLists_sat (by omega) (lt17 h2)) ?_
    rintro _ _ ⟨nl10, rfl, rfl⟩
    refine ⟨Nat.le_of_ble_eq_true rfl, ⟨rfl, rfl, rfl⟩, .inl rfl, ?_⟩
    refine vo_stN ?_
    refine vo_move rfl ?_
    refine vo_extract rfl rfl rfl ?_
    refine vo_extract rfl rfl rfl ?_
    refine vo_assign_ref rfl rfl ?_
    refine vo_assign_pv rfl rfl ?_
    refine vo_nil ?_
    refine hK6 _ ?_
    refine vc_seq fun K7 hK7 => ?_
    refine vc_region ?_
    refine vo_move_pv rfl rfl ?_
    refine vo_call [] Try.func7 rfl rfl rfl rfl rfl rfl rfl (specMergeLists_sat (by omega) (lt17 h2)) ?_
    rintro _ _ ⟨nl11, rfl, rfl⟩
    refine ⟨Nat.le_of_ble_eq_true rfl, ⟨rfl, rfl, rfl⟩, .inl rfl, ?_⟩
    refine vo_stN ?_
    refine vo_move rfl ?_
    refine vo_extract rfl rfl rfl ?_
    refine vo_extract rfl rfl rfl ?_
    refine vo_assign_ref rfl rfl ?_
    refine vo_assign_pv rfl rfl ?_
    refine vo_nil ?_
    refine hK7 _ ?_
    refine vc_seq fun K8 hK8 => ?_
    refine vc_seq fun K9 hK9 => ?_
    refine vc_region ?_
    refine vo_move_ref rfl rfl ?_
    refine vo_move_ref rfl rfl ?_
    refine vo_call0 Try.func8 rfl rfl rfl rfl (equalInts_sat (a := mgR L) (b := mgR L) mgR_len mgR_len) ?_
    rintro _ _ ⟨rfl, rfl⟩
    refine ⟨rfl, rfl, .inr rfl, ?_⟩
    refine vo_not rfl rfl ?_
    refine vo_move_pv rfl rfl ?_
    refine vo_split 28 rfl (fun hg2 => ?_) (fun hg2 => ?_)
    · try simp only [decide_eq_true_eq, decide_eq_false_iff_not, beq_iff_eq, bne_iff_ne, beq_eq_false_iff_ne, bne_eq_false_iff_eq, Bool.not_eq_true, Bool.not_eq_false, Bool.not_eq_eq_eq_not, Bool.not_true, Bool.not_false, List.length_map, Int.not_lt, Int.not_le, ne_eq, Decidable.not_not] at hg2
      refine vo_guard_off rfl rfl rfl rfl rfl ?_
      refine vo_guard_off rfl rfl rfl rfl rfl ?_
      refine vo_guard_off rfl rfl rfl rfl rfl ?_
      refine vo_pick_t rfl rfl ?_
      refine vo_nil ?_
      refine hK9 _ ?_
      refine vc_cond_t rfl ?_
      refine vc_seq fun K10 hK10 => ?_
      refine vc_region ?_
      refine vo_assign_pv rfl rfl ?_
      refine vo_nil ?_
      refine hK10 _ ?_
      refine vc_ret ?_
      change retPv _ _ _ _ _
      refine retPv_mk rfl rfl rfl ⟨?_, rfl⟩
      first | rfl | exact absurd trivial (by assumption) | exact absurd rfl (by assumption) | (refine (congrArg (fun b => [bo b]) (?_ : _ = _) : [bo _] = [bo _]); exact decide_eq_true rfl) | (refine (congrArg (fun b => [bo b]) (?_ : _ = _) : [bo _] = [bo _]); exact beq_iff_eq.2 (decide_eq_decide.2 (mg_count (coR_nn (by omega)))))
    · try simp only [decide_eq_true_eq, decide_eq_false_iff_not, beq_iff_eq, bne_iff_ne, beq_eq_false_iff_ne, bne_eq_false_iff_eq, Bool.not_eq_true, Bool.not_eq_false, Bool.not_eq_eq_eq_not, Bool.not_true, Bool.not_false, List.length_map, Int.not_lt, Int.not_le, ne_eq, Decidable.not_not] at hg2
      refine vo_guard_on rfl rfl rfl ?_
      refine vo_move_pv rfl rfl ?_
      refine vo_guard_on rfl rfl rfl ?_
      refine vo_move_pv rfl rfl ?_
      refine vo_guard_on rfl rfl rfl ?_
      refine vo_binB rfl rfl rfl rfl Try.underlying4 ?_
      refine vo_pick_f rfl rfl ?_
      refine vo_nil ?_
      refine hK9 _ ?_
      refine vc_cond rfl (fun hc3 => ?_) (fun hc3 => ?_)
      · try simp only [decide_eq_true_eq, decide_eq_false_iff_not, beq_iff_eq, bne_iff_ne, beq_eq_false_iff_ne, bne_eq_false_iff_eq, Bool.not_eq_true, Bool.not_eq_false, Bool.not_eq_eq_eq_not, Bool.not_true, Bool.not_false, List.length_map, Int.not_lt, Int.not_le, ne_eq, Decidable.not_not] at hc3
        refine vc_seq fun K11 hK11 => ?_
        refine vc_region ?_
        refine vo_assign_pv rfl rfl ?_
        refine vo_nil ?_
        refine hK11 _ ?_
        refine vc_ret ?_
        change retPv _ _ _ _ _
        refine retPv_mk rfl rfl rfl ⟨?_, rfl⟩
        first | rfl | exact absurd trivial (by assumption) | exact absurd rfl (by assumption) | (refine (congrArg (fun b => [bo b]) (?_ : _ = _) : [bo _] = [bo _]); exact decide_eq_true rfl) | (refine (congrArg (fun b => [bo b]) (?_ : _ = _) : [bo _] = [bo _]); exact beq_iff_eq.2 (decide_eq_decide.2 (mg_count (coR_nn (by omega)))))
      · try simp only [decide_eq_true_eq, decide_eq_false_iff_not, beq_iff_eq, bne_iff_ne, beq_eq_false_iff_ne, bne_eq_false_iff_eq, Bool.not_eq_true, Bool.not_eq_false, Bool.not_eq_eq_eq_not, Bool.not_true, Bool.not_false, List.length_map, Int.not_lt, Int.not_le, ne_eq, Decidable.not_not] at hc3
        refine vc_skip ?_
        refine hK8 _ ?_
        refine vc_seq fun K12 hK12 => ?_
        refine vc_region ?_
        refine vo_move_pv rfl rfl ?_
        refine vo_call0 Try.func9 rfl rfl rfl rfl (implCountOrders_sat (lists := L) (by omega) (lt17 h2)) ?_
        rintro _ _ ⟨rfl, rfl⟩
        refine ⟨rfl, rfl, .inl rfl, ?_⟩
        refine vo_assign_pv rfl rfl ?_
        refine vo_nil ?_
        refine hK12 _ ?_
        refine vc_seq fun K13 hK13 => ?_
        refine vc_region ?_
        refine vo_move_pv rfl rfl ?_
        refine vo_binI rfl rfl rfl rfl trivial ?_
        refine vo_move_pv rfl rfl ?_
        refine vo_split 37 rfl (fun hg4 => ?_) (fun hg4 => ?_)
        · try simp only [decide_eq_true_eq, decide_eq_false_iff_not, beq_iff_eq, bne_iff_ne, beq_eq_false_iff_ne, bne_eq_false_iff_eq, Bool.not_eq_true, Bool.not_eq_false, Bool.not_eq_eq_eq_not, Bool.not_true, Bool.not_false, List.length_map, Int.not_lt, Int.not_le, ne_eq, Decidable.not_not] at hg4
          refine vo_guard_off rfl rfl rfl rfl rfl ?_
          refine vo_guard_off rfl rfl rfl rfl rfl ?_
          refine vo_guard_off rfl rfl rfl rfl rfl ?_
          refine vo_guard_off rfl rfl rfl rfl rfl ?_
          refine vo_pick_t rfl rfl ?_
          refine vo_assign_pv rfl rfl ?_
          refine vo_nil ?_
          refine hK13 _ ?_
          refine vc_ret ?_
          change retPv _ _ _ _ _
          refine retPv_mk rfl rfl rfl ⟨?_, rfl⟩
          first | rfl | exact absurd trivial (by assumption) | exact absurd rfl (by assumption) | (refine (congrArg (fun b => [bo b]) (?_ : _ = _) : [bo _] = [bo _]); exact decide_eq_true rfl) | (refine (congrArg (fun b => [bo b]) (?_ : _ = _) : [bo _] = [bo _]); exact beq_iff_eq.2 (decide_eq_decide.2 (mg_count (coR_nn (by omega)))))
        · try simp only [decide_eq_true_eq, decide_eq_false_iff_not, beq_iff_eq, bne_iff_ne, beq_eq_false_iff_ne, bne_eq_false_iff_eq, Bool.not_eq_true, Bool.not_eq_false, Bool.not_eq_eq_eq_not, Bool.not_true, Bool.not_false, List.length_map, Int.not_lt, Int.not_le, ne_eq, Decidable.not_not] at hg4
          refine vo_guard_on rfl rfl rfl ?_
          refine vo_move_pv rfl rfl ?_
          refine vo_guard_on rfl rfl rfl ?_
          refine vo_move_pv rfl rfl ?_
          refine vo_guard_on rfl rfl rfl ?_
          refine vo_binI rfl rfl rfl rfl trivial ?_
          refine vo_guard_on rfl rfl rfl ?_
          refine vo_binB rfl rfl rfl rfl Try.underlying4 ?_
          refine vo_pick_f rfl rfl ?_
          refine vo_assign_pv rfl rfl ?_
          refine vo_nil ?_
          refine hK13 _ ?_
          refine vc_ret ?_
          change retPv _ _ _ _ _
          refine retPv_mk rfl rfl rfl ⟨?_, rfl⟩
          first | rfl | exact absurd trivial (by assumption) | exact absurd rfl (by assumption) | (refine (congrArg (fun b => [bo b]) (?_ : _ = _) : [bo _] = [bo _]); exact decide_eq_true rfl) | (refine (congrArg (fun b => [bo b]) (?_ : _ = _) : [bo _] = [bo _]); exact beq_iff_eq.2 (decide_eq_decide.2 (mg_count (coR_nn (by omega)))))

end Go.Vl

/- From a function's contract to the row of a law over bytes. -/
namespace Go.Vl
set_option linter.unusedVariables false
set_option linter.unusedSimpArgs false
open Go.RowKit Go.WideShapes

theorem okWide_spot {P : Program} {W : World} {base : Nat} {t e : TypeId} {a : Addr} {len cap : Nat} (hT : P.underlying t = some (.slice e)) (h : Value.okWide P W .any base t (.slice (some a) len cap)) :
    a.spot = none ∧ a.block < W.heap.size := by
  simp only [Value.okWide, hT, Cell.okWide, Cell.ok, World.has] at h
  obtain ⟨_, _, _, h1, row, cells, h2, _⟩ := h
  refine ⟨h1, ?_⟩
  unfold World.shape? at h2
  rcases Nat.lt_or_ge a.block W.heap.size with h3 | h3
  · exact h3
  · rw [Array.getElem?_eq_none h3] at h2; cases h2

/-- What is known of bytes that come in. -/
def BytesAt (w : World) (a0 : Option Addr) (len cap : Nat) : Prop :=
  (a0 = none ∧ len = 0 ∧ cap = 0) ∨ ∃ (x : Addr) (zs : List Int), a0 = some x ∧ x.spot = none ∧ x.block < w.heap.size ∧ len ≤ cap ∧ zs.length = cap ∧
    (∀ i, i < zs.length → w.cell? (x.add i) = some (.int .u8 (zs.getD i 0))) ∧ ∀ n ∈ zs, (Lit.int .u8 n).wf = true

theorem bytes_pv {w : World} {a0 : Option Addr} {len cap : Nat} {G : Nat → Prop} (hG : ∀ b, b < w.heap.size → G b) (h : BytesAt w a0 len cap) :
    ∃ (nl : Option Bool) (c : List (Fin 256)), RP w G (.sl nl 1 (c.map byteP)) (.slice a0 len cap) := by
  rcases h with ⟨rfl, rfl, rfl⟩ | ⟨x, zs, rfl, hs, hb, hl, hz, hc, hw⟩
  · exact ⟨none, [], .nilsl _ _ (by simp)⟩
  · have hbd : ∀ i, i < zs.length → 0 ≤ zs.getD i 0 ∧ zs.getD i 0 < 256 := by
      intro i hi
      have hm : zs.getD i 0 ∈ zs := by simp [List.getD, List.getElem?_eq_getElem hi]
      have := hw _ hm
      generalize zs.getD i 0 = n at this ⊢
      simp [Lit.wf, IntKind.min, IntKind.max, IntKind.bits, IntKind.signed] at this
      omega
    let c : List (Fin 256) := (List.range len).map fun i => ⟨(zs.getD i 0).toNat % 256, Nat.mod_lt _ (by omega)⟩
    refine ⟨none, c, .sl none 1 _ x len cap (fun i _ => .int .u8 (zs.getD i 0)) (by simp) (fun _ => hs) (by simp [c]) hl (fun _ => hG _ hb) ?_ ?_ ?_⟩
    · intro i y hy
      simp only [List.getElem?_map] at hy
      cases hci : c[i]? with
      | none => rw [hci] at hy; simp at hy
      | some z =>
        rw [hci] at hy
        simp only [Option.map_some, Option.some.injEq] at hy
        subst hy
        exact fits_of rfl
    · intro i y j d hy hd
      simp only [List.getElem?_map] at hy
      cases hci : c[i]? with
      | none => rw [hci] at hy; simp at hy
      | some z =>
        rw [hci] at hy
        simp only [Option.map_some, Option.some.injEq] at hy
        subst hy
        have hi : i < len := by
          rcases Nat.lt_or_ge i len with h1 | h1
          · exact h1
          · have : c[i]? = none := List.getElem?_eq_none (by simp [c]; exact h1)
            rw [this] at hci; cases hci
        have hj : j = 0 := by
          cases j with
          | zero => rfl
          | succ j => simp [PV.cells] at hd
        subst hj
        have := hc i (by omega)
        rw [← this]
        congr 1
        obtain ⟨xb, xo, xs⟩ := x
        simp only at hs
        subst hs
        simp [Addr.add]
    · intro i y j d hy hd
      simp only [List.getElem?_map] at hy
      cases hci : c[i]? with
      | none => rw [hci] at hy; simp at hy
      | some z =>
        rw [hci] at hy
        simp only [Option.map_some, Option.some.injEq] at hy
        subst hy
        have hi : i < len := by
          rcases Nat.lt_or_ge i len with h1 | h1
          · exact h1
          · have : c[i]? = none := List.getElem?_eq_none (by simp [c]; exact h1)
            rw [this] at hci; cases hci
        have hj : j = 0 := by
          cases j with
          | zero => rfl
          | succ j => simp [PV.cells] at hd
        subst hj
        have hd2 : d = byteP z := by simpa [PV.cells] using hd.symm
        subst hd2
        have hz2 : ((z.val : Nat) : Int) = zs.getD i 0 := by
          have e : c[i]? = some ⟨(zs.getD i 0).toNat % 256, Nat.mod_lt _ (by omega)⟩ := by simp [c, hi]
          rw [e] at hci
          simp only [Option.some.injEq] at hci
          have hb := hbd i (by omega)
          rw [← hci]
          show (((zs.getD i 0).toNat % 256 : Nat) : Int) = _
          omega
        rw [← hz2]
        exact .int _ _

theorem law_bytes {P : Program} {f : FuncId} {w : World} {a0 : Option Addr} {len cap : Nat} (hrow : BytesAt w a0 len cap)
    (h : ∀ (nl : Option Bool) (c : List (Fin 256)), SatAt P f [.pv false (.sl nl 1 (c.map byteP))] [] (fun res rows => res = [bo true] ∧ rows = [])) :
    Calls P f #[.slice a0 len cap] w fun e w' => e = .returned (.bool true) ∧ Below w.heap.size w w' := by
  let C : Ctx := ⟨w, fun b => b < w.heap.size, 0, fun _ => default⟩
  have hpriv : ∀ b, ¬ priv [] (fun _ => default) b := by
    rintro b ⟨id, ⟨r, hr, _⟩, _⟩
    simp at hr
  obtain ⟨nl, c, hp⟩ := bytes_pv (G := Gd C [] (fun _ => default) w false) (fun b hb => ⟨hb, hpriv b, fun _ => .inl hb, fun e => by cases e⟩) hrow
  have hsim : SimM C ⟨1, enumE 0 [.pv false (.sl nl 1 (c.map byteP))], []⟩ (fun _ => default) ⟨#[.slice a0 len cap], []⟩ w := {
    defs := rfl
    size := rfl
    os := rfl
    tape := rfl
    output := rfl
    hsz := Nat.le_refl _
    old := fun _ _ _ => rfl
    bor := fun id hid => by cases hid
    nbl := Nat.zero_le _
    newb := fun id b _ ⟨r, hr, _⟩ => by simp at hr
    dist := fun i j b ⟨r, hr, _⟩ => by simp at hr
    rows := fun id r hr => by simp at hr
    env := fun t => by
      show RS _ _ _ _ (look (enumE 0 _) t) _
      rw [look_enumE]
      cases t with
      | zero => exact .pv _ _ _ hp
      | succ t => exact .any _ }
  refine (h nl c C (fun _ => default) #[.slice a0 len cap] rfl (fun b hb => hb) rfl hsim).mono fun e w' hx => ?_
  obtain ⟨us, res, rows', m', rfl, hus, hs, rfl, rfl⟩ := hx
  have hv := hs.env 0
  have h1 : us.size = 1 := hus
  refine ⟨?_, hs.os, hs.tape, hs.output, hs.hsz, fun k hk => hs.old k hk (fun id hid => by cases hid)⟩
  have hv : RS w' (Gd C [] m' w') m' 0 (bo true) (us.getD 0 undef) := hv
  have hb := hv.pv_inv
  unfold pack
  rw [dif_pos h1]
  simp only [Array.getD, h1, Nat.lt_succ_self, dif_pos, Nat.zero_lt_one] at hb
  cases hu : us[0]
  all_goals (simp only [Array.getInternal_eq_getElem, hu] at hb; cases hb)
  rfl
end Go.Vl

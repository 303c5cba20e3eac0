/- Part 5 of the texts that the proof of FnOrderOfMerge is built on. -/
import Derived.Test.YthfiffaipllanaaVl4
import Derived.ProofKit
import Derived.OpenShut
import Derived.Below
import Derived.Deep.Matrix
namespace Go.Vl
set_option linter.unusedVariables false
set_option linter.unusedSimpArgs false
open Go.Proofs

theorem ordM_ne {b : List (List Int)} {c : Nat} (h : ordM b c ≠ []) : (∀ x ∈ b.getD c [], (ordT b c).getD x.toNat [] ≠ []) ∧ hds (mergeM (ordL (ordT b c) (b.getD c []) ++ [b.getD c []])).2 = [] ∧ ordM b c = (c : Int) :: (mergeM (ordL (ordT b c) (b.getD c []) ++ [b.getD c []])).1 := by
  have h1 : ∀ x ∈ b.getD c [], (ordT b c).getD x.toNat [] ≠ [] := by
    intro x hx e
    apply h
    unfold ordM ordS
    rw [if_pos ⟨x, hx, e⟩]
  by_cases h2 : hds (mergeM (ordL (ordT b c) (b.getD c []) ++ [b.getD c []])).2 = []
  · exact ⟨h1, h2, by rw [ordM_go h1, if_pos h2]⟩
  · exact (h (by rw [ordM_go h1, if_neg h2])).elim

/-- What an order merges. -/
def ordLM (b : List (List Int)) (n : Nat) : List (List Int) := (b.getD n []).map (fun x => ordM b x.toNat) ++ [b.getD n []]
def ordX (b : List (List Int)) (n : Nat) : List (List Int) := if ∃ x ∈ b.getD n [], ordM b x.toNat = [] then [] else ordLM b n
theorem ordLM_eq {b : List (List Int)} (hv : VB b) {n : Nat} (hn : n < b.length) : ordL (ordT b n) (b.getD n []) ++ [b.getD n []] = ordLM b n := by
  unfold ordLM ordL
  congr 1
  exact List.map_congr_left fun x hx => ordT_at hv hn hx
theorem ordX_no {b : List (List Int)} {n : Nat} {x : Int} (hx : x ∈ b.getD n []) (h : ordM b x.toNat = []) : ordX b n = [] := if_pos ⟨x, hx, h⟩
theorem ordX_yes {b : List (List Int)} {n : Nat} (h : ∀ x ∈ b.getD n [], ordM b x.toNat ≠ []) : ordX b n = ordLM b n := if_neg fun ⟨x, h1, h2⟩ => h x h1 h2
theorem ordX_okl {b : List (List Int)} (hv : VB b) {n : Nat} (hn : n < b.length) : OKLs (ordLM b n) := by
  rw [← ordLM_eq hv hn]
  refine ⟨fun l hl => ?_, ?_⟩
  · obtain ⟨h1, h2, _⟩ := ordL_ok hv hn (fun k hk => ordM_ok hv k (by omega)) l hl
    exact ⟨by omega, h1⟩
  · have h4 := (((vb_iff b).1 hv).2 n hn).2.1
    rw [List.length_append, List.length_singleton]
    unfold ordL
    rw [List.length_map]; omega
structure OmL (b : List (List Int)) (n : Nat) : Prop where
  nil : ordX b n = [] → ordM b n = []
  ok : ordX b n ≠ [] → OKLs (ordX b n) ∧ (ordM b n ≠ [] ↔ mgOK (ordX b n)) ∧ (mgOK (ordX b n) → ordM b n = (n : Int) :: mgR (ordX b n))
theorem omL_of {b : List (List Int)} (hv : VB b) {n : Nat} (hn : n < b.length) : OmL b n := by
  by_cases h : ∃ x ∈ b.getD n [], ordM b x.toNat = []
  · have e : ordX b n = [] := if_pos h
    obtain ⟨x, hx, hm⟩ := h
    exact ⟨fun _ => ordM_stuck hv hn hx hm, fun h2 => absurd e h2⟩
  · have h' : ∀ x ∈ b.getD n [], ordM b x.toNat ≠ [] := fun x h1 h2 => h ⟨x, h1, h2⟩
    have e : ordX b n = ordLM b n := ordX_yes h'
    have hok := ordX_okl hv hn
    have hgo := ordM_go (b := b) (c := n) (fun x hx => by rw [ordT_at hv hn hx]; exact h' x hx)
    rw [ordLM_eq hv hn] at hgo
    refine ⟨fun h2 => by rw [e] at h2; unfold ordLM at h2; simp at h2, fun _ => ?_⟩
    rw [e]
    refine ⟨hok, ?_, fun hm => ?_⟩
    · rw [hgo]
      constructor
      · intro h2
        refine ⟨hok, ?_⟩
        exact Classical.byContradiction fun h3 => h2 (if_neg h3)
      · intro hm; rw [if_pos hm.2]; simp
    · rw [hgo, if_pos hm.2, mgR_yes hm]
theorem coR_om {L : List (List Int)} (h : OKLs L) (h0 : ¬ coR L < 0) : mgOK L ↔ 0 < coR L := mg_count (coR_nn (by omega))
theorem ordLM_take {b : List (List Int)} {n k : Nat} (h : k < (b.getD n []).length) : ((b.getD n []).take k).map (fun x => ordM b x.toNat) ++ [ordM b ((b.getD n []).getD k 0).toNat] = ((b.getD n []).take (k+1)).map (fun x => ordM b x.toNat) := by
  rw [List.take_succ_eq_append_getElem h, List.map_append, getD_at h]; rfl
theorem ordX_bd {b : List (List Int)} (hv : VB b) {n : Nat} (hn : n < b.length) : (ordX b n).length ≤ 6 ∧ ∀ l ∈ ordX b n, l.length ≤ 12 := by
  by_cases h : ∃ x ∈ b.getD n [], ordM b x.toNat = []
  · rw [show ordX b n = [] from if_pos h]; exact ⟨by simp, fun l hl => by cases hl⟩
  · rw [show ordX b n = ordLM b n from if_neg h]
    have := ordX_okl hv hn
    exact ⟨this.2, fun l hl => by have := (this.1 l hl).1; omega⟩
theorem mgR_len72 {L : List (List Int)} (h : OKLs L) : (mgR L).length ≤ 72 := by
  by_cases h2 : mgOK L
  · rw [mgR_yes h2]
    have h3 := mgO_len L
    have h4 := tot_le (K := 12) (ls := L) fun l hl => by have := (h.1 l hl).1; omega
    have h5 := h.2
    omega
  · rw [mgR_no h2]; simp
theorem orOK_iff {b : List (List Int)} {c : Int} (hv : VB b) (h0 : 0 ≤ c) (h1 : c < b.length) : orOK b c ↔ ordM b c.toNat ≠ [] := ⟨fun h => h.2, fun h => ⟨⟨hv, h0, h1⟩, h⟩⟩
theorem row1_ss {el : TypeId} {e : Nat} {nl : Option Bool} {f : Bool} {a b : List (List Int)} (h : a = b) : [Row.own el e nl f (a.map ints)] = [Row.own el e nl f (b.map ints)] := by rw [h]

theorem join_sat {nl0 nl1 : Option Bool} {a b : List Int} (ha : a.length < 1000000000) (hb : b.length < 1000000000) : SatAt Try.prog 15 [.pv false (.sl nl0 1 (a.map intP)), .pv false (.sl nl1 1 (b.map intP))] [] (fun res rows => ∃ nl, res = [.ref 0] ∧ rows = [Row.own 3 1 nl true ((a ++ b).map intP)]) := by
  refine sat_entry_g (ts := [4]) Try.func15 rfl rfl (by decide) (Nat.le_of_ble_eq_true rfl) fun C hC => ?_
  rw [Try.ntmps15]
  replace hC : C.nb = 0 := hC
  refine vc_seq fun K1 hK1 => ?_
  refine vc_region ?_
  refine vo_assign_pv rfl rfl ?_
  refine vo_nil ?_
  refine hK1 _ ?_
  refine vc_seq fun K2 hK2 => ?_
  refine vc_region ?_
  refine vo_buildSlice E25 rfl rfl rfl rfl rfl ?_
  refine vo_move_pv rfl rfl ?_
  refine vo_append E25 rfl (by omega) rfl rfl rfl sd sd ?_
  refine vo_stN ?_
  try simp only [app_ints, app_intss, app_bools]
  refine vo_move_pv rfl rfl ?_
  refine vo_append E25 rfl (by omega) rfl rfl rfl sd sd ?_
  refine vo_stN ?_
  try simp only [app_ints, app_intss, app_bools]
  refine vo_st (by simp only [← List.map_append]; exact eq_refl _) ?_
  refine vo_clean 0 rfl (scal_ints _) ?_
  refine vo_stN ?_
  refine vo_assign_ref rfl rfl ?_
  refine vo_nil ?_
  refine hK2 _ ?_
  refine vc_ret ?_
  change retG _ _ _ _ _
  refine retG_one 0 hC rfl rfl rfl rfl rfl ?_
  exact ⟨_, rfl, rfl⟩


theorem orders_sat {nl0 : Option Bool} {bases : List (List Int)} {c : Int} (hbases : bases.length < 1000000000) (hlbases : ∀ l ∈ bases, l.length < 1000000000) (hv : VB bases) (h0 : 0 ≤ c) (h1 : c < bases.length) : SatAt Try.prog 14 [.pv false (.sl nl0 1 (bases.map ints)), i64 c] [] (fun res rows => ∃ (nl : Option Bool) (f : Bool), res = [.ref 0] ∧ rows = [Row.own 25 1 nl f ((ordX bases c.toNat).map ints)]) := by
  have hB4 := (((vb_iff bases).1 hv).2 c.toNat (by omega)).2.1
  refine sat_entry_g (ts := [4]) Try.func14 rfl rfl (by decide) (Nat.le_of_ble_eq_true rfl) fun C hC => ?_
  rw [Try.ntmps14]
  replace hC : C.nb = 0 := hC
  refine vc_seq fun K1 hK1 => ?_
  refine vc_region ?_
  refine vo_assign_pv rfl rfl ?_
  refine vo_nil ?_
  refine hK1 _ ?_
  refine vc_seq fun K2 hK2 => ?_
  refine vc_region ?_
  refine vo_buildSlice E23 rfl rfl rfl rfl rfl ?_
  refine vo_assign_ref rfl rfl ?_
  refine vo_nil ?_
  refine hK2 _ ?_
  refine vc_seq fun K3 hK3 => ?_
  refine vc_seq fun K4 hK4 => ?_
  refine vc_region ?_
  refine vo_assign_pv rfl rfl ?_
  refine vo_nil ?_
  refine hK4 _ ?_
  refine vc_block ?_
  refine vc_stN ?_
  refine vc_loop [0, 1, 5, 6] (fun mz vs rows => ∃ (k : Nat), mz = (bases.getD c.toNat []).length - k ∧ (k ≤ (bases.getD c.toNat []).length) ∧ (∀ x ∈ (bases.getD c.toNat []).take k, ordM bases x.toNat ≠ []) ∧ vs = [.pv false (.sl nl0 1 (bases.map ints)), i64 c, .ref 0, i64 k] ∧ rows = [Row.own 25 1 (some false) true ((((bases.getD c.toNat []).take k).map (fun x => ordM bases x.toNat)).map ints)]) ((bases.getD c.toNat []).length) (le_len hC rfl) ⟨rfl, rfl⟩ ⟨0, rfl, Nat.zero_le _, (by simp), rfl, rfl⟩ ?_
  rintro mz vs rows - - ⟨k, rfl, hk, hp, rfl, rfl⟩
  have hol : (((bases.getD c.toNat []).take k).map (fun x => ordM bases x.toNat)).length ≤ 4 := by rw [List.length_map, List.length_take]; omega
  refine vc_seq fun K5 hK5 => ?_
  refine vc_seq fun K6 hK6 => ?_
  refine vc_region ?_
  refine vo_move_pv rfl rfl ?_
  refine vo_move_pv rfl rfl ?_
  refine vo_move_pv rfl rfl ?_
  refine vo_index_pv (.sl none 1 []) rfl rfl rfl E23.und inf25 sz25 sd sd ?_
  simp only [Int.toNat_natCast, Int.toNat_zero, getD_ints, getD_intss, getD_bools, getD_bytes, PV.cells]
  refine vo_load_adr rfl rfl Try.underlying25 rfl ?_
  refine vo_len_pv rfl rfl Try.underlying25 ?_
  refine vo_binI rfl rfl rfl rfl trivial ?_
  refine vo_nil ?_
  refine hK6 _ ?_
  refine vc_cond rfl (fun hc1 => ?_) (fun hc1 => ?_)
  · try simp only [decide_eq_true_eq, decide_eq_false_iff_not, beq_iff_eq, bne_iff_ne, beq_eq_false_iff_ne, bne_eq_false_iff_eq, Bool.not_eq_true, Bool.not_eq_false, Bool.not_eq_eq_eq_not, Bool.not_true, Bool.not_false, List.length_map, Int.not_lt, Int.not_le, ne_eq, Decidable.not_not] at hc1
    have hm := getD_mem (show k < (bases.getD c.toNat []).length by omega) 0
    have hb := hv.bd hm
    have hoi := orOK_iff hv (c := ((bases.getD c.toNat []).getD k 0)) hb.1 (by omega)
    refine vc_skip ?_
    refine hK5 _ ?_
    refine vc_seq fun K7 hK7 => ?_
    refine vc_block ?_
    refine vc_seq fun K8 hK8 => ?_
    refine vc_region ?_
    refine vo_move_pv rfl rfl ?_
    refine vo_move_pv rfl rfl ?_
    refine vo_move_pv rfl rfl ?_
    refine vo_index_pv (.sl none 1 []) rfl rfl rfl E23.und inf25 sz25 sd sd ?_
    simp only [Int.toNat_natCast, Int.toNat_zero, getD_ints, getD_intss, getD_bools, getD_bytes, PV.cells]
    refine vo_load_adr rfl rfl Try.underlying25 rfl ?_
    refine vo_move_pv rfl rfl ?_
    refine vo_index_pv (.int .i64 0) rfl rfl rfl E25.und inf3 sz3 sd sd ?_
    simp only [Int.toNat_natCast, Int.toNat_zero, getD_ints, getD_intss, getD_bools, getD_bytes, PV.cells]
    refine vo_load_adr rfl rfl Try.underlying3 rfl ?_
    refine vo_call [] Try.func11 rfl rfl rfl rfl rfl rfl rfl (implOrderOf_sat (c := ((bases.getD c.toNat []).getD k 0)) hbases hlbases) ?_
    rintro _ _ ⟨R1, nl6, rfl, rfl⟩
    refine ⟨Nat.le_of_ble_eq_true rfl, ⟨rfl, rfl, rfl⟩, .inl rfl, ?_⟩
    refine vo_stN ?_
    refine vo_move rfl ?_
    refine vo_extract rfl rfl rfl ?_
    refine vo_extract rfl rfl rfl ?_
    refine vo_assign_ref rfl rfl ?_
    refine vo_assign_pv rfl rfl ?_
    refine vo_nil ?_
    refine hK8 _ ?_
    refine vc_seq fun K9 hK9 => ?_
    refine vc_seq fun K10 hK10 => ?_
    refine vc_region ?_
    refine vo_move_pv rfl rfl ?_
    refine vo_not rfl rfl ?_
    refine vo_nil ?_
    refine hK10 _ ?_
    refine vc_cond rfl (fun hc2 => ?_) (fun hc2 => ?_)
    · try simp only [decide_eq_true_eq, decide_eq_false_iff_not, beq_iff_eq, bne_iff_ne, beq_eq_false_iff_ne, bne_eq_false_iff_eq, Bool.not_eq_true, Bool.not_eq_false, Bool.not_eq_eq_eq_not, Bool.not_true, Bool.not_false, List.length_map, Int.not_lt, Int.not_le, ne_eq, Decidable.not_not] at hc2
      have hE : ordM bases ((bases.getD c.toNat []).getD k 0).toNat = [] := Classical.byContradiction fun e => hc2 (hoi.2 e)
      refine vc_seq fun K11 hK11 => ?_
      refine vc_region ?_
      refine vo_buildSlice E23 rfl rfl rfl rfl rfl ?_
      refine vo_assign_ref rfl rfl ?_
      refine vo_nil ?_
      refine hK11 _ ?_
      refine vc_ret ?_
      change retG _ _ _ _ _
      refine retG_one 2 hC rfl rfl rfl rfl rfl ?_
      rw [ordX_no hm hE]; exact ⟨_, _, rfl, rfl⟩
    · try simp only [decide_eq_true_eq, decide_eq_false_iff_not, beq_iff_eq, bne_iff_ne, beq_eq_false_iff_ne, bne_eq_false_iff_eq, Bool.not_eq_true, Bool.not_eq_false, Bool.not_eq_eq_eq_not, Bool.not_true, Bool.not_false, List.length_map, Int.not_lt, Int.not_le, ne_eq, Decidable.not_not] at hc2
      have hoy := orR_yes (b := bases) (c := ((bases.getD c.toNat []).getD k 0)) (by simpa using hc2)
      have hnz := hoi.1 (by simpa using hc2)
      refine vc_skip ?_
      refine hK9 _ ?_
      refine vc_region ?_
      refine vo_move_ref rfl rfl ?_
      refine vo_move_ref rfl rfl ?_
      refine vo_expose 1 (by omega) rfl ?_
      refine vo_weaken 35 rfl ?_
      refine vo_stN ?_
      refine vo_buildSlice E23 rfl rfl rfl rfl rfl ?_
      refine vo_append E23 rfl (by omega) rfl rfl rfl sd sd ?_
      refine vo_stN ?_
      try simp only [app_ints, app_intss, app_bools]
      refine vo_assign_ref rfl rfl ?_
      refine vo_nil ?_
      refine hK7 _ ?_
      refine vc_region ?_
      refine vo_move_pv rfl rfl ?_
      refine vo_binI rfl rfl rfl rfl sd ?_
      refine vo_assign_pv rfl rfl ?_
      refine vo_nil ?_
      change again _ _ _ _ _ _
      refine again_mk rfl rfl rfl rfl ⟨_, ?_, k + 1, rfl, ?_, ?_, rfl, (row1_ss (by rw [hoy]; exact ordLM_take (by omega)))⟩
      · omega
      · omega
      · exact (all_take_succ (by omega) 0).2 ⟨hp, hnz⟩
  · try simp only [decide_eq_true_eq, decide_eq_false_iff_not, beq_iff_eq, bne_iff_ne, beq_eq_false_iff_ne, bne_eq_false_iff_eq, Bool.not_eq_true, Bool.not_eq_false, Bool.not_eq_eq_eq_not, Bool.not_true, Bool.not_false, List.length_map, Int.not_lt, Int.not_le, ne_eq, Decidable.not_not] at hc1
    refine vc_exit ?_
    refine hK3 _ ?_
    refine vc_seq fun K12 hK12 => ?_
    refine vc_region ?_
    refine vo_move_ref rfl rfl ?_
    refine vo_move_pv rfl rfl ?_
    refine vo_move_pv rfl rfl ?_
    refine vo_index_pv (.sl none 1 []) rfl rfl rfl E23.und inf25 sz25 sd sd ?_
    simp only [Int.toNat_natCast, Int.toNat_zero, getD_ints, getD_intss, getD_bools, getD_bytes, PV.cells]
    refine vo_load_adr rfl rfl Try.underlying25 rfl ?_
    refine vo_weaken 42 rfl ?_
    refine vo_buildSlice E23 rfl rfl rfl rfl rfl ?_
    refine vo_append E23 rfl (by omega) rfl rfl rfl sd sd ?_
    refine vo_stN ?_
    try simp only [app_ints, app_intss, app_bools]
    refine vo_assign_ref rfl rfl ?_
    refine vo_nil ?_
    refine hK12 _ ?_
    refine vc_ret ?_
    change retG _ _ _ _ _
    refine retG_one 0 hC rfl rfl rfl rfl rfl ?_
    rw [take_all (by omega)] at hp ⊢
    rw [ordX_yes hp]; exact ⟨_, _, rfl, rfl⟩


theorem FnOrderOfMerge_sat {nl : Option Bool} {c : List (Fin 256)} : SatAt Try.prog 4 [.pv false (.sl nl 1 (c.map byteP))] [] (fun res rows => res = [bo true] ∧ rows = []) := by
  refine sat_entry (ts := [2]) Try.func4 rfl rfl (by decide) (Nat.le_of_ble_eq_true rfl) fun C hC => ?_
  rw [Try.ntmps4]
  replace hC : C.nb = 0 := hC
  refine vc_seq fun K1 hK1 => ?_
  refine vc_region ?_
  refine vo_assign_pv rfl rfl ?_
  refine vo_nil ?_
  refine hK1 _ ?_
  refine vc_seq fun K2 hK2 => ?_
  refine vc_seq fun K3 hK3 => ?_
  refine vc_region ?_
  refine vo_move_pv rfl rfl ?_
  refine vo_len_pv rfl rfl Try.underlying22 ?_
  refine vo_binI rfl rfl rfl rfl trivial ?_
  refine vo_nil ?_
  refine hK3 _ ?_
  refine vc_cond rfl (fun hc1 => ?_) (fun hc1 => ?_)
  · try simp only [decide_eq_true_eq, decide_eq_false_iff_not, beq_iff_eq, bne_iff_ne, beq_eq_false_iff_ne, bne_eq_false_iff_eq, Bool.not_eq_true, Bool.not_eq_false, Bool.not_eq_eq_eq_not, Bool.not_true, Bool.not_false, List.length_map, Int.not_lt, Int.not_le, ne_eq, Decidable.not_not] at hc1
    refine vc_seq fun K4 hK4 => ?_
    refine vc_region ?_
    refine vo_assign_pv rfl rfl ?_
    refine vo_nil ?_
    refine hK4 _ ?_
    refine vc_ret ?_
    change retPv _ _ _ _ _
    refine retPv_mk rfl rfl rfl ⟨?_, rfl⟩
    rfl
  · try simp only [decide_eq_true_eq, decide_eq_false_iff_not, beq_iff_eq, bne_iff_ne, beq_eq_false_iff_ne, bne_eq_false_iff_eq, Bool.not_eq_true, Bool.not_eq_false, Bool.not_eq_eq_eq_not, Bool.not_true, Bool.not_false, List.length_map, Int.not_lt, Int.not_le, ne_eq, Decidable.not_not] at hc1
    refine vc_skip ?_
    refine hK2 _ ?_
    refine vc_seq fun K5 hK5 => ?_
    refine vc_region ?_
    refine vo_move_pv rfl rfl ?_
    refine vo_call [] Try.func10 rfl rfl rfl rfl rfl rfl rfl (DrawOrderOf_sat (by omega)) ?_
    rintro _ _ ⟨B, z, f, ⟨h1, h2, h3, h5, h6⟩, rfl, rfl⟩
    refine ⟨Nat.le_of_ble_eq_true rfl, ⟨rfl, rfl, rfl⟩, .inl rfl, ?_⟩
    refine vo_stN ?_
    refine vo_move rfl ?_
    refine vo_extract rfl rfl rfl ?_
    refine vo_extract rfl rfl rfl ?_
    refine vo_assign_ref rfl rfl ?_
    refine vo_expose 0 (by omega) rfl ?_
    refine vo_stN ?_
    refine vo_assign_pv rfl rfl ?_
    refine vo_nil ?_
    refine hK5 _ ?_
    refine vc_seq fun K6 hK6 => ?_
    refine vc_region ?_
    refine vo_move_pv rfl rfl ?_
    refine vo_move_pv rfl rfl ?_
    refine vo_call [] Try.func11 rfl rfl rfl rfl rfl rfl rfl (implOrderOf_sat (c := z) (by omega) (lt3 h3)) ?_
    rintro _ _ ⟨R1, nl6, rfl, rfl⟩
    refine ⟨Nat.le_of_ble_eq_true rfl, ⟨rfl, rfl, rfl⟩, .inl rfl, ?_⟩
    refine vo_stN ?_
    refine vo_move rfl ?_
    refine vo_extract rfl rfl rfl ?_
    refine vo_extract rfl rfl rfl ?_
    refine vo_assign_ref rfl rfl ?_
    refine vo_assign_pv rfl rfl ?_
    refine vo_nil ?_
    refine hK6 _ ?_
    refine vc_seq fun K7 hK7 => ?_
    refine vc_region ?_
    refine vo_move_pv rfl rfl ?_
    refine vo_move_pv rfl rfl ?_
    refine vo_call [] Try.func12 rfl rfl rfl rfl rfl rfl rfl (specOrderOf_sat (c := z) (by omega) (lt3 h3)) ?_
    rintro _ _ ⟨nl7, rfl, rfl⟩
    refine ⟨Nat.le_of_ble_eq_true rfl, ⟨rfl, rfl, rfl⟩, .inl rfl, ?_⟩
    refine vo_stN ?_
    refine vo_move rfl ?_
    refine vo_extract rfl rfl rfl ?_
    refine vo_extract rfl rfl rfl ?_
    refine vo_assign_ref rfl rfl ?_
    refine vo_assign_pv rfl rfl ?_
    refine vo_nil ?_
    refine hK7 _ ?_
    refine vc_seq fun K8 hK8 => ?_
    refine vc_seq fun K9 hK9 => ?_
    refine vc_region ?_
    refine vo_move_ref rfl rfl ?_
    refine vo_move_ref rfl rfl ?_
    refine vo_call0 Try.func8 rfl rfl rfl rfl (equalInts_sat (a := orR B z) (b := orR B z) orR_len orR_len) ?_
    rintro _ _ ⟨rfl, rfl⟩
    refine ⟨rfl, rfl, .inr rfl, ?_⟩
    refine vo_not rfl rfl ?_
    refine vo_move_pv rfl rfl ?_
    refine vo_split 37 rfl (fun hg2 => ?_) (fun hg2 => ?_)
    · try simp only [decide_eq_true_eq, decide_eq_false_iff_not, beq_iff_eq, bne_iff_ne, beq_eq_false_iff_ne, bne_eq_false_iff_eq, Bool.not_eq_true, Bool.not_eq_false, Bool.not_eq_eq_eq_not, Bool.not_true, Bool.not_false, List.length_map, Int.not_lt, Int.not_le, ne_eq, Decidable.not_not] at hg2
      refine vo_guard_off rfl rfl rfl rfl rfl ?_
      refine vo_guard_off rfl rfl rfl rfl rfl ?_
      refine vo_guard_off rfl rfl rfl rfl rfl ?_
      refine vo_pick_t rfl rfl ?_
      refine vo_nil ?_
      refine hK9 _ ?_
      refine vc_cond_t rfl ?_
      refine vc_seq fun K10 hK10 => ?_
      refine vc_region ?_
      refine vo_assign_pv rfl rfl ?_
      refine vo_nil ?_
      refine hK10 _ ?_
      refine vc_ret ?_
      change retPv _ _ _ _ _
      refine retPv_mk rfl rfl rfl ⟨?_, rfl⟩
      first | rfl | exact absurd trivial (by assumption) | exact absurd rfl (by assumption) | (refine (congrArg (fun b => [bo b]) (?_ : _ = _) : [bo _] = [bo _]); exact decide_eq_true rfl) | (refine (congrArg (fun b => [bo b]) (?_ : _ = _) : [bo _] = [bo _]); first | (show (!decide (orOK B z)) = true; rw [decide_eq_false hno]; rfl) | exact beq_iff_eq.2 (decide_eq_decide.2 (e1.trans (coR_om o1 (by omega))))) | (refine (congrArg (fun b => [bo b]) (?_ : _ = _) : [bo _] = [bo _]); show (!decide (orOK B z)) = true; rw [decide_eq_false (fun h => by first | exact absurd h.1.1 (by assumption) | (have := h.1.2; omega))]; rfl) | exact absurd (decide_eq_decide.2 e1) hg8 | exact absurd (e2 (by assumption)) (by assumption) | exact absurd (e2 (by simpa using hg9)) (by assumption)
    · try simp only [decide_eq_true_eq, decide_eq_false_iff_not, beq_iff_eq, bne_iff_ne, beq_eq_false_iff_ne, bne_eq_false_iff_eq, Bool.not_eq_true, Bool.not_eq_false, Bool.not_eq_eq_eq_not, Bool.not_true, Bool.not_false, List.length_map, Int.not_lt, Int.not_le, ne_eq, Decidable.not_not] at hg2
      refine vo_guard_on rfl rfl rfl ?_
      refine vo_move_pv rfl rfl ?_
      refine vo_guard_on rfl rfl rfl ?_
      refine vo_move_pv rfl rfl ?_
      refine vo_guard_on rfl rfl rfl ?_
      refine vo_binB rfl rfl rfl rfl Try.underlying4 ?_
      refine vo_pick_f rfl rfl ?_
      refine vo_nil ?_
      refine hK9 _ ?_
      refine vc_cond rfl (fun hc3 => ?_) (fun hc3 => ?_)
      · try simp only [decide_eq_true_eq, decide_eq_false_iff_not, beq_iff_eq, bne_iff_ne, beq_eq_false_iff_ne, bne_eq_false_iff_eq, Bool.not_eq_true, Bool.not_eq_false, Bool.not_eq_eq_eq_not, Bool.not_true, Bool.not_false, List.length_map, Int.not_lt, Int.not_le, ne_eq, Decidable.not_not] at hc3
        refine vc_seq fun K11 hK11 => ?_
        refine vc_region ?_
        refine vo_assign_pv rfl rfl ?_
        refine vo_nil ?_
        refine hK11 _ ?_
        refine vc_ret ?_
        change retPv _ _ _ _ _
        refine retPv_mk rfl rfl rfl ⟨?_, rfl⟩
        first | rfl | exact absurd trivial (by assumption) | exact absurd rfl (by assumption) | (refine (congrArg (fun b => [bo b]) (?_ : _ = _) : [bo _] = [bo _]); exact decide_eq_true rfl) | (refine (congrArg (fun b => [bo b]) (?_ : _ = _) : [bo _] = [bo _]); first | (show (!decide (orOK B z)) = true; rw [decide_eq_false hno]; rfl) | exact beq_iff_eq.2 (decide_eq_decide.2 (e1.trans (coR_om o1 (by omega))))) | (refine (congrArg (fun b => [bo b]) (?_ : _ = _) : [bo _] = [bo _]); show (!decide (orOK B z)) = true; rw [decide_eq_false (fun h => by first | exact absurd h.1.1 (by assumption) | (have := h.1.2; omega))]; rfl) | exact absurd (decide_eq_decide.2 e1) hg8 | exact absurd (e2 (by assumption)) (by assumption) | exact absurd (e2 (by simpa using hg9)) (by assumption)
      · try simp only [decide_eq_true_eq, decide_eq_false_iff_not, beq_iff_eq, bne_iff_ne, beq_eq_false_iff_ne, bne_eq_false_iff_eq, Bool.not_eq_true, Bool.not_eq_false, Bool.not_eq_eq_eq_not, Bool.not_true, Bool.not_false, List.length_map, Int.not_lt, Int.not_le, ne_eq, Decidable.not_not] at hc3
        refine vc_skip ?_
        refine hK8 _ ?_
        refine vc_seq fun K12 hK12 => ?_
        refine vc_seq fun K13 hK13 => ?_
        refine vc_region ?_
        refine vo_move_pv rfl rfl ?_
        refine vo_call0 Try.func13 rfl rfl rfl rfl (implValidBases_sat (by omega) (lt3 h3)) ?_
        rintro _ _ ⟨rfl, rfl⟩
        refine ⟨rfl, rfl, .inl rfl, ?_⟩
        refine vo_not rfl rfl ?_
        refine vo_move_pv rfl rfl ?_
        refine vo_split 45 rfl (fun hg4 => ?_) (fun hg4 => ?_)
        · try simp only [decide_eq_true_eq, decide_eq_false_iff_not, beq_iff_eq, bne_iff_ne, beq_eq_false_iff_ne, bne_eq_false_iff_eq, Bool.not_eq_true, Bool.not_eq_false, Bool.not_eq_eq_eq_not, Bool.not_true, Bool.not_false, List.length_map, Int.not_lt, Int.not_le, ne_eq, Decidable.not_not] at hg4
          refine vo_guard_off rfl rfl rfl rfl rfl ?_
          refine vo_guard_off rfl rfl rfl rfl rfl ?_
          refine vo_pick_t rfl rfl ?_
          refine vo_move_pv rfl rfl ?_
          refine vo_guard_off rfl rfl rfl rfl rfl ?_
          refine vo_guard_off rfl rfl rfl rfl rfl ?_
          refine vo_guard_off rfl rfl rfl rfl rfl ?_
          refine vo_guard_off rfl rfl rfl rfl rfl ?_
          refine vo_pick_t rfl rfl ?_
          refine vo_nil ?_
          refine hK13 _ ?_
          refine vc_cond_t rfl ?_
          refine vc_seq fun K14 hK14 => ?_
          refine vc_region ?_
          refine vo_move_pv rfl rfl ?_
          refine vo_not rfl rfl ?_
          refine vo_assign_pv rfl rfl ?_
          refine vo_nil ?_
          refine hK14 _ ?_
          refine vc_ret ?_
          change retPv _ _ _ _ _
          refine retPv_mk rfl rfl rfl ⟨?_, rfl⟩
          first | rfl | exact absurd trivial (by assumption) | exact absurd rfl (by assumption) | (refine (congrArg (fun b => [bo b]) (?_ : _ = _) : [bo _] = [bo _]); exact decide_eq_true rfl) | (refine (congrArg (fun b => [bo b]) (?_ : _ = _) : [bo _] = [bo _]); first | (show (!decide (orOK B z)) = true; rw [decide_eq_false hno]; rfl) | exact beq_iff_eq.2 (decide_eq_decide.2 (e1.trans (coR_om o1 (by omega))))) | (refine (congrArg (fun b => [bo b]) (?_ : _ = _) : [bo _] = [bo _]); show (!decide (orOK B z)) = true; rw [decide_eq_false (fun h => by first | exact absurd h.1.1 (by assumption) | (have := h.1.2; omega))]; rfl) | exact absurd (decide_eq_decide.2 e1) hg8 | exact absurd (e2 (by assumption)) (by assumption) | exact absurd (e2 (by simpa using hg9)) (by assumption)
        · try simp only [decide_eq_true_eq, decide_eq_false_iff_not, beq_iff_eq, bne_iff_ne, beq_eq_false_iff_ne, bne_eq_false_iff_eq, Bool.not_eq_true, Bool.not_eq_false, Bool.not_eq_eq_eq_not, Bool.not_true, Bool.not_false, List.length_map, Int.not_lt, Int.not_le, ne_eq, Decidable.not_not] at hg4
          refine vo_guard_on rfl rfl rfl ?_
          refine vo_move_pv rfl rfl ?_
          refine vo_guard_on rfl rfl rfl ?_
          refine vo_binI rfl rfl rfl rfl trivial ?_
          refine vo_pick_f rfl rfl ?_
          refine vo_move_pv rfl rfl ?_
          refine vo_split 49 rfl (fun hg5 => ?_) (fun hg5 => ?_)
          · try simp only [decide_eq_true_eq, decide_eq_false_iff_not, beq_iff_eq, bne_iff_ne, beq_eq_false_iff_ne, bne_eq_false_iff_eq, Bool.not_eq_true, Bool.not_eq_false, Bool.not_eq_eq_eq_not, Bool.not_true, Bool.not_false, List.length_map, Int.not_lt, Int.not_le, ne_eq, Decidable.not_not] at hg5
            refine vo_guard_off rfl rfl rfl rfl rfl ?_
            refine vo_guard_off rfl rfl rfl rfl rfl ?_
            refine vo_guard_off rfl rfl rfl rfl rfl ?_
            refine vo_guard_off rfl rfl rfl rfl rfl ?_
            refine vo_pick_t rfl rfl ?_
            refine vo_nil ?_
            refine hK13 _ ?_
            refine vc_cond_t rfl ?_
            refine vc_seq fun K15 hK15 => ?_
            refine vc_region ?_
            refine vo_move_pv rfl rfl ?_
            refine vo_not rfl rfl ?_
            refine vo_assign_pv rfl rfl ?_
            refine vo_nil ?_
            refine hK15 _ ?_
            refine vc_ret ?_
            change retPv _ _ _ _ _
            refine retPv_mk rfl rfl rfl ⟨?_, rfl⟩
            first | rfl | exact absurd trivial (by assumption) | exact absurd rfl (by assumption) | (refine (congrArg (fun b => [bo b]) (?_ : _ = _) : [bo _] = [bo _]); exact decide_eq_true rfl) | (refine (congrArg (fun b => [bo b]) (?_ : _ = _) : [bo _] = [bo _]); first | (show (!decide (orOK B z)) = true; rw [decide_eq_false hno]; rfl) | exact beq_iff_eq.2 (decide_eq_decide.2 (e1.trans (coR_om o1 (by omega))))) | (refine (congrArg (fun b => [bo b]) (?_ : _ = _) : [bo _] = [bo _]); show (!decide (orOK B z)) = true; rw [decide_eq_false (fun h => by first | exact absurd h.1.1 (by assumption) | (have := h.1.2; omega))]; rfl) | exact absurd (decide_eq_decide.2 e1) hg8 | exact absurd (e2 (by assumption)) (by assumption) | exact absurd (e2 (by simpa using hg9)) (by assumption)
          · try simp only [decide_eq_true_eq, decide_eq_false_iff_not, beq_iff_eq, bne_iff_ne, beq_eq_false_iff_ne, bne_eq_false_iff_eq, Bool.not_eq_true, Bool.not_eq_false, Bool.not_eq_eq_eq_not, Bool.not_true, Bool.not_false, List.length_map, Int.not_lt, Int.not_le, ne_eq, Decidable.not_not] at hg5
            refine vo_guard_on rfl rfl rfl ?_
            refine vo_move_pv rfl rfl ?_
            refine vo_guard_on rfl rfl rfl ?_
            refine vo_move_pv rfl rfl ?_
            refine vo_guard_on rfl rfl rfl ?_
            refine vo_len_pv rfl rfl Try.underlying23 ?_
            refine vo_guard_on rfl rfl rfl ?_
            refine vo_binI rfl rfl rfl rfl trivial ?_
            refine vo_pick_f rfl rfl ?_
            refine vo_nil ?_
            refine hK13 _ ?_
            refine vc_cond rfl (fun hc6 => ?_) (fun hc6 => ?_)
            · try simp only [decide_eq_true_eq, decide_eq_false_iff_not, beq_iff_eq, bne_iff_ne, beq_eq_false_iff_ne, bne_eq_false_iff_eq, Bool.not_eq_true, Bool.not_eq_false, Bool.not_eq_eq_eq_not, Bool.not_true, Bool.not_false, List.length_map, Int.not_lt, Int.not_le, ne_eq, Decidable.not_not] at hc6
              refine vc_seq fun K16 hK16 => ?_
              refine vc_region ?_
              refine vo_move_pv rfl rfl ?_
              refine vo_not rfl rfl ?_
              refine vo_assign_pv rfl rfl ?_
              refine vo_nil ?_
              refine hK16 _ ?_
              refine vc_ret ?_
              change retPv _ _ _ _ _
              refine retPv_mk rfl rfl rfl ⟨?_, rfl⟩
              first | rfl | exact absurd trivial (by assumption) | exact absurd rfl (by assumption) | (refine (congrArg (fun b => [bo b]) (?_ : _ = _) : [bo _] = [bo _]); exact decide_eq_true rfl) | (refine (congrArg (fun b => [bo b]) (?_ : _ = _) : [bo _] = [bo _]); first | (show (!decide (orOK B z)) = true; rw [decide_eq_false hno]; rfl) | exact beq_iff_eq.2 (decide_eq_decide.2 (e1.trans (coR_om o1 (by omega))))) | (refine (congrArg (fun b => [bo b]) (?_ : _ = _) : [bo _] = [bo _]); show (!decide (orOK B z)) = true; rw [decide_eq_false (fun h => by first | exact absurd h.1.1 (by assumption) | (have := h.1.2; omega))]; rfl) | exact absurd (decide_eq_decide.2 e1) hg8 | exact absurd (e2 (by assumption)) (by assumption) | exact absurd (e2 (by simpa using hg9)) (by assumption)
            · try simp only [decide_eq_true_eq, decide_eq_false_iff_not, beq_iff_eq, bne_iff_ne, beq_eq_false_iff_ne, bne_eq_false_iff_eq, Bool.not_eq_true, Bool.not_eq_false, Bool.not_eq_eq_eq_not, Bool.not_true, Bool.not_false, List.length_map, Int.not_lt, Int.not_le, ne_eq, Decidable.not_not] at hc6
              have hv : VB B := by assumption
              have hz0 : 0 ≤ z := by omega
              have hz1 : z < B.length := by omega
              have hom := omL_of hv (n := z.toNat) (by omega)
              have hoi := orOK_iff hv hz0 hz1
              obtain ⟨hxa, hxb⟩ := ordX_bd hv (n := z.toNat) (by omega)
              have hXl : (ordX B z.toNat).length < 1000000000 := by omega
              have hXL : ∀ l ∈ ordX B z.toNat, l.length < 1000000000 := fun l hl => by have := hxb l hl; omega
              refine vc_skip ?_
              refine hK12 _ ?_
              refine vc_seq fun K17 hK17 => ?_
              refine vc_region ?_
              refine vo_move_pv rfl rfl ?_
              refine vo_move_pv rfl rfl ?_
              refine vo_call [] Try.func14 rfl rfl rfl rfl rfl rfl rfl (orders_sat (c := z) (by omega) (lt3 h3) hv hz0 hz1) ?_
              rintro _ _ ⟨nl8, f8, rfl, rfl⟩
              refine ⟨Nat.le_of_ble_eq_true rfl, ⟨rfl, rfl, rfl⟩, .inl rfl, ?_⟩
              refine vo_stN ?_
              refine vo_assign_ref rfl rfl ?_
              refine vo_nil ?_
              refine hK17 _ ?_
              refine vc_seq fun K18 hK18 => ?_
              refine vc_seq fun K19 hK19 => ?_
              refine vc_region ?_
              refine vo_move_ref rfl rfl ?_
              refine vo_len_ref rfl rfl rfl Try.underlying23 ?_
              refine vo_binI rfl rfl rfl rfl trivial ?_
              refine vo_nil ?_
              refine hK19 _ ?_
              refine vc_cond rfl (fun hc7 => ?_) (fun hc7 => ?_)
              · try simp only [decide_eq_true_eq, decide_eq_false_iff_not, beq_iff_eq, bne_iff_ne, beq_eq_false_iff_ne, bne_eq_false_iff_eq, Bool.not_eq_true, Bool.not_eq_false, Bool.not_eq_eq_eq_not, Bool.not_true, Bool.not_false, List.length_map, Int.not_lt, Int.not_le, ne_eq, Decidable.not_not] at hc7
                have hE : ordM B z.toNat = [] := hom.nil (List.eq_nil_of_length_eq_zero (by omega))
                have hno : ¬ orOK B z := fun h => hoi.1 h hE
                refine vc_seq fun K20 hK20 => ?_
                refine vc_region ?_
                refine vo_move_pv rfl rfl ?_
                refine vo_not rfl rfl ?_
                refine vo_assign_pv rfl rfl ?_
                refine vo_nil ?_
                refine hK20 _ ?_
                refine vc_ret ?_
                change retPv _ _ _ _ _
                refine retPv_mk rfl rfl rfl ⟨?_, rfl⟩
                first | rfl | exact absurd trivial (by assumption) | exact absurd rfl (by assumption) | (refine (congrArg (fun b => [bo b]) (?_ : _ = _) : [bo _] = [bo _]); exact decide_eq_true rfl) | (refine (congrArg (fun b => [bo b]) (?_ : _ = _) : [bo _] = [bo _]); first | (show (!decide (orOK B z)) = true; rw [decide_eq_false hno]; rfl) | exact beq_iff_eq.2 (decide_eq_decide.2 (e1.trans (coR_om o1 (by omega))))) | (refine (congrArg (fun b => [bo b]) (?_ : _ = _) : [bo _] = [bo _]); show (!decide (orOK B z)) = true; rw [decide_eq_false (fun h => by first | exact absurd h.1.1 (by assumption) | (have := h.1.2; omega))]; rfl) | exact absurd (decide_eq_decide.2 e1) hg8 | exact absurd (e2 (by assumption)) (by assumption) | exact absurd (e2 (by simpa using hg9)) (by assumption)
              · try simp only [decide_eq_true_eq, decide_eq_false_iff_not, beq_iff_eq, bne_iff_ne, beq_eq_false_iff_ne, bne_eq_false_iff_eq, Bool.not_eq_true, Bool.not_eq_false, Bool.not_eq_eq_eq_not, Bool.not_true, Bool.not_false, List.length_map, Int.not_lt, Int.not_le, ne_eq, Decidable.not_not] at hc7
                have hne : ordX B z.toNat ≠ [] := fun e => hc7 (by rw [e]; rfl)
                obtain ⟨o1, o2, o3⟩ := hom.ok hne
                have e1 := hoi.trans o2
                have h72 := mgR_len72 o1
                have e2 : orOK B z → orR B z = [z] ++ mgR (ordX B z.toNat) := fun h => by rw [orR_yes h, o3 (e1.1 h), show ((z.toNat : Nat) : Int) = z by omega]; rfl
                refine vc_skip ?_
                refine hK18 _ ?_
                refine vc_seq fun K21 hK21 => ?_
                refine vc_region ?_
                refine vo_move_ref rfl rfl ?_
                refine vo_call [] Try.func6 rfl rfl rfl rfl rfl rfl rfl (implMergeLists_sat (lists := (ordX B z.toNat)) hXl hXL) ?_
                rintro _ _ ⟨nl10, rfl, rfl⟩
                refine ⟨Nat.le_of_ble_eq_true rfl, ⟨rfl, rfl, rfl⟩, .inr ⟨rfl, rfl⟩, ?_⟩
                refine vo_stN ?_
                refine vo_move rfl ?_
                refine vo_extract rfl rfl rfl ?_
                refine vo_extract rfl rfl rfl ?_
                refine vo_assign_ref rfl rfl ?_
                refine vo_assign_pv rfl rfl ?_
                refine vo_nil ?_
                refine hK21 _ ?_
                refine vc_seq fun K22 hK22 => ?_
                refine vc_region ?_
                refine vo_move_ref rfl rfl ?_
                refine vo_call0 Try.func9 rfl rfl rfl rfl (implCountOrders_sat (lists := (ordX B z.toNat)) hXl hXL) ?_
                rintro _ _ ⟨rfl, rfl⟩
                refine ⟨rfl, rfl, .inr rfl, ?_⟩
                refine vo_assign_pv rfl rfl ?_
                refine vo_nil ?_
                refine hK22 _ ?_
                refine vc_seq fun K23 hK23 => ?_
                refine vc_region ?_
                refine vo_move_pv rfl rfl ?_
                refine vo_move_pv rfl rfl ?_
                refine vo_binB rfl rfl rfl rfl Try.underlying4 ?_
                refine vo_move_pv rfl rfl ?_
                refine vo_split 75 rfl (fun hg8 => ?_) (fun hg8 => ?_)
                · try simp only [decide_eq_true_eq, decide_eq_false_iff_not, beq_iff_eq, bne_iff_ne, beq_eq_false_iff_ne, bne_eq_false_iff_eq, Bool.not_eq_true, Bool.not_eq_false, Bool.not_eq_eq_eq_not, Bool.not_true, Bool.not_false, List.length_map, Int.not_lt, Int.not_le, ne_eq, Decidable.not_not] at hg8
                  refine vo_guard_on rfl rfl rfl ?_
                  refine vo_move_pv rfl rfl ?_
                  refine vo_guard_on rfl rfl rfl ?_
                  refine vo_not rfl rfl ?_
                  refine vo_guard_on rfl rfl rfl ?_
                  refine vo_move_pv rfl rfl ?_
                  refine vo_split 78 rfl (fun hg9 => ?_) (fun hg9 => ?_)
                  · try simp only [decide_eq_true_eq, decide_eq_false_iff_not, beq_iff_eq, bne_iff_ne, beq_eq_false_iff_ne, bne_eq_false_iff_eq, Bool.not_eq_true, Bool.not_eq_false, Bool.not_eq_eq_eq_not, Bool.not_true, Bool.not_false, List.length_map, Int.not_lt, Int.not_le, ne_eq, Decidable.not_not] at hg9
                    refine vo_guard_off rfl rfl rfl rfl rfl ?_
                    refine vo_guard_off rfl rfl rfl rfl rfl ?_
                    refine vo_guard_off rfl rfl rfl rfl rfl ?_
                    refine vo_guard_off rfl rfl rfl rfl rfl ?_
                    refine vo_guard_off rfl rfl rfl rfl rfl ?_
                    refine vo_guard_off rfl rfl rfl rfl rfl ?_
                    refine vo_guard_on rfl rfl rfl ?_
                    refine vo_pick_t rfl rfl ?_
                    refine vo_pick_t rfl rfl ?_
                    refine vo_move_pv rfl rfl ?_
                    refine vo_guard_on rfl rfl rfl ?_
                    refine vo_move_pv rfl rfl ?_
                    refine vo_guard_on rfl rfl rfl ?_
                    refine vo_binI rfl rfl rfl rfl trivial ?_
                    refine vo_guard_on rfl rfl rfl ?_
                    refine vo_move_pv rfl rfl ?_
                    refine vo_split 90 rfl (fun hg10 => ?_) (fun hg10 => ?_)
                    · try simp only [decide_eq_true_eq, decide_eq_false_iff_not, beq_iff_eq, bne_iff_ne, beq_eq_false_iff_ne, bne_eq_false_iff_eq, Bool.not_eq_true, Bool.not_eq_false, Bool.not_eq_eq_eq_not, Bool.not_true, Bool.not_false, List.length_map, Int.not_lt, Int.not_le, ne_eq, Decidable.not_not] at hg10
                      refine vo_guard_off rfl rfl rfl rfl rfl ?_
                      refine vo_guard_off rfl rfl rfl rfl rfl ?_
                      refine vo_guard_off rfl rfl rfl rfl rfl ?_
                      refine vo_guard_off rfl rfl rfl rfl rfl ?_
                      refine vo_guard_on rfl rfl rfl ?_
                      refine vo_pick_t rfl rfl ?_
                      refine vo_pick_t rfl rfl ?_
                      refine vo_assign_pv rfl rfl ?_
                      refine vo_nil ?_
                      refine hK23 _ ?_
                      refine vc_ret ?_
                      change retPv _ _ _ _ _
                      refine retPv_mk rfl rfl rfl ⟨?_, rfl⟩
                      first | rfl | exact absurd trivial (by assumption) | exact absurd rfl (by assumption) | (refine (congrArg (fun b => [bo b]) (?_ : _ = _) : [bo _] = [bo _]); exact decide_eq_true rfl) | (refine (congrArg (fun b => [bo b]) (?_ : _ = _) : [bo _] = [bo _]); first | (show (!decide (orOK B z)) = true; rw [decide_eq_false hno]; rfl) | exact beq_iff_eq.2 (decide_eq_decide.2 (e1.trans (coR_om o1 (by omega))))) | (refine (congrArg (fun b => [bo b]) (?_ : _ = _) : [bo _] = [bo _]); show (!decide (orOK B z)) = true; rw [decide_eq_false (fun h => by first | exact absurd h.1.1 (by assumption) | (have := h.1.2; omega))]; rfl) | exact absurd (decide_eq_decide.2 e1) hg8 | exact absurd (e2 (by assumption)) (by assumption) | exact absurd (e2 (by simpa using hg9)) (by assumption)
                    · try simp only [decide_eq_true_eq, decide_eq_false_iff_not, beq_iff_eq, bne_iff_ne, beq_eq_false_iff_ne, bne_eq_false_iff_eq, Bool.not_eq_true, Bool.not_eq_false, Bool.not_eq_eq_eq_not, Bool.not_true, Bool.not_false, List.length_map, Int.not_lt, Int.not_le, ne_eq, Decidable.not_not] at hg10
                      refine vo_guard_on rfl rfl rfl ?_
                      refine vo_move_pv rfl rfl ?_
                      refine vo_guard_on rfl rfl rfl ?_
                      refine vo_move_pv rfl rfl ?_
                      refine vo_guard_on rfl rfl rfl ?_
                      refine vo_binI rfl rfl rfl rfl trivial ?_
                      refine vo_guard_on rfl rfl rfl ?_
                      refine vo_binB rfl rfl rfl rfl Try.underlying4 ?_
                      refine vo_guard_on rfl rfl rfl ?_
                      refine vo_pick_f rfl rfl ?_
                      refine vo_pick_t rfl rfl ?_
                      refine vo_assign_pv rfl rfl ?_
                      refine vo_nil ?_
                      refine hK23 _ ?_
                      refine vc_ret ?_
                      change retPv _ _ _ _ _
                      refine retPv_mk rfl rfl rfl ⟨?_, rfl⟩
                      first | rfl | exact absurd trivial (by assumption) | exact absurd rfl (by assumption) | (refine (congrArg (fun b => [bo b]) (?_ : _ = _) : [bo _] = [bo _]); exact decide_eq_true rfl) | (refine (congrArg (fun b => [bo b]) (?_ : _ = _) : [bo _] = [bo _]); first | (show (!decide (orOK B z)) = true; rw [decide_eq_false hno]; rfl) | exact beq_iff_eq.2 (decide_eq_decide.2 (e1.trans (coR_om o1 (by omega))))) | (refine (congrArg (fun b => [bo b]) (?_ : _ = _) : [bo _] = [bo _]); show (!decide (orOK B z)) = true; rw [decide_eq_false (fun h => by first | exact absurd h.1.1 (by assumption) | (have := h.1.2; omega))]; rfl) | exact absurd (decide_eq_decide.2 e1) hg8 | exact absurd (e2 (by assumption)) (by assumption) | exact absurd (e2 (by simpa using hg9)) (by assumption)
                  · try simp only [decide_eq_true_eq, decide_eq_false_iff_not, beq_iff_eq, bne_iff_ne, beq_eq_false_iff_ne, bne_eq_false_iff_eq, Bool.not_eq_true, Bool.not_eq_false, Bool.not_eq_eq_eq_not, Bool.not_true, Bool.not_false, List.length_map, Int.not_lt, Int.not_le, ne_eq, Decidable.not_not] at hg9
                    refine vo_guard_on rfl rfl rfl ?_
                    refine vo_move_ref rfl rfl ?_
                    refine vo_guard_on rfl rfl rfl ?_
                    refine vo_move_pv rfl rfl ?_
                    refine vo_guard_on rfl rfl rfl ?_
                    refine vo_buildSlice E25 rfl rfl rfl rfl rfl ?_
                    refine vo_guard_on rfl rfl rfl ?_
                    refine vo_move_ref rfl rfl ?_
                    refine vo_guard_on rfl rfl rfl ?_
                    refine vo_call [] Try.func15 rfl rfl rfl rfl rfl rfl rfl (join_sat (a := [z]) (b := mgR (ordX B z.toNat)) (by simp) mgR_len) ?_
                    rintro _ _ ⟨nl9, rfl, rfl⟩
                    refine ⟨Nat.le_of_ble_eq_true rfl, ⟨rfl, rfl, rfl⟩, .inr ⟨rfl, rfl⟩, ?_⟩
                    refine vo_stN ?_
                    refine vo_guard_on rfl rfl rfl ?_
                    refine vo_call0 Try.func8 rfl rfl rfl rfl (equalInts_sat (a := orR B z) (b := [z] ++ mgR (ordX B z.toNat)) orR_len (by rw [List.length_append, List.length_singleton]; omega)) ?_
                    rintro _ _ ⟨rfl, rfl⟩
                    refine ⟨rfl, rfl, .inr rfl, ?_⟩
                    refine vo_guard_on rfl rfl rfl ?_
                    refine vo_pick_f rfl rfl ?_
                    refine vo_pick_t rfl rfl ?_
                    refine vo_move_pv rfl rfl ?_
                    refine vo_split 87 rfl (fun hg11 => ?_) (fun hg11 => ?_)
                    · try simp only [decide_eq_true_eq, decide_eq_false_iff_not, beq_iff_eq, bne_iff_ne, beq_eq_false_iff_ne, bne_eq_false_iff_eq, Bool.not_eq_true, Bool.not_eq_false, Bool.not_eq_eq_eq_not, Bool.not_true, Bool.not_false, List.length_map, Int.not_lt, Int.not_le, ne_eq, Decidable.not_not] at hg11
                      refine vo_guard_on rfl rfl rfl ?_
                      refine vo_move_pv rfl rfl ?_
                      refine vo_guard_on rfl rfl rfl ?_
                      refine vo_binI rfl rfl rfl rfl trivial ?_
                      refine vo_guard_on rfl rfl rfl ?_
                      refine vo_move_pv rfl rfl ?_
                      refine vo_split 90 rfl (fun hg12 => ?_) (fun hg12 => ?_)
                      · try simp only [decide_eq_true_eq, decide_eq_false_iff_not, beq_iff_eq, bne_iff_ne, beq_eq_false_iff_ne, bne_eq_false_iff_eq, Bool.not_eq_true, Bool.not_eq_false, Bool.not_eq_eq_eq_not, Bool.not_true, Bool.not_false, List.length_map, Int.not_lt, Int.not_le, ne_eq, Decidable.not_not] at hg12
                        refine vo_guard_off rfl rfl rfl rfl rfl ?_
                        refine vo_guard_off rfl rfl rfl rfl rfl ?_
                        refine vo_guard_off rfl rfl rfl rfl rfl ?_
                        refine vo_guard_off rfl rfl rfl rfl rfl ?_
                        refine vo_guard_on rfl rfl rfl ?_
                        refine vo_pick_t rfl rfl ?_
                        refine vo_pick_t rfl rfl ?_
                        refine vo_assign_pv rfl rfl ?_
                        refine vo_nil ?_
                        refine hK23 _ ?_
                        refine vc_ret ?_
                        change retPv _ _ _ _ _
                        refine retPv_mk rfl rfl rfl ⟨?_, rfl⟩
                        first | rfl | exact absurd trivial (by assumption) | exact absurd rfl (by assumption) | (refine (congrArg (fun b => [bo b]) (?_ : _ = _) : [bo _] = [bo _]); exact decide_eq_true rfl) | (refine (congrArg (fun b => [bo b]) (?_ : _ = _) : [bo _] = [bo _]); first | (show (!decide (orOK B z)) = true; rw [decide_eq_false hno]; rfl) | exact beq_iff_eq.2 (decide_eq_decide.2 (e1.trans (coR_om o1 (by omega))))) | (refine (congrArg (fun b => [bo b]) (?_ : _ = _) : [bo _] = [bo _]); show (!decide (orOK B z)) = true; rw [decide_eq_false (fun h => by first | exact absurd h.1.1 (by assumption) | (have := h.1.2; omega))]; rfl) | exact absurd (decide_eq_decide.2 e1) hg8 | exact absurd (e2 (by assumption)) (by assumption) | exact absurd (e2 (by simpa using hg9)) (by assumption)
                      · try simp only [decide_eq_true_eq, decide_eq_false_iff_not, beq_iff_eq, bne_iff_ne, beq_eq_false_iff_ne, bne_eq_false_iff_eq, Bool.not_eq_true, Bool.not_eq_false, Bool.not_eq_eq_eq_not, Bool.not_true, Bool.not_false, List.length_map, Int.not_lt, Int.not_le, ne_eq, Decidable.not_not] at hg12
                        refine vo_guard_on rfl rfl rfl ?_
                        refine vo_move_pv rfl rfl ?_
                        refine vo_guard_on rfl rfl rfl ?_
                        refine vo_move_pv rfl rfl ?_
                        refine vo_guard_on rfl rfl rfl ?_
                        refine vo_binI rfl rfl rfl rfl trivial ?_
                        refine vo_guard_on rfl rfl rfl ?_
                        refine vo_binB rfl rfl rfl rfl Try.underlying4 ?_
                        refine vo_guard_on rfl rfl rfl ?_
                        refine vo_pick_f rfl rfl ?_
                        refine vo_pick_t rfl rfl ?_
                        refine vo_assign_pv rfl rfl ?_
                        refine vo_nil ?_
                        refine hK23 _ ?_
                        refine vc_ret ?_
                        change retPv _ _ _ _ _
                        refine retPv_mk rfl rfl rfl ⟨?_, rfl⟩
                        first | rfl | exact absurd trivial (by assumption) | exact absurd rfl (by assumption) | (refine (congrArg (fun b => [bo b]) (?_ : _ = _) : [bo _] = [bo _]); exact decide_eq_true rfl) | (refine (congrArg (fun b => [bo b]) (?_ : _ = _) : [bo _] = [bo _]); first | (show (!decide (orOK B z)) = true; rw [decide_eq_false hno]; rfl) | exact beq_iff_eq.2 (decide_eq_decide.2 (e1.trans (coR_om o1 (by omega))))) | (refine (congrArg (fun b => [bo b]) (?_ : _ = _) : [bo _] = [bo _]); show (!decide (orOK B z)) = true; rw [decide_eq_false (fun h => by first | exact absurd h.1.1 (by assumption) | (have := h.1.2; omega))]; rfl) | exact absurd (decide_eq_decide.2 e1) hg8 | exact absurd (e2 (by assumption)) (by assumption) | exact absurd (e2 (by simpa using hg9)) (by assumption)
                    · try simp only [decide_eq_true_eq, decide_eq_false_iff_not, beq_iff_eq, bne_iff_ne, beq_eq_false_iff_ne, bne_eq_false_iff_eq, Bool.not_eq_true, Bool.not_eq_false, Bool.not_eq_eq_eq_not, Bool.not_true, Bool.not_false, List.length_map, Int.not_lt, Int.not_le, ne_eq, Decidable.not_not] at hg11
                      refine vo_guard_off rfl rfl rfl rfl rfl ?_
                      refine vo_guard_off rfl rfl rfl rfl rfl ?_
                      refine vo_guard_off rfl rfl rfl rfl rfl ?_
                      refine vo_guard_und rfl rfl rfl rfl ?_
                      refine vo_guard_und rfl rfl rfl rfl ?_
                      refine vo_guard_und rfl rfl rfl rfl ?_
                      refine vo_guard_und rfl rfl rfl rfl ?_
                      refine vo_guard_off rfl rfl rfl rfl rfl ?_
                      refine vo_pick_f rfl rfl ?_
                      refine vo_assign_pv rfl rfl ?_
                      refine vo_nil ?_
                      refine hK23 _ ?_
                      refine vc_ret ?_
                      change retPv _ _ _ _ _
                      refine retPv_mk rfl rfl rfl ⟨?_, rfl⟩
                      first | rfl | exact absurd trivial (by assumption) | exact absurd rfl (by assumption) | (refine (congrArg (fun b => [bo b]) (?_ : _ = _) : [bo _] = [bo _]); exact decide_eq_true rfl) | (refine (congrArg (fun b => [bo b]) (?_ : _ = _) : [bo _] = [bo _]); first | (show (!decide (orOK B z)) = true; rw [decide_eq_false hno]; rfl) | exact beq_iff_eq.2 (decide_eq_decide.2 (e1.trans (coR_om o1 (by omega))))) | (refine (congrArg (fun b => [bo b]) (?_ : _ = _) : [bo _] = [bo _]); show (!decide (orOK B z)) = true; rw [decide_eq_false (fun h => by first | exact absurd h.1.1 (by assumption) | (have := h.1.2; omega))]; rfl) | exact absurd (decide_eq_decide.2 e1) hg8 | exact absurd (e2 (by assumption)) (by assumption) | exact absurd (e2 (by simpa using hg9)) (by assumption)
                · try simp only [decide_eq_true_eq, decide_eq_false_iff_not, beq_iff_eq, bne_iff_ne, beq_eq_false_iff_ne, bne_eq_false_iff_eq, Bool.not_eq_true, Bool.not_eq_false, Bool.not_eq_eq_eq_not, Bool.not_true, Bool.not_false, List.length_map, Int.not_lt, Int.not_le, ne_eq, Decidable.not_not] at hg8
                  refine vo_guard_off rfl rfl rfl rfl rfl ?_
                  refine vo_guard_off rfl rfl rfl rfl rfl ?_
                  refine vo_guard_off rfl rfl rfl rfl rfl ?_
                  refine vo_guard_und rfl rfl rfl rfl ?_
                  refine vo_guard_und rfl rfl rfl rfl ?_
                  refine vo_guard_und rfl rfl rfl rfl ?_
                  refine vo_guard_und rfl rfl rfl rfl ?_
                  refine vo_guard_und rfl rfl rfl rfl ?_
                  refine vo_guard_und rfl rfl rfl rfl ?_
                  refine vo_guard_off rfl rfl rfl rfl rfl ?_
                  refine vo_pick_f rfl rfl ?_
                  refine vo_move_pv rfl rfl ?_
                  refine vo_guard_off rfl rfl rfl rfl rfl ?_
                  refine vo_guard_off rfl rfl rfl rfl rfl ?_
                  refine vo_guard_off rfl rfl rfl rfl rfl ?_
                  refine vo_guard_und rfl rfl rfl rfl ?_
                  refine vo_guard_und rfl rfl rfl rfl ?_
                  refine vo_guard_und rfl rfl rfl rfl ?_
                  refine vo_guard_und rfl rfl rfl rfl ?_
                  refine vo_guard_off rfl rfl rfl rfl rfl ?_
                  refine vo_pick_f rfl rfl ?_
                  refine vo_assign_pv rfl rfl ?_
                  refine vo_nil ?_
                  refine hK23 _ ?_
                  refine vc_ret ?_
                  change retPv _ _ _ _ _
                  refine retPv_mk rfl rfl rfl ⟨?_, rfl⟩
                  first | rfl | exact absurd trivial (by assumption) | exact absurd rfl (by assumption) | (refine (congrArg (fun b => [bo b]) (?_ : _ = _) : [bo _] = [bo _]); exact decide_eq_true rfl) | (refine (congrArg (fun b => [bo b]) (?_ : _ = _) : [bo _] = [bo _]); first | (show (!decide (orOK B z)) = true; rw [decide_eq_false hno]; rfl) | exact beq_iff_eq.2 (decide_eq_decide.2 (e1.trans (coR_om o1 (by omega))))) | (refine (congrArg (fun b => [bo b]) (?_ : _ = _) : [bo _] = [bo _]); show (!decide (orOK B z)) = true; rw [decide_eq_false (fun h => by first | exact absurd h.1.1 (by assumption) | (have := h.1.2; omega))]; rfl) | exact absurd (decide_eq_decide.2 e1) hg8 | exact absurd (e2 (by assumption)) (by assumption) | exact absurd (e2 (by simpa using hg9)) (by assumption)

end Go.Vl

/- From a function's contract to the row of a law over bytes. -/
namespace Go.Vl
set_option linter.unusedVariables false
set_option linter.unusedSimpArgs false
open Go.RowKit Go.WideShapes

theorem okWide_spot {P : Program} {W : World} {base : Nat} {t e : TypeId} {a : Addr} {len cap : Nat} (hT : P.underlying t = some (.slice e)) (h : Value.okWide P W .any base t (.slice (some a) len cap)) :
    a.spot = none ∧ a.block < W.heap.size := by
  simp only [Value.okWide, hT, Cell.okWide, Cell.ok, World.has] at h
  obtain ⟨_, _, _, h1, row, cells, h2, _⟩ := h
  refine ⟨h1, ?_⟩
  unfold World.shape? at h2
  rcases Nat.lt_or_ge a.block W.heap.size with h3 | h3
  · exact h3
  · rw [Array.getElem?_eq_none h3] at h2; cases h2

/-- What is known of bytes that come in. -/
def BytesAt (w : World) (a0 : Option Addr) (len cap : Nat) : Prop :=
  (a0 = none ∧ len = 0 ∧ cap = 0) ∨ ∃ (x : Addr) (zs : List Int), a0 = some x ∧ x.spot = none ∧ x.block < w.heap.size ∧ len ≤ cap ∧ zs.length = cap ∧
    (∀ i, i < zs.length → w.cell? (x.add i) = some (.int .u8 (zs.getD i 0))) ∧ ∀ n ∈ zs, (Lit.int .u8 n).wf = true

theorem bytes_pv {w : World} {a0 : Option Addr} {len cap : Nat} {G : Nat → Prop} (hG : ∀ b, b < w.heap.size → G b) (h : BytesAt w a0 len cap) :
    ∃ (nl : Option Bool) (c : List (Fin 256)), RP w G (.sl nl 1 (c.map byteP)) (.slice a0 len cap) := by
  rcases h with ⟨rfl, rfl, rfl⟩ | ⟨x, zs, rfl, hs, hb, hl, hz, hc, hw⟩
  · exact ⟨none, [], .nilsl _ _ (by simp)⟩
  · have hbd : ∀ i, i < zs.length → 0 ≤ zs.getD i 0 ∧ zs.getD i 0 < 256 := by
      intro i hi
      have hm : zs.getD i 0 ∈ zs := by simp [List.getD, List.getElem?_eq_getElem hi]
      have := hw _ hm
      generalize zs.getD i 0 = n at this ⊢
      simp [Lit.wf, IntKind.min, IntKind.max, IntKind.bits, IntKind.signed] at this
      omega
    let c : List (Fin 256) := (List.range len).map fun i => ⟨(zs.getD i 0).toNat % 256, Nat.mod_lt _ (by omega)⟩
    refine ⟨none, c, .sl none 1 _ x len cap (fun i _ => .int .u8 (zs.getD i 0)) (by simp) (fun _ => hs) (by simp [c]) hl (fun _ => hG _ hb) ?_ ?_ ?_⟩
    · intro i y hy
      simp only [List.getElem?_map] at hy
      cases hci : c[i]? with
      | none => rw [hci] at hy; simp at hy
      | some z =>
        rw [hci] at hy
        simp only [Option.map_some, Option.some.injEq] at hy
        subst hy
        exact fits_of rfl
    · intro i y j d hy hd
      simp only [List.getElem?_map] at hy
      cases hci : c[i]? with
      | none => rw [hci] at hy; simp at hy
      | some z =>
        rw [hci] at hy
        simp only [Option.map_some, Option.some.injEq] at hy
        subst hy
        have hi : i < len := by
          rcases Nat.lt_or_ge i len with h1 | h1
          · exact h1
          · have : c[i]? = none := List.getElem?_eq_none (by simp [c]; exact h1)
            rw [this] at hci; cases hci
        have hj : j = 0 := by
          cases j with
          | zero => rfl
          | succ j => simp [PV.cells] at hd
        subst hj
        have := hc i (by omega)
        rw [← this]
        congr 1
        obtain ⟨xb, xo, xs⟩ := x
        simp only at hs
        subst hs
        simp [Addr.add]
    · intro i y j d hy hd
      simp only [List.getElem?_map] at hy
      cases hci : c[i]? with
      | none => rw [hci] at hy; simp at hy
      | some z =>
        rw [hci] at hy
        simp only [Option.map_some, Option.some.injEq] at hy
        subst hy
        have hi : i < len := by
          rcases Nat.lt_or_ge i len with h1 | h1
          · exact h1
          · have : c[i]? = none := List.getElem?_eq_none (by simp [c]; exact h1)
            rw [this] at hci; cases hci
        have hj : j = 0 := by
          cases j with
          | zero => rfl
          | succ j => simp [PV.cells] at hd
        subst hj
        have hd2 : d = byteP z := by simpa [PV.cells] using hd.symm
        subst hd2
        have hz2 : ((z.val : Nat) : Int) = zs.getD i 0 := by
          have e : c[i]? = some ⟨(zs.getD i 0).toNat % 256, Nat.mod_lt _ (by omega)⟩ := by simp [c, hi]
          rw [e] at hci
          simp only [Option.some.injEq] at hci
          have hb := hbd i (by omega)
          rw [← hci]
          show (((zs.getD i 0).toNat % 256 : Nat) : Int) = _
          omega
        rw [← hz2]
        exact .int _ _

theorem law_bytes {P : Program} {f : FuncId} {w : World} {a0 : Option Addr} {len cap : Nat} (hrow : BytesAt w a0 len cap)
    (h : ∀ (nl : Option Bool) (c : List (Fin 256)), SatAt P f [.pv false (.sl nl 1 (c.map byteP))] [] (fun res rows => res = [bo true] ∧ rows = [])) :
    Calls P f #[.slice a0 len cap] w fun e w' => e = .returned (.bool true) ∧ Below w.heap.size w w' := by
  let C : Ctx := ⟨w, fun b => b < w.heap.size, 0, fun _ => default⟩
  have hpriv : ∀ b, ¬ priv [] (fun _ => default) b := by
    rintro b ⟨id, ⟨r, hr, _⟩, _⟩
    simp at hr
  obtain ⟨nl, c, hp⟩ := bytes_pv (G := Gd C [] (fun _ => default) w false) (fun b hb => ⟨hb, hpriv b, fun _ => .inl hb, fun e => by cases e⟩) hrow
  have hsim : SimM C ⟨1, enumE 0 [.pv false (.sl nl 1 (c.map byteP))], []⟩ (fun _ => default) ⟨#[.slice a0 len cap], []⟩ w := {
    defs := rfl
    size := rfl
    os := rfl
    tape := rfl
    output := rfl
    hsz := Nat.le_refl _
    old := fun _ _ _ => rfl
    bor := fun id hid => by cases hid
    nbl := Nat.zero_le _
    newb := fun id b _ ⟨r, hr, _⟩ => by simp at hr
    dist := fun i j b ⟨r, hr, _⟩ => by simp at hr
    rows := fun id r hr => by simp at hr
    env := fun t => by
      show RS _ _ _ _ (look (enumE 0 _) t) _
      rw [look_enumE]
      cases t with
      | zero => exact .pv _ _ _ hp
      | succ t => exact .any _ }
  refine (h nl c C (fun _ => default) #[.slice a0 len cap] rfl (fun b hb => hb) rfl hsim).mono fun e w' hx => ?_
  obtain ⟨us, res, rows', m', rfl, hus, hs, rfl, rfl⟩ := hx
  have hv := hs.env 0
  have h1 : us.size = 1 := hus
  refine ⟨?_, hs.os, hs.tape, hs.output, hs.hsz, fun k hk => hs.old k hk (fun id hid => by cases hid)⟩
  have hv : RS w' (Gd C [] m' w') m' 0 (bo true) (us.getD 0 undef) := hv
  have hb := hv.pv_inv
  unfold pack
  rw [dif_pos h1]
  simp only [Array.getD, h1, Nat.lt_succ_self, dif_pos, Nat.zero_lt_one] at hb
  cases hu : us[0]
  all_goals (simp only [Array.getInternal_eq_getElem, hu] at hb; cases hb)
  rfl
end Go.Vl

/- From a function's contract to the row of a law over lists of numbers, and numbers. -/
namespace Go.Vl
set_option linter.unusedVariables false
set_option linter.unusedSimpArgs false
open Go.RowKit Go.WideShapes Go.ChangeShapes

/-- The setting of a law's call. -/
def C0 (w : World) : Ctx := ⟨w, fun b => b < w.heap.size, 0, fun _ => default⟩
def G0 (w : World) : Bool → Nat → Prop := Gd (C0 w) [] (fun _ => default) w
theorem G0_of {w : World} {b : Nat} (h : b < w.heap.size) : G0 w false b := by
  refine ⟨h, ?_, fun _ => .inl h, fun e => by cases e⟩
  rintro ⟨id, ⟨r, hr, _⟩, _⟩
  simp at hr

theorem law_gen {P : Program} {f : FuncId} {w : World} {args : List SV} {vals : Array Value} (hl : vals.size = args.length)
    (hv : ∀ (j : Nat) (a : SV), args[j]? = some a → RS w (G0 w) (fun _ => default) 0 a (vals.getD j undef))
    (h : SatAt P f args [] (fun res rows => res = [bo true] ∧ rows = [])) :
    Calls P f vals w fun e w' => e = .returned (.bool true) ∧ Below w.heap.size w w' := by
  have hsim : SimM (C0 w) ⟨vals.size, enumE 0 args, []⟩ (fun _ => default) ⟨vals, []⟩ w := {
    defs := rfl
    size := rfl
    os := rfl
    tape := rfl
    output := rfl
    hsz := Nat.le_refl _
    old := fun _ _ _ => rfl
    bor := fun id hid => by cases hid
    nbl := Nat.zero_le _
    newb := fun id b _ ⟨r, hr, _⟩ => by simp at hr
    dist := fun i j b ⟨r, hr, _⟩ => by simp at hr
    rows := fun id r hr => by simp at hr
    env := fun t => by
      show RS _ _ _ _ (look (enumE 0 _) t) _
      rw [look_enumE]
      simp only [Nat.zero_le, if_true, Nat.sub_zero]
      cases ha : args[t]? with
      | none => exact .any _
      | some a => exact hv t a ha }
  refine (h (C0 w) (fun _ => default) vals rfl (fun b hb => hb) hl hsim).mono fun e w' hx => ?_
  obtain ⟨us, res, rows', m', rfl, hus, hs, rfl, rfl⟩ := hx
  have hv := hs.env 0
  have h1 : us.size = 1 := hus
  refine ⟨?_, hs.os, hs.tape, hs.output, hs.hsz, fun k hk => hs.old k hk (fun id hid => by cases hid)⟩
  have hv : RS w' (Gd (C0 w) [] m' w') m' 0 (bo true) (us.getD 0 undef) := hv
  have hb := hv.pv_inv
  unfold pack
  rw [dif_pos h1]
  simp only [Array.getD, h1, Nat.lt_succ_self, dif_pos, Nat.zero_lt_one] at hb
  cases hu : us[0]
  all_goals (simp only [Array.getInternal_eq_getElem, hu] at hb; cases hb)
  rfl

theorem cell_block {w : World} {a : Addr} {v : Value} (h : w.cell? a = some v) : a.block < w.heap.size := by
  unfold World.cell? at h
  rcases Nat.lt_or_ge a.block w.heap.size with h3 | h3
  · exact h3
  · rw [Array.getElem?_eq_none h3] at h; cases h

theorem addr_add (a : Addr) (i : Nat) (hs : a.spot = none) : a.add i = ⟨a.block, a.off + i, none⟩ := by
  obtain ⟨b, o, s⟩ := a
  simp only at hs
  subst hs
  unfold Addr.add
  split
  · rename_i h; simp [h]
  · rfl

/-- A list of numbers, by its cells. -/
theorem ints_rp {w : World} {a : Option Addr} {len cap : Nat} (zs : List Int) (hl : len ≤ cap) (hz : zs.length = cap) (h0 : a = none → cap = 0)
    (hc : ∀ a', a = some a' → ∀ c, c < cap → w.cell? (a'.add c) = some (.int .i64 (zs.getD c 0))) : RP w (G0 w false) (.sl none 1 ((zs.take len).map intP)) (.slice a len cap) := by
  cases a with
  | none =>
    have := h0 rfl
    subst this
    have e : len = 0 := by omega
    subst e
    exact .nilsl _ _ (by simp)
  | some a' =>
    have hc := hc a' rfl
    have hlen : ((zs.take len).map intP).length = len := by simp; omega
    have key : ∀ i (x : PV), ((zs.take len).map intP)[i]? = some x → i < len ∧ x = intP (zs.getD i 0) := by
      intro i x hx
      have hi : i < len := by rw [← hlen]; exact (List.getElem?_eq_some_iff.1 hx).1
      refine ⟨hi, ?_⟩
      simp only [List.getElem?_map, List.getElem?_take, hi, if_true, Option.map_eq_some_iff] at hx
      obtain ⟨y, hy, rfl⟩ := hx
      simp [List.getD, hy]
    have hsp : ∀ i, i < len → a'.spot = none := by
      intro i hi
      have := World.cell?_spot (hc 0 (by omega))
      simpa [Addr.add] using this
    refine .sl none 1 _ a' len cap (fun i _ => .int .i64 (zs.getD i 0)) (by simp) (fun hne => ?_) hlen.symm hl (fun hne => ?_) (fun i x hx => ?_) (fun i x j c hx hcj => ?_) (fun i x j c hx hcj => ?_)
    · have : 0 < len := by rw [← hlen]; exact List.length_pos_iff.2 hne
      exact hsp 0 this
    · have : 0 < len := by rw [← hlen]; exact List.length_pos_iff.2 hne
      exact G0_of (by have := cell_block (hc 0 (by omega)); simpa [Addr.add] using this)
    · obtain ⟨_, rfl⟩ := key i x hx
      exact fits_of rfl
    · obtain ⟨hi, rfl⟩ := key i x hx
      have hj : j = 0 := by
        cases j with
        | zero => rfl
        | succ j => simp [PV.cells] at hcj
      subst hj
      rw [← hc i (by omega), addr_add _ _ (hsp i hi)]
      congr 2
      omega
    · obtain ⟨hi, rfl⟩ := key i x hx
      have : c = intP (zs.getD i 0) := by
        cases j with
        | zero => simpa [PV.cells] using hcj.symm
        | succ j => simp [PV.cells] at hcj
      subst this
      exact .int _ _

/-- A list of lists of numbers. -/
theorem intss_rp {w : World} {a : Addr} {len cap : Nat} (A : Nat → Option Addr) (L C : Nat → Nat) (Z : Nat → List Int) (hl : len ≤ cap)
    (h : ∀ r, r < cap → w.cell? (a.add r) = some (.slice (A r) (L r) (C r)) ∧ RP w (G0 w false) (.sl none 1 (((Z r).take (L r)).map intP)) (.slice (A r) (L r) (C r))) :
    RP w (G0 w false) (.sl none 1 (((List.range len).map fun r => (Z r).take (L r)).map ints)) (.slice (some a) len cap) := by
  have hlen : (((List.range len).map fun r => (Z r).take (L r)).map ints).length = len := by simp
  have key : ∀ i (x : PV), (((List.range len).map fun r => (Z r).take (L r)).map ints)[i]? = some x → i < len ∧ x = ints ((Z i).take (L i)) := by
    intro i x hx
    have hi : i < len := by rw [← hlen]; exact (List.getElem?_eq_some_iff.1 hx).1
    refine ⟨hi, ?_⟩
    simp [hi] at hx
    exact hx.symm
  have hsp : ∀ i, i < len → a.spot = none := by
    intro i hi
    have := World.cell?_spot (h 0 (by omega)).1
    simpa [Addr.add] using this
  refine .sl none 1 _ a len cap (fun i _ => .slice (A i) (L i) (C i)) (by simp) (fun hne => ?_) hlen.symm hl (fun hne => ?_) (fun i x hx => ?_) (fun i x j c hx hcj => ?_) (fun i x j c hx hcj => ?_)
  · have : 0 < len := by rw [← hlen]; exact List.length_pos_iff.2 hne
    exact hsp 0 this
  · have : 0 < len := by rw [← hlen]; exact List.length_pos_iff.2 hne
    exact G0_of (by have := cell_block (h 0 (by omega)).1; simpa [Addr.add] using this)
  · obtain ⟨_, rfl⟩ := key i x hx
    exact fits_of rfl
  · obtain ⟨hi, rfl⟩ := key i x hx
    have hj : j = 0 := by
      cases j with
      | zero => rfl
      | succ j => simp [PV.cells] at hcj
    subst hj
    rw [← (h i (by omega)).1, addr_add _ _ (hsp i hi)]
    congr 2
    omega
  · obtain ⟨hi, rfl⟩ := key i x hx
    have : c = ints ((Z i).take (L i)) := by
      cases j with
      | zero => simpa [PV.cells] using hcj.symm
      | succ j => simp [PV.cells] at hcj
    subst this
    exact (h i (by omega)).2

section
variable {H : Type} {enc : TypeId × Value → H} {P : Program} {w : World} {base : Nat} {held : Bool}
/-- An argument '[][]int'. -/
theorem intss_open {t e q : TypeId} {a0 : Option Addr} {len cap fuel : Nat} {x : DataW H × List MemPlace} (ht : P.underlying t = some (.slice e)) (he : P.underlying e = some (.slice q)) (hq : P.underlying q = some (.int .i64))
    (ce : P.cellsOf e = 1) (cq : P.cellsOf q = 1) (h : DataW.trod enc P w base (fun _ => true) held fuel t [.slice a0 len cap] = some x) :
    ∃ l : List (List Int), l.length ≤ 9223372036854775807 ∧ (∀ y ∈ l, y.length ≤ 9223372036854775807) ∧ RP w (G0 w false) (.sl none 1 (l.map ints)) (.slice a0 len cap) := by
  rcases Go.Deep.open_int_rows ht he hq ce cq h with ⟨hcs, _⟩ | ⟨a, l, c, A, L, C, Z, hcs, _, hl, hm, _, hr⟩
  · simp at hcs
    obtain ⟨rfl, rfl, rfl⟩ := hcs
    exact ⟨[], by simp, by simp, .nilsl _ _ (by simp)⟩
  · simp at hcs
    obtain ⟨rfl, rfl, rfl⟩ := hcs
    refine ⟨(List.range len).map fun r => (Z r).take (L r), ?_, ?_, intss_rp A L C Z hl fun r hr' => ?_⟩
    · simp only [maxLen] at hm; simp; omega
    · intro y hy
      obtain ⟨r, hr', rfl⟩ := List.mem_map.1 hy
      obtain ⟨_, h1, h2, _⟩ := hr r (by have := List.mem_range.1 hr'; omega)
      simp only [maxLen] at h2
      simp; omega
    · obtain ⟨h1, h2, h3, h4, _, h6, h7⟩ := hr r hr'
      exact ⟨h1, ints_rp (Z r) h2 h4 h6 fun a' ha c hc => (h7 a' ha).2 c hc⟩

/-- An argument '[]int'. -/
theorem ints_open {t q : TypeId} {a0 : Option Addr} {len cap fuel : Nat} {x : DataW H × List MemPlace} (ht : P.underlying t = some (.slice q)) (hq : P.underlying q = some (.int .i64))
    (cq : P.cellsOf q = 1) (h : DataW.trod enc P w base (fun _ => true) held fuel t [.slice a0 len cap] = some x) :
    ∃ l : List Int, l.length ≤ 9223372036854775807 ∧ RP w (G0 w false) (.sl none 1 (l.map intP)) (.slice a0 len cap) := by
  rcases open_ints ht hq cq h with ⟨hcs, _⟩ | ⟨a', len', cap', zs, hcs, hb', hl', hm', hz, hy, hcell, hwz⟩
  · simp at hcs
    obtain ⟨rfl, rfl, rfl⟩ := hcs
    exact ⟨[], by simp, .nilsl _ _ (by simp)⟩
  · simp at hcs
    obtain ⟨rfl, rfl, rfl⟩ := hcs
    simp only [if_true] at hz
    refine ⟨zs.take len, ?_, ints_rp zs hl' hz (by simp) fun a'' ha c hc => by cases ha; exact hcell c (by rw [hz]; exact hc)⟩
    simp only [maxLen] at hm'; simp; omega
end
end Go.Vl

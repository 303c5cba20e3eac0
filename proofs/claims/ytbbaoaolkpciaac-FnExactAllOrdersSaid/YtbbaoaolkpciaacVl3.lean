/- Part 3 of the texts that the proof of FnExactAllOrders is built on. -/
import Derived.Test.YtbbaoaolkpciaacVl2
import Derived.ProofKit
import Derived.OpenShut
import Derived.Below
import Derived.Deep.Matrix
namespace Go.Vl
set_option linter.unusedVariables false
set_option linter.unusedSimpArgs false
open Go.Proofs
abbrev ordP (l : List Int) : PV := .sl (some l.isEmpty) 1 (l.map intP)
def orOK (b : List (List Int)) (c : Int) : Prop := (VB b ∧ 0 ≤ c ∧ c < b.length) ∧ ordM b c.toNat ≠ []
instance {b : List (List Int)} {c : Int} : Decidable (orOK b c) := by unfold orOK; infer_instance
def orR (b : List (List Int)) (c : Int) : List Int := if orOK b c then ordM b c.toNat else []
theorem getD_ordP (o : List (List Int)) (k : Nat) : (o.map ordP).getD k (.sl (some true) 1 []) = .sl (some (o.getD k []).isEmpty) 1 ((o.getD k []).map intP) := by
  simp only [List.getD, List.getElem?_map]
  cases o[k]? <;> rfl
theorem ordS_stuck {o : List (List Int)} {l : List Int} {c x : Int} (hx : x ∈ l) (h : o.getD x.toNat [] = []) : ordS o l c = [] := if_pos ⟨x, hx, h⟩
theorem ordS_go {o : List (List Int)} {l : List Int} {c : Int} (h : ∀ x ∈ l, o.getD x.toNat [] ≠ []) : ordS o l c = if hds (mergeM (ordL o l ++ [l])).2 = [] then c :: (mergeM (ordL o l ++ [l])).1 else [] := by
  unfold ordS
  rw [if_neg (fun ⟨x, h1, h2⟩ => h x h1 h2)]
theorem row1_eqN {el : TypeId} {e : Nat} {nl nl' : Option Bool} {f : Bool} {a b : List PV} (hn : nl = nl') (h : a = b) : [Row.own el e nl f a] = [Row.own el e nl' f b] := by rw [hn, h]
theorem bEmp {l : List Int} {b : Bool} (h1 : (some l.isEmpty = some true) → b = true) (h2 : (some l.isEmpty = some false) → b = false) : b = l.isEmpty := by cases l <;> simp_all
theorem fill_ord {o : List (List Int)} {n k : Nat} (h : k < n) (ho : o.length = k) (v : List Int) : ((o ++ List.replicate (n - k) []).map ordP).set k (ordP v) = ((o ++ [v]) ++ List.replicate (n - (k+1)) []).map ordP := by
  rw [show n - k = (n - (k+1)) + 1 by omega, List.replicate_succ, ← List.map_set, List.set_append_right _ _ (by omega), ho, Nat.sub_self, List.set_cons_zero, List.append_assoc]; rfl

theorem orderFrom_sat {nl0 nl1 : Option Bool} {o : List (List Int)} {list : List Int} {c : Int} (ho : o.length < 1000000000) (hl4 : list.length ≤ 4) (hlo : ∀ l ∈ o, l.length < 1000000000) (hx : ∀ x ∈ list, 0 ≤ x ∧ x < o.length) (hOK : (∀ x ∈ list, o.getD x.toNat [] ≠ []) → OKLs (ordL o list ++ [list])) : SatAt Try.prog 56 [.pv false (.sl nl0 1 (o.map ordP)), .pv false (.sl nl1 1 (list.map intP)), i64 c] [] (fun res rows => res = [.ref 0] ∧ rows = [Row.own 3 1 (some (ordS o list c).isEmpty) true ((ordS o list c).map intP)]) := by
  refine sat_entry_g (ts := [6]) Try.func56 rfl rfl (by decide) (Nat.le_of_ble_eq_true rfl) fun C hC => ?_
  rw [Try.ntmps56]
  replace hC : C.nb = 0 := hC
  refine vc_seq fun K1 hK1 => ?_
  refine vc_region ?_
  refine vo_assign_pv rfl rfl ?_
  refine vo_nil ?_
  refine hK1 _ ?_
  refine vc_seq fun K2 hK2 => ?_
  refine vc_region ?_
  refine vo_assign_pv rfl rfl ?_
  refine vo_nil ?_
  refine hK2 _ ?_
  refine vc_seq fun K3 hK3 => ?_
  refine vc_seq fun K4 hK4 => ?_
  refine vc_region ?_
  refine vo_move_pv rfl rfl ?_
  refine vo_len_pv rfl rfl Try.underlying24 ?_
  refine vo_move_pv rfl rfl ?_
  refine vo_nil ?_
  refine hK4 _ ?_
  refine vc_block ?_
  refine vc_own_nil 7 E22 rfl ?_
  refine vc_flagrow 0 rfl ?_
  refine vc_stN ?_
  refine vc_loop [0, 1, 2, 7, 12, 13, 14] (fun mz vs rows => ∃ (k : Nat), mz = list.length - k ∧ (k ≤ list.length) ∧ (∀ x ∈ list.take k, o.getD x.toNat [] ≠ []) ∧ vs = [.pv false (.sl nl0 1 (o.map ordP)), .pv false (.sl nl1 1 (list.map intP)), i64 c, .ref 0, .pv false (.sl nl1 1 (list.map intP)), i64 (list.map intP).length, i64 k] ∧ rows = [Row.own 24 1 none false ((ordL o (list.take k)).map ints)]) (list.length) (le_len hC rfl) ⟨rfl, rfl⟩ ⟨0, rfl, Nat.zero_le _, (by simp), rfl, rfl⟩ ?_
  rintro mz vs rows - - ⟨k, rfl, hk, hf, rfl, rfl⟩
  have hll := ordL_len o (list.take k)
  rw [List.length_take] at hll
  refine vc_seq fun K5 hK5 => ?_
  refine vc_region ?_
  refine vo_binI rfl rfl rfl rfl trivial ?_
  refine vo_nil ?_
  refine hK5 _ ?_
  refine vc_seq fun K6 hK6 => ?_
  refine vc_cond rfl (fun hc1 => ?_) (fun hc1 => ?_)
  · try simp only [decide_eq_true_eq, decide_eq_false_iff_not, beq_iff_eq, bne_iff_ne, beq_eq_false_iff_ne, bne_eq_false_iff_eq, Bool.not_eq_true, Bool.not_eq_false, Bool.not_eq_eq_eq_not, Bool.not_true, Bool.not_false, List.length_map, Int.not_lt, Int.not_le, ne_eq, Decidable.not_not] at hc1
    have hm := getD_mem (show k < list.length by omega) 0
    have hb := hx _ hm
    refine vc_skip ?_
    refine hK6 _ ?_
    refine vc_seq fun K7 hK7 => ?_
    refine vc_block ?_
    refine vc_seq fun K8 hK8 => ?_
    refine vc_region ?_
    refine vo_index_pv (.int .i64 0) rfl rfl rfl E24.und inf3 sz3 sd sd ?_
    simp only [Int.toNat_natCast, Int.toNat_zero, getD_ints, getD_intss, getD_bools, getD_bytes, PV.cells, getD_ordP]
    refine vo_load_adr rfl rfl Try.underlying3 rfl ?_
    refine vo_assign_pv rfl rfl ?_
    refine vo_nil ?_
    refine hK8 _ ?_
    refine vc_seq fun K9 hK9 => ?_
    refine vc_seq fun K10 hK10 => ?_
    refine vc_region ?_
    refine vo_move_pv rfl rfl ?_
    refine vo_move_pv rfl rfl ?_
    refine vo_index_pv (.sl (some true) 1 []) rfl rfl rfl E22.und inf24 sz24 sd sd ?_
    simp only [Int.toNat_natCast, Int.toNat_zero, getD_ints, getD_intss, getD_bools, getD_bytes, PV.cells, getD_ordP]
    refine vo_load_adr rfl rfl Try.underlying24 rfl ?_
    refine vo_eqnil rfl rfl Try.underlying24 fun bn1 hn1 hnt1 hnf1 => ?_
    refine vo_nil ?_
    refine hK10 _ ?_
    refine vc_cond rfl (fun hc2 => ?_) (fun hc2 => ?_)
    · try simp only [decide_eq_true_eq, decide_eq_false_iff_not, beq_iff_eq, bne_iff_ne, beq_eq_false_iff_ne, bne_eq_false_iff_eq, Bool.not_eq_true, Bool.not_eq_false, Bool.not_eq_eq_eq_not, Bool.not_true, Bool.not_false, List.length_map, Int.not_lt, Int.not_le, ne_eq, Decidable.not_not] at hc2
      have hE : (o.getD (list.getD k 0).toNat []) = [] := by have := bEmp hnt1 hnf1; simp_all
      refine vc_seq fun K11 hK11 => ?_
      refine vc_region ?_
      refine vo_assign_pv rfl rfl ?_
      refine vo_nil ?_
      refine hK11 _ ?_
      refine vc_own_nilT 6 E24 rfl ?_
      refine vc_ret ?_
      change retG _ _ _ _ _
      refine retG_one 1 hC rfl rfl rfl rfl rfl ?_
      have e := ordS_stuck (c := c) hm hE
      exact ⟨rfl, row1_eqN (by rw [e]; rfl) (by rw [e]; rfl)⟩
    · try simp only [decide_eq_true_eq, decide_eq_false_iff_not, beq_iff_eq, bne_iff_ne, beq_eq_false_iff_ne, bne_eq_false_iff_eq, Bool.not_eq_true, Bool.not_eq_false, Bool.not_eq_eq_eq_not, Bool.not_true, Bool.not_false, List.length_map, Int.not_lt, Int.not_le, ne_eq, Decidable.not_not] at hc2
      have hE : (o.getD (list.getD k 0).toNat []) ≠ [] := by have := bEmp hnt1 hnf1; simp_all
      refine vc_skip ?_
      refine hK9 _ ?_
      refine vc_region ?_
      refine vo_move_ref rfl rfl ?_
      refine vo_move_pv rfl rfl ?_
      refine vo_move_pv rfl rfl ?_
      refine vo_index_pv (.sl (some true) 1 []) rfl rfl rfl E22.und inf24 sz24 sd sd ?_
      simp only [Int.toNat_natCast, Int.toNat_zero, getD_ints, getD_intss, getD_bools, getD_bytes, PV.cells, getD_ordP]
      refine vo_load_adr rfl rfl Try.underlying24 rfl ?_
      refine vo_weaken 27 rfl ?_
      refine vo_buildSlice E22 rfl rfl rfl rfl rfl ?_
      refine vo_append E22 rfl (by omega) rfl rfl rfl sd sd ?_
      refine vo_stN ?_
      try simp only [app_ints, app_intss, app_bools]
      refine vo_assign_ref rfl rfl ?_
      refine vo_nil ?_
      refine hK7 _ ?_
      refine vc_region ?_
      refine vo_binI rfl rfl rfl rfl sd ?_
      refine vo_move_pv rfl rfl ?_
      refine vo_nil ?_
      change again _ _ _ _ _ _
      refine again_mk rfl rfl rfl rfl ⟨_, ?_, k + 1, rfl, ?_, ?_, rfl, (congrArg (fun l => [Row.own 24 1 none false (List.map ints l)]) (show ordL o (list.take k) ++ [o.getD (list.getD k 0).toNat []] = ordL o (list.take (k+1)) from ordL_snoc _ (by omega)))⟩
      · omega
      · omega
      · exact (all_take_succ (by omega) 0).2 ⟨hf, hE⟩
  · try simp only [decide_eq_true_eq, decide_eq_false_iff_not, beq_iff_eq, bne_iff_ne, beq_eq_false_iff_ne, bne_eq_false_iff_eq, Bool.not_eq_true, Bool.not_eq_false, Bool.not_eq_eq_eq_not, Bool.not_true, Bool.not_false, List.length_map, Int.not_lt, Int.not_le, ne_eq, Decidable.not_not] at hc1
    have hk2 : k = list.length := by omega
    subst hk2
    rw [take_all (Nat.le_refl _)]
    rw [take_all (Nat.le_refl _)] at hf
    have hO := hOK hf
    have hmo := Nat.lt_of_le_of_lt (mgO_len (ordL o list ++ [list])) hO.tot
    have hll2 := ordL_len o list
    have hmr := mgR_len (ls := ordL o list ++ [list])
    refine vc_exit ?_
    refine hK3 _ ?_
    refine vc_seq fun K12 hK12 => ?_
    refine vc_region ?_
    refine vo_move_ref rfl rfl ?_
    refine vo_move_pv rfl rfl ?_
    refine vo_weaken 33 rfl ?_
    refine vo_buildSlice E22 rfl rfl rfl rfl rfl ?_
    refine vo_append E22 rfl (by omega) rfl rfl rfl sd sd ?_
    refine vo_stN ?_
    try simp only [app_ints, app_intss, app_bools]
    refine vo_expose 0 (by omega) rfl ?_
    refine vo_weaken 35 rfl ?_
    refine vo_stN ?_
    refine vo_call [] Try.func19 rfl rfl rfl rfl rfl rfl rfl (implMergeLists_sat (lists := ordL o list ++ [list]) (by have := hO.2; omega) (fun l hl => by have := (hO.1 l hl).1; omega)) ?_
    rintro _ _ ⟨nlm, rfl, rfl⟩
    refine ⟨Nat.le_of_ble_eq_true rfl, ⟨rfl, rfl, rfl, rfl⟩, .inl rfl, ?_⟩
    refine vo_stN ?_
    refine vo_move rfl ?_
    refine vo_extract rfl rfl rfl ?_
    refine vo_extract rfl rfl rfl ?_
    refine vo_assign_ref rfl rfl ?_
    refine vo_assign_pv rfl rfl ?_
    refine vo_nil ?_
    refine hK12 _ ?_
    refine vc_seq fun K13 hK13 => ?_
    refine vc_seq fun K14 hK14 => ?_
    refine vc_region ?_
    refine vo_move_pv rfl rfl ?_
    refine vo_not rfl rfl ?_
    refine vo_nil ?_
    refine hK14 _ ?_
    refine vc_cond rfl (fun hc3 => ?_) (fun hc3 => ?_)
    · try simp only [decide_eq_true_eq, decide_eq_false_iff_not, beq_iff_eq, bne_iff_ne, beq_eq_false_iff_ne, bne_eq_false_iff_eq, Bool.not_eq_true, Bool.not_eq_false, Bool.not_eq_eq_eq_not, Bool.not_true, Bool.not_false, List.length_map, Int.not_lt, Int.not_le, ne_eq, Decidable.not_not] at hc3
      refine vc_seq fun K15 hK15 => ?_
      refine vc_region ?_
      refine vo_assign_pv rfl rfl ?_
      refine vo_nil ?_
      refine hK15 _ ?_
      refine vc_own_nilT 6 E24 rfl ?_
      refine vc_ret ?_
      change retG _ _ _ _ _
      refine retG_one 3 hC rfl rfl rfl rfl rfl ?_
      have e : ordS o list c = [] := by rw [ordS_go hf, if_neg fun h => hc3 ⟨hO, h⟩]
      exact ⟨rfl, row1_eqN (by rw [e]; rfl) (by rw [e]; rfl)⟩
    · try simp only [decide_eq_true_eq, decide_eq_false_iff_not, beq_iff_eq, bne_iff_ne, beq_eq_false_iff_ne, bne_eq_false_iff_eq, Bool.not_eq_true, Bool.not_eq_false, Bool.not_eq_eq_eq_not, Bool.not_true, Bool.not_false, List.length_map, Int.not_lt, Int.not_le, ne_eq, Decidable.not_not] at hc3
      refine vc_skip ?_
      refine hK13 _ ?_
      refine vc_seq fun K16 hK16 => ?_
      refine vc_region ?_
      refine vo_move_pv rfl rfl ?_
      refine vo_buildSlice E24 rfl rfl rfl rfl rfl ?_
      refine vo_move_ref rfl rfl ?_
      refine vo_append E24 rfl (by omega) rfl rfl rfl sd sd ?_
      refine vo_stN ?_
      try simp only [app_ints, app_intss, app_bools]
      refine vo_assign_ref rfl rfl ?_
      refine vo_nil ?_
      refine hK16 _ ?_
      refine vc_ret ?_
      change retG _ _ _ _ _
      refine retG_one 3 hC rfl rfl rfl rfl rfl ?_
      have e : ordS o list c = c :: mgR (ordL o list ++ [list]) := by rw [ordS_go hf, if_pos hc3.2, mgR_yes hc3]
      exact ⟨rfl, row1_eqN (by rw [e]; rfl) (by rw [e]; rfl)⟩

end Go.Vl


namespace Go.Vl
set_option linter.unusedVariables false
set_option linter.unusedSimpArgs false
open Go.Proofs
theorem ordS_pad {o r : List (List Int)} {l : List Int} {c : Int} (h : ∀ x ∈ l, 0 ≤ x ∧ x < o.length) : ordS (o ++ r) l c = ordS o l c ∧ ordL (o ++ r) l = ordL o l := by
  have e : ∀ x ∈ l, (o ++ r).getD x.toNat [] = o.getD x.toNat [] := fun x hx => by
    have := h x hx
    simp only [List.getD]
    rw [List.getElem?_append_left (by omega)]
  have e2 : ordL (o ++ r) l = ordL o l := List.map_congr_left e
  have e3 : (∃ x ∈ l, (o ++ r).getD x.toNat [] = []) ↔ (∃ x ∈ l, o.getD x.toNat [] = []) :=
    ⟨fun ⟨x, h1, h2⟩ => ⟨x, h1, by rw [← e x h1]; exact h2⟩, fun ⟨x, h1, h2⟩ => ⟨x, h1, by rw [e x h1]; exact h2⟩⟩
  refine ⟨?_, e2⟩
  unfold ordS
  rw [e2]
  by_cases hh : ∃ x ∈ l, o.getD x.toNat [] = []
  · rw [if_pos hh, if_pos (e3.2 hh)]
  · rw [if_neg hh, if_neg (fun h => hh (e3.1 h))]
theorem get_ord {o : List (List Int)} {k : Nat} (h : k < o.length) : (o.map ordP)[k]? = some (.sl (some (o.getD k []).isEmpty) 1 ((o.getD k []).map intP)) := by
  simp [List.getD, List.getElem?_eq_getElem h]
theorem ordT_step {b : List (List Int)} (hv : VB b) {k : Nat} (h : k < b.length) (r : List (List Int)) : ordS (ordT b k ++ r) (b.getD k []) k = ordM b k ∧ ordL (ordT b k ++ r) (b.getD k []) = ordL (ordT b k) (b.getD k []) :=
  ordS_pad fun x hx => by have := (hv.at h).2.2 x hx; rw [ordT_len]; omega
theorem pad_mem {b : List (List Int)} (hv : VB b) {k n : Nat} (hk : k ≤ b.length) : ∀ l ∈ ordT b k ++ List.replicate n [], l.length < 1000000000 := by
  intro l hl
  rcases List.mem_append.1 hl with h | h
  · obtain ⟨j, hj, e⟩ := List.getElem_of_mem h
    have h1 : l = (ordT b k).getD j [] := by rw [← e]; simp [List.getD, List.getElem?_eq_getElem hj]
    rw [ordT_len] at hj
    rw [h1, ordT_get b k j hj]
    have := ordM_len hv (show j < b.length by omega)
    omega
  · rw [(List.mem_replicate.1 h).2]; simp

theorem ordersUpTo_sat {nl0 : Option Bool} {bases : List (List Int)} {c : Nat} (hbases : bases.length < 1000000000) (hlbases : ∀ l ∈ bases, l.length < 1000000000) (hv : VB bases) (hc : c < bases.length) : SatAt Try.prog 41 [.pv false (.sl nl0 1 (bases.map ints)), i64 c] [] (fun res rows => res = [.ref 0] ∧ rows = [Row.tree 24 1 (some false) none ((ordT bases (c+1)).map ordP)]) := by
  refine sat_entry_g (ts := [4]) Try.func41 rfl rfl (by decide) (Nat.le_of_ble_eq_true rfl) fun C hC => ?_
  rw [Try.ntmps41]
  replace hC : C.nb = 0 := hC
  refine vc_seq fun K1 hK1 => ?_
  refine vc_region ?_
  refine vo_assign_pv rfl rfl ?_
  refine vo_nil ?_
  refine hK1 _ ?_
  refine vc_seq fun K2 hK2 => ?_
  refine vc_region ?_
  refine vo_move_pv rfl rfl ?_
  refine vo_binI rfl rfl rfl rfl sd ?_
  refine vo_make E22 rfl rfl rfl sd sd sd ?_
  refine vo_assign_ref rfl rfl ?_
  refine vo_nil ?_
  refine hK2 _ ?_
  refine vc_seq fun K3 hK3 => ?_
  refine vc_seq fun K4 hK4 => ?_
  refine vc_region ?_
  refine vo_move_ref rfl rfl ?_
  refine vo_len_ref rfl rfl rfl Try.underlying22 ?_
  refine vo_move_pv rfl rfl ?_
  refine vo_nil ?_
  refine hK4 _ ?_
  refine vc_block ?_
  refine vc_totree 0 rfl (plain_rep _ _) ?_
  refine vc_stN ?_
  refine vc_loop [0, 5, 11, 12] (fun mz vs rows => ∃ (k : Nat), mz = (c + 1) - k ∧ (k ≤ (c + 1)) ∧ vs = [.pv false (.sl nl0 1 (bases.map ints)), .ref 0, i64 ((List.replicate (((c : Nat) : Int) + 1).toNat (PV.sl (some true) 1 [])).length : Nat), i64 k] ∧ rows = [Row.tree 24 1 (some false) none ((ordT bases k ++ List.replicate (c + 1 - k) []).map ordP)]) ((c + 1)) (le_len hC rfl) ⟨rfl, rfl⟩ ⟨0, rfl, Nat.zero_le _, rfl, (row1_eqT (by simp [ordT]))⟩ ?_
  rintro mz vs rows - - ⟨k, rfl, hk, rfl, rfl⟩
  have hR : (List.replicate (((c : Nat) : Int) + 1).toNat (PV.sl (some true) 1 [])).length = c + 1 := by rw [List.length_replicate]; omega
  have hP : (ordT bases k ++ List.replicate (c + 1 - k) []).length = c + 1 := by rw [List.length_append, ordT_len, List.length_replicate]; omega
  refine vc_seq fun K5 hK5 => ?_
  refine vc_region ?_
  refine vo_binI rfl rfl rfl rfl trivial ?_
  refine vo_nil ?_
  refine hK5 _ ?_
  refine vc_seq fun K6 hK6 => ?_
  refine vc_cond rfl (fun hc1 => ?_) (fun hc1 => ?_)
  · try simp only [decide_eq_true_eq, decide_eq_false_iff_not, beq_iff_eq, bne_iff_ne, beq_eq_false_iff_ne, bne_eq_false_iff_eq, Bool.not_eq_true, Bool.not_eq_false, Bool.not_eq_eq_eq_not, Bool.not_true, Bool.not_false, List.length_map, Int.not_lt, Int.not_le, ne_eq, Decidable.not_not] at hc1
    have h4 := (hv.at (show k < bases.length by omega)).1
    have hst := ordT_step hv (show k < bases.length by omega) (List.replicate (c + 1 - k) [])
    have hbd := (hv.at (show k < bases.length by omega)).2.2
    refine vc_skip ?_
    refine hK6 _ ?_
    refine vc_seq fun K7 hK7 => ?_
    refine vc_block ?_
    refine vc_seq fun K8 hK8 => ?_
    refine vc_region ?_
    refine vo_move_pv rfl rfl ?_
    refine vo_assign_pv rfl rfl ?_
    refine vo_nil ?_
    refine hK8 _ ?_
    refine vc_region ?_
    refine vo_move_ref rfl rfl ?_
    refine vo_move_pv rfl rfl ?_
    refine vo_move_ref rfl rfl ?_
    refine vo_move_pv rfl rfl ?_
    refine vo_move_pv rfl rfl ?_
    refine vo_index_pv (.sl none 1 []) rfl rfl rfl E22.und inf24 sz24 sd sd ?_
    simp only [Int.toNat_natCast, Int.toNat_zero, getD_ints, getD_intss, getD_bools, getD_bytes, PV.cells]
    refine vo_load_adr rfl rfl Try.underlying24 rfl ?_
    refine vo_move_pv rfl rfl ?_
    refine vo_call [] Try.func56 rfl rfl rfl rfl rfl rfl rfl (orderFrom_sat (o := ordT bases k ++ List.replicate (c + 1 - k) []) (list := bases.getD k []) (c := k) (by omega) h4 (pad_mem hv (by omega)) (fun x hx => by have := hbd x hx; omega) (fun _ => by rw [hst.2]; exact ordL_OKLs hv (by omega))) ?_
    rintro _ _ ⟨rfl, rfl⟩
    refine ⟨Nat.le_of_ble_eq_true rfl, ⟨rfl, rfl, rfl, rfl⟩, .inr ⟨rfl, rfl⟩, ?_⟩
    refine vo_stN ?_
    refine vo_index_ref rfl rfl rfl rfl E22.und inf24 sz24 sd sd ?_
    try simp only [Int.toNat_natCast]
    refine vo_store_tree rfl rfl (.inl rfl) rfl rfl rfl (fits_of rfl) (fun _ _ _ _ _ h => (own_tp h (plain_ints _)).1) rfl (by omega) (by omega) inf24 sz24 sd ?_
    refine vo_stN ?_
    try simp only [set_intss, Int.toNat_natCast]
    refine vo_nil ?_
    refine hK7 _ ?_
    refine vc_region ?_
    refine vo_binI rfl rfl rfl rfl sd ?_
    refine vo_move_pv rfl rfl ?_
    refine vo_nil ?_
    change again _ _ _ _ _ _
    refine again_mk rfl rfl rfl rfl ⟨_, ?_, k + 1, rfl, ?_, rfl, (row1_eqT (by rw [hst.1]; exact fill_ord (by omega) (ordT_len bases k) _))⟩
    · omega
    · omega
  · try simp only [decide_eq_true_eq, decide_eq_false_iff_not, beq_iff_eq, bne_iff_ne, beq_eq_false_iff_ne, bne_eq_false_iff_eq, Bool.not_eq_true, Bool.not_eq_false, Bool.not_eq_eq_eq_not, Bool.not_true, Bool.not_false, List.length_map, Int.not_lt, Int.not_le, ne_eq, Decidable.not_not] at hc1
    refine vc_exit ?_
    refine hK3 _ ?_
    refine vc_seq fun K9 hK9 => ?_
    refine vc_region ?_
    refine vo_move_ref rfl rfl ?_
    refine vo_assign_ref rfl rfl ?_
    refine vo_nil ?_
    refine hK9 _ ?_
    refine vc_ret ?_
    change retG _ _ _ _ _
    refine retG_one 0 hC rfl rfl rfl rfl rfl ?_
    exact ⟨rfl, row1_eqT (by rw [show k = c + 1 by omega]; simp)⟩

end Go.Vl


namespace Go.Vl
set_option linter.unusedVariables false
set_option linter.unusedSimpArgs false
open Go.Proofs

end Go.Vl


namespace Go.Vl
set_option linter.unusedVariables false
set_option linter.unusedSimpArgs false
open Go.Proofs
def allOK (b : List (List Int)) : Prop := VB b ∧ ∀ i, i < b.length → ordM b i ≠ []
instance {b : List (List Int)} : Decidable (allOK b) := by unfold allOK; infer_instance
theorem ordersUpTo_satI {nl0 : Option Bool} {bases : List (List Int)} {c : Int} (hbases : bases.length < 1000000000) (hlbases : ∀ l ∈ bases, l.length < 1000000000) (hv : VB bases) (h0 : 0 ≤ c) (h1 : c < bases.length) : SatAt Try.prog 41 [.pv false (.sl nl0 1 (bases.map ints)), i64 c] [] (fun res rows => res = [.ref 0] ∧ rows = [Row.tree 24 1 (some false) none ((ordT bases (c.toNat + 1)).map ordP)]) := by
  obtain ⟨n, rfl⟩ := Int.eq_ofNat_of_zero_le h0
  exact ordersUpTo_sat hbases hlbases hv (by omega)


theorem allOrders_sat {nl0 : Option Bool} {bases : List (List Int)} (hbases : bases.length < 1000000000) (hlbases : ∀ l ∈ bases, l.length < 1000000000) (hv : VB bases) : SatAt Try.prog 43 [.pv false (.sl nl0 1 (bases.map ints))] [] (fun res rows => res = [bo (decide (∀ i, i < bases.length → ordM bases i ≠ []))] ∧ rows = []) := by
  refine sat_entry (ts := [2]) Try.func43 rfl rfl (by decide) (Nat.le_of_ble_eq_true rfl) fun C hC => ?_
  rw [Try.ntmps43]
  replace hC : C.nb = 0 := hC
  refine vc_seq fun K1 hK1 => ?_
  refine vc_region ?_
  refine vo_assign_pv rfl rfl ?_
  refine vo_nil ?_
  refine hK1 _ ?_
  refine vc_seq fun K2 hK2 => ?_
  refine vc_seq fun K3 hK3 => ?_
  refine vc_region ?_
  refine vo_assign_pv rfl rfl ?_
  refine vo_nil ?_
  refine hK3 _ ?_
  refine vc_block ?_
  refine vc_stN ?_
  refine vc_loopF [0] [3] [.pv false (.sl nl0 1 (bases.map ints))] _ (fun mz vs => ∃ (k : Nat), mz = bases.length - k ∧ (k ≤ bases.length) ∧ (∀ i, i < k → ordM bases i ≠ []) ∧ vs = [i64 k]) (bases.length) rfl rfl (le_len hC rfl) ⟨rfl, rfl, rfl⟩ ⟨0, rfl, Nat.zero_le _, (fun i h => by omega), rfl⟩ ?_
  rintro mz vs - ⟨k, rfl, hk, hf, rfl⟩
  refine vc_stN ?_
  refine vc_seq fun K4 hK4 => ?_
  refine vc_seq fun K5 hK5 => ?_
  refine vc_region ?_
  refine vo_move_pv rfl rfl ?_
  refine vo_move_pv rfl rfl ?_
  refine vo_len_pv rfl rfl Try.underlying22 ?_
  refine vo_binI rfl rfl rfl rfl trivial ?_
  refine vo_nil ?_
  refine hK5 _ ?_
  refine vc_cond rfl (fun hc1 => ?_) (fun hc1 => ?_)
  · try simp only [decide_eq_true_eq, decide_eq_false_iff_not, beq_iff_eq, bne_iff_ne, beq_eq_false_iff_ne, bne_eq_false_iff_eq, Bool.not_eq_true, Bool.not_eq_false, Bool.not_eq_eq_eq_not, Bool.not_true, Bool.not_false, List.length_map, Int.not_lt, Int.not_le, ne_eq, Decidable.not_not] at hc1
    refine vc_skip ?_
    refine hK4 _ ?_
    refine vc_seq fun K6 hK6 => ?_
    refine vc_block ?_
    refine vc_seq fun K7 hK7 => ?_
    refine vc_region ?_
    refine vo_move_pv rfl rfl ?_
    refine vo_move_pv rfl rfl ?_
    refine vo_call [] Try.func39 rfl rfl rfl rfl rfl rfl rfl (orderOf_sat hbases hlbases hv k (by omega)) ?_
    rintro _ _ ⟨nl9, rfl, rfl⟩
    refine ⟨Nat.le_of_ble_eq_true rfl, ⟨rfl, rfl, rfl, rfl⟩, .inl rfl, ?_⟩
    refine vo_stN ?_
    refine vo_len_ref rfl rfl rfl Try.underlying24 ?_
    refine vo_binI rfl rfl rfl rfl trivial ?_
    refine vo_nil ?_
    refine hK7 _ ?_
    refine vc_cond rfl (fun hc2 => ?_) (fun hc2 => ?_)
    · try simp only [decide_eq_true_eq, decide_eq_false_iff_not, beq_iff_eq, bne_iff_ne, beq_eq_false_iff_ne, bne_eq_false_iff_eq, Bool.not_eq_true, Bool.not_eq_false, Bool.not_eq_eq_eq_not, Bool.not_true, Bool.not_false, List.length_map, Int.not_lt, Int.not_le, ne_eq, Decidable.not_not] at hc2
      refine vc_seq fun K8 hK8 => ?_
      refine vc_region ?_
      refine vo_assign_pv rfl rfl ?_
      refine vo_nil ?_
      refine hK8 _ ?_
      refine vc_ret ?_
      change retPv _ _ _ _ _
      refine retPv_mk rfl rfl rfl ⟨?_, rfl⟩
      refine (congrArg (fun b => [bo b]) (?_ : _ = _) : [bo _] = [bo _])
      exact bF fun h => h k (by omega) (List.eq_nil_of_length_eq_zero (by omega))
    · try simp only [decide_eq_true_eq, decide_eq_false_iff_not, beq_iff_eq, bne_iff_ne, beq_eq_false_iff_ne, bne_eq_false_iff_eq, Bool.not_eq_true, Bool.not_eq_false, Bool.not_eq_eq_eq_not, Bool.not_true, Bool.not_false, List.length_map, Int.not_lt, Int.not_le, ne_eq, Decidable.not_not] at hc2
      refine vc_skip ?_
      refine hK6 _ ?_
      refine vc_region ?_
      refine vo_move_pv rfl rfl ?_
      refine vo_binI rfl rfl rfl rfl sd ?_
      refine vo_assign_pv rfl rfl ?_
      refine vo_nil ?_
      change againF _ _ _ _ _ _ _ _ _
      refine againF_mk rfl rfl rfl rfl rfl rfl ⟨_, ?_, k + 1, rfl, ?_, ?_, rfl⟩
      · omega
      · omega
      · intro i hi; rcases Nat.lt_or_ge i k with h1 | h1; exact hf i h1; rw [show i = k by omega]; intro e; rw [e] at hc2; simp at hc2
  · try simp only [decide_eq_true_eq, decide_eq_false_iff_not, beq_iff_eq, bne_iff_ne, beq_eq_false_iff_ne, bne_eq_false_iff_eq, Bool.not_eq_true, Bool.not_eq_false, Bool.not_eq_eq_eq_not, Bool.not_true, Bool.not_false, List.length_map, Int.not_lt, Int.not_le, ne_eq, Decidable.not_not] at hc1
    refine vc_exit ?_
    refine hK2 _ ?_
    refine vc_seq fun K9 hK9 => ?_
    refine vc_region ?_
    refine vo_assign_pv rfl rfl ?_
    refine vo_nil ?_
    refine hK9 _ ?_
    refine vc_ret ?_
    change retPv _ _ _ _ _
    refine retPv_mk rfl rfl rfl ⟨?_, rfl⟩
    refine (congrArg (fun b => [bo b]) (?_ : _ = _) : [bo _] = [bo _])
    exact bT fun i hi => hf i (by omega)


theorem specAllOrders_sat {nl0 : Option Bool} {bases : List (List Int)} (hbases : bases.length < 1000000000) (hlbases : ∀ l ∈ bases, l.length < 1000000000)  : SatAt Try.prog 22 [.pv false (.sl nl0 1 (bases.map ints))] [] (fun res rows => res = [bo (decide (allOK bases))] ∧ rows = []) := by
  refine sat_entry (ts := [2]) Try.func22 rfl rfl (by decide) (Nat.le_of_ble_eq_true rfl) fun C hC => ?_
  rw [Try.ntmps22]
  replace hC : C.nb = 0 := hC
  refine vc_seq fun K1 hK1 => ?_
  refine vc_region ?_
  refine vo_assign_pv rfl rfl ?_
  refine vo_nil ?_
  refine hK1 _ ?_
  refine vc_seq fun K2 hK2 => ?_
  refine vc_region ?_
  refine vo_move_pv rfl rfl ?_
  refine vo_call0 Try.func42 rfl rfl rfl rfl (specValidBases0_sat hbases hlbases) ?_
  rintro _ _ ⟨rfl, rfl⟩
  refine ⟨rfl, rfl, .inl rfl, ?_⟩
  refine vo_move_pv rfl rfl ?_
  refine vo_split 5 rfl (fun hg1 => ?_) (fun hg1 => ?_)
  · try simp only [decide_eq_true_eq, decide_eq_false_iff_not, beq_iff_eq, bne_iff_ne, beq_eq_false_iff_ne, bne_eq_false_iff_eq, Bool.not_eq_true, Bool.not_eq_false, Bool.not_eq_eq_eq_not, Bool.not_true, Bool.not_false, List.length_map, Int.not_lt, Int.not_le, ne_eq, Decidable.not_not] at hg1
    refine vo_guard_on rfl rfl rfl ?_
    refine vo_move_pv rfl rfl ?_
    refine vo_guard_on rfl rfl rfl ?_
    refine vo_call0 Try.func43 rfl rfl rfl rfl (allOrders_sat hbases hlbases hg1) ?_
    rintro _ _ ⟨rfl, rfl⟩
    refine ⟨rfl, rfl, .inl rfl, ?_⟩
    refine vo_pick_t rfl rfl ?_
    refine vo_assign_pv rfl rfl ?_
    refine vo_nil ?_
    refine hK2 _ ?_
    refine vc_ret ?_
    change retPv _ _ _ _ _
    refine retPv_mk rfl rfl rfl ⟨?_, rfl⟩
    refine (congrArg (fun b => [bo b]) (?_ : _ = _) : [bo _] = [bo _])
    exact decide_eq_decide.2 ⟨fun h => ⟨hg1, h⟩, fun h => h.2⟩
  · try simp only [decide_eq_true_eq, decide_eq_false_iff_not, beq_iff_eq, bne_iff_ne, beq_eq_false_iff_ne, bne_eq_false_iff_eq, Bool.not_eq_true, Bool.not_eq_false, Bool.not_eq_eq_eq_not, Bool.not_true, Bool.not_false, List.length_map, Int.not_lt, Int.not_le, ne_eq, Decidable.not_not] at hg1
    refine vo_guard_off rfl rfl rfl rfl rfl ?_
    refine vo_guard_off rfl rfl rfl rfl rfl ?_
    refine vo_pick_f rfl rfl ?_
    refine vo_assign_pv rfl rfl ?_
    refine vo_nil ?_
    refine hK2 _ ?_
    refine vc_ret ?_
    change retPv _ _ _ _ _
    refine retPv_mk rfl rfl rfl ⟨?_, rfl⟩
    refine (congrArg (fun b => [bo b]) (?_ : _ = _) : [bo _] = [bo _])
    exact bF fun h => hg1 h.1


theorem implAllOrders_sat {nl0 : Option Bool} {bases : List (List Int)} (hbases : bases.length < 1000000000) (hlbases : ∀ l ∈ bases, l.length < 1000000000)  : SatAt Try.prog 23 [.pv false (.sl nl0 1 (bases.map ints))] [] (fun res rows => res = [bo (decide (allOK bases))] ∧ rows = []) := by
  refine sat_entry (ts := [2]) Try.func23 rfl rfl (by decide) (Nat.le_of_ble_eq_true rfl) fun C hC => ?_
  rw [Try.ntmps23]
  replace hC : C.nb = 0 := hC
  refine vc_seq fun K1 hK1 => ?_
  refine vc_region ?_
  refine vo_assign_pv rfl rfl ?_
  refine vo_nil ?_
  refine hK1 _ ?_
  refine vc_seq fun K2 hK2 => ?_
  refine vc_seq fun K3 hK3 => ?_
  refine vc_region ?_
  refine vo_move_pv rfl rfl ?_
  refine vo_call0 Try.func44 rfl rfl rfl rfl (implValidBases_sat hbases hlbases) ?_
  rintro _ _ ⟨rfl, rfl⟩
  refine ⟨rfl, rfl, .inl rfl, ?_⟩
  refine vo_not rfl rfl ?_
  refine vo_nil ?_
  refine hK3 _ ?_
  refine vc_cond rfl (fun hc1 => ?_) (fun hc1 => ?_)
  · try simp only [decide_eq_true_eq, decide_eq_false_iff_not, beq_iff_eq, bne_iff_ne, beq_eq_false_iff_ne, bne_eq_false_iff_eq, Bool.not_eq_true, Bool.not_eq_false, Bool.not_eq_eq_eq_not, Bool.not_true, Bool.not_false, List.length_map, Int.not_lt, Int.not_le, ne_eq, Decidable.not_not] at hc1
    refine vc_seq fun K4 hK4 => ?_
    refine vc_region ?_
    refine vo_assign_pv rfl rfl ?_
    refine vo_nil ?_
    refine hK4 _ ?_
    refine vc_ret ?_
    change retPv _ _ _ _ _
    refine retPv_mk rfl rfl rfl ⟨?_, rfl⟩
    refine (congrArg (fun b => [bo b]) (?_ : _ = _) : [bo _] = [bo _])
    exact bF fun h => hc1 h.1
  · try simp only [decide_eq_true_eq, decide_eq_false_iff_not, beq_iff_eq, bne_iff_ne, beq_eq_false_iff_ne, bne_eq_false_iff_eq, Bool.not_eq_true, Bool.not_eq_false, Bool.not_eq_eq_eq_not, Bool.not_true, Bool.not_false, List.length_map, Int.not_lt, Int.not_le, ne_eq, Decidable.not_not] at hc1
    have h1 := hc1.1
    have hTl2 := ordT_len bases (((bases.length : Int) - 1).toNat + 1)
    have hlm : (bases.map ints).length = bases.length := List.length_map ..
    have hTl := ordT_len bases ((((bases.map ints).length : Int) - 1).toNat + 1)
    have hN : (((bases.map ints).length : Int) - 1).toNat + 1 = bases.length := by omega
    refine vc_skip ?_
    refine hK2 _ ?_
    refine vc_seq fun K5 hK5 => ?_
    refine vc_seq fun K6 hK6 => ?_
    refine vc_region ?_
    refine vo_move_pv rfl rfl ?_
    refine vo_move_pv rfl rfl ?_
    refine vo_len_pv rfl rfl Try.underlying22 ?_
    refine vo_binI rfl rfl rfl rfl sd ?_
    refine vo_call [] Try.func41 rfl rfl rfl rfl rfl rfl rfl (ordersUpTo_satI (c := ((bases.map ints).length : Int) - 1) hbases hlbases hc1 (by have := hc1.1; rw [List.length_map]; omega) (by rw [List.length_map]; omega)) ?_
    rintro _ _ ⟨rfl, rfl⟩
    refine ⟨Nat.le_of_ble_eq_true rfl, ⟨rfl, rfl, rfl, rfl⟩, .inl rfl, ?_⟩
    refine vo_stN ?_
    refine vo_len_ref rfl rfl rfl Try.underlying22 ?_
    refine vo_move_pv rfl rfl ?_
    refine vo_nil ?_
    refine hK6 _ ?_
    refine vc_block ?_
    refine vc_stN ?_
    refine vc_loop [12, 13, 14] (fun mz vs rows => ∃ (k : Nat), mz = bases.length - k ∧ (k ≤ bases.length) ∧ (∀ i, i < k → ordM bases i ≠ []) ∧ vs = [.ref 0, i64 (((ordT bases ((((bases.map ints).length : Int) - 1).toNat + 1)).map ordP).length : Nat), i64 k] ∧ rows = [Row.tree 24 1 (some false) none ((ordT bases ((((bases.map ints).length : Int) - 1).toNat + 1)).map ordP)]) (bases.length) (le_len hC rfl) ⟨rfl, rfl⟩ ⟨0, rfl, Nat.zero_le _, (fun i h => by omega), rfl, rfl⟩ ?_
    rintro mz vs rows - - ⟨k, rfl, hk, hf, rfl, rfl⟩
    refine vc_seq fun K7 hK7 => ?_
    refine vc_region ?_
    refine vo_binI rfl rfl rfl rfl trivial ?_
    refine vo_nil ?_
    refine hK7 _ ?_
    refine vc_seq fun K8 hK8 => ?_
    refine vc_cond rfl (fun hc2 => ?_) (fun hc2 => ?_)
    · try simp only [decide_eq_true_eq, decide_eq_false_iff_not, beq_iff_eq, bne_iff_ne, beq_eq_false_iff_ne, bne_eq_false_iff_eq, Bool.not_eq_true, Bool.not_eq_false, Bool.not_eq_eq_eq_not, Bool.not_true, Bool.not_false, List.length_map, Int.not_lt, Int.not_le, ne_eq, Decidable.not_not] at hc2
      refine vc_skip ?_
      refine hK8 _ ?_
      refine vc_seq fun K9 hK9 => ?_
      refine vc_block ?_
      refine vc_seq fun K10 hK10 => ?_
      refine vc_region ?_
      refine vo_index_ref rfl rfl rfl rfl E22.und inf24 sz24 sd sd ?_
      try simp only [Int.toNat_natCast]
      refine vo_load_sub rfl rfl rfl Try.underlying24 rfl sd fun u1 => ?_
      refine vo_stN ?_
      refine vo_assign rfl ?_
      refine vo_nil ?_
      refine hK10 _ ?_
      refine vc_seq fun K11 hK11 => ?_
      refine vc_region ?_
      refine vo_move rfl ?_
      refine vo_eqnil_val (id := 0) rfl rfl rfl (get_ord (o := ordT bases ((((bases.map ints).length : Int) - 1).toNat + 1)) (k := k) (by rw [hTl]; omega)) Try.underlying24 fun bn1 hn1 hnt1 hnf1 => ?_
      refine vo_unknow 0 rfl ?_
      refine vo_stN ?_
      refine vo_nil ?_
      refine hK11 _ ?_
      refine vc_cond rfl (fun hc3 => ?_) (fun hc3 => ?_)
      · try simp only [decide_eq_true_eq, decide_eq_false_iff_not, beq_iff_eq, bne_iff_ne, beq_eq_false_iff_ne, bne_eq_false_iff_eq, Bool.not_eq_true, Bool.not_eq_false, Bool.not_eq_eq_eq_not, Bool.not_true, Bool.not_false, List.length_map, Int.not_lt, Int.not_le, ne_eq, Decidable.not_not] at hc3
        have hg := ordT_get bases ((((bases.map ints).length : Int) - 1).toNat + 1) k (by omega)
        rw [hg] at hn1 hnt1 hnf1
        have hb := bEmp hnt1 hnf1
        have hE : ordM bases k = [] := List.isEmpty_iff.1 (hb.symm.trans hc3)
        refine vc_seq fun K12 hK12 => ?_
        refine vc_region ?_
        refine vo_assign_pv rfl rfl ?_
        refine vo_nil ?_
        refine hK12 _ ?_
        refine vc_ret ?_
        change retPv _ _ _ _ _
        refine retPv_mk rfl rfl rfl ⟨?_, rfl⟩
        refine (congrArg (fun b => [bo b]) (?_ : _ = _) : [bo _] = [bo _])
        exact bF fun h => h.2 k (by omega) hE
      · try simp only [decide_eq_true_eq, decide_eq_false_iff_not, beq_iff_eq, bne_iff_ne, beq_eq_false_iff_ne, bne_eq_false_iff_eq, Bool.not_eq_true, Bool.not_eq_false, Bool.not_eq_eq_eq_not, Bool.not_true, Bool.not_false, List.length_map, Int.not_lt, Int.not_le, ne_eq, Decidable.not_not] at hc3
        have hg := ordT_get bases ((((bases.map ints).length : Int) - 1).toNat + 1) k (by omega)
        rw [hg] at hn1 hnt1 hnf1
        have hb := bEmp hnt1 hnf1
        have hE : ordM bases k ≠ [] := fun e => by rw [e] at hb; simp [hb] at hc3
        refine vc_skip ?_
        refine hK9 _ ?_
        refine vc_region ?_
        refine vo_binI rfl rfl rfl rfl sd ?_
        refine vo_move_pv rfl rfl ?_
        refine vo_nil ?_
        change again _ _ _ _ _ _
        refine again_mk rfl rfl rfl rfl ⟨_, ?_, k + 1, rfl, ?_, ?_, rfl, rfl⟩
        · omega
        · omega
        · intro i hi; rcases Nat.lt_or_ge i k with h1 | h1; exact hf i h1; rw [show i = k by omega]; exact hE
    · try simp only [decide_eq_true_eq, decide_eq_false_iff_not, beq_iff_eq, bne_iff_ne, beq_eq_false_iff_ne, bne_eq_false_iff_eq, Bool.not_eq_true, Bool.not_eq_false, Bool.not_eq_eq_eq_not, Bool.not_true, Bool.not_false, List.length_map, Int.not_lt, Int.not_le, ne_eq, Decidable.not_not] at hc2
      refine vc_exit ?_
      refine hK5 _ ?_
      refine vc_seq fun K13 hK13 => ?_
      refine vc_region ?_
      refine vo_assign_pv rfl rfl ?_
      refine vo_nil ?_
      refine hK13 _ ?_
      refine vc_ret ?_
      change retPv _ _ _ _ _
      refine retPv_mk rfl rfl rfl ⟨?_, rfl⟩
      refine (congrArg (fun b => [bo b]) (?_ : _ = _) : [bo _] = [bo _])
      exact bT ⟨hc1, fun i hi => hf i (by omega)⟩


theorem FnExactAllOrders_sat {nl0 : Option Bool} {aBases : List (List Int)} (haBases : aBases.length ≤ 9223372036854775807) (hlaBases : ∀ l ∈ aBases, l.length ≤ 9223372036854775807) : SatAt Try.prog 6 [.pv false (.sl nl0 1 (aBases.map ints))] [] (fun res rows => res = [bo true] ∧ rows = []) := by
  refine sat_entry (ts := [2]) Try.func6 rfl rfl (by decide) (Nat.le_of_ble_eq_true rfl) fun C hC => ?_
  rw [Try.ntmps6]
  replace hC : C.nb = 0 := hC
  refine vc_seq fun K1 hK1 => ?_
  refine vc_region ?_
  refine vo_assign_pv rfl rfl ?_
  refine vo_nil ?_
  refine hK1 _ ?_
  refine vc_seq fun K2 hK2 => ?_
  refine vc_region ?_
  refine vo_assign_pv rfl rfl ?_
  refine vo_nil ?_
  refine hK2 _ ?_
  refine vc_seq fun K3 hK3 => ?_
  refine vc_region ?_
  refine vo_move_pv rfl rfl ?_
  refine vo_move_pv rfl rfl ?_
  refine vo_call0 Try.func9 rfl rfl rfl rfl (szIntSS_sat haBases hlaBases (by omega) (by omega)) ?_
  rintro _ _ ⟨vaBases, hvaBases, rfl, rfl⟩
  refine ⟨rfl, rfl, .inl rfl, ?_⟩
  refine vo_assign_pv rfl rfl ?_
  refine vo_nil ?_
  refine hK3 _ ?_
  refine vc_seq fun K4 hK4 => ?_
  refine vc_seq fun K5 hK5 => ?_
  refine vc_region ?_
  refine vo_move_pv rfl rfl ?_
  refine vo_binI rfl rfl rfl rfl trivial ?_
  refine vo_nil ?_
  refine hK5 _ ?_
  refine vc_cond rfl (fun hc1 => ?_) (fun hc1 => ?_)
  · try simp only [decide_eq_true_eq, decide_eq_false_iff_not, beq_iff_eq, bne_iff_ne, beq_eq_false_iff_ne, bne_eq_false_iff_eq, Bool.not_eq_true, Bool.not_eq_false, Bool.not_eq_eq_eq_not, Bool.not_true, Bool.not_false, List.length_map, Int.not_lt, Int.not_le, ne_eq, Decidable.not_not] at hc1
    refine vc_seq fun K6 hK6 => ?_
    refine vc_region ?_
    refine vo_assign_pv rfl rfl ?_
    refine vo_nil ?_
    refine hK6 _ ?_
    refine vc_ret ?_
    change retPv _ _ _ _ _
    refine retPv_mk rfl rfl rfl ⟨?_, rfl⟩
    rfl
  · try simp only [decide_eq_true_eq, decide_eq_false_iff_not, beq_iff_eq, bne_iff_ne, beq_eq_false_iff_ne, bne_eq_false_iff_eq, Bool.not_eq_true, Bool.not_eq_false, Bool.not_eq_eq_eq_not, Bool.not_true, Bool.not_false, List.length_map, Int.not_lt, Int.not_le, ne_eq, Decidable.not_not] at hc1
    have hbaBases := hvaBases.resolve_left (by omega)
    have hBaBases : aBases.length < 1000000000 := by omega
    have hLaBases : ∀ l ∈ aBases, l.length < 1000000000 := fun l hl => by have := hbaBases.2.2 l hl; omega
    refine vc_skip ?_
    refine hK4 _ ?_
    refine vc_seq fun K7 hK7 => ?_
    refine vc_region ?_
    refine vo_move_pv rfl rfl ?_
    refine vo_call [] Try.func11 rfl rfl rfl rfl rfl rfl rfl (toIntSS_sat hBaBases hLaBases) ?_
    rintro _ _ ⟨rfl, rfl⟩
    refine ⟨Nat.le_of_ble_eq_true rfl, ⟨rfl, rfl, rfl, rfl⟩, .inl rfl, ?_⟩
    refine vo_stN ?_
    refine vo_call0 Try.func22 rfl rfl rfl rfl (specAllOrders_sat hBaBases hLaBases) ?_
    rintro _ _ ⟨rfl, rfl⟩
    refine ⟨rfl, rfl, .inr rfl, ?_⟩
    refine vo_assign_pv rfl rfl ?_
    refine vo_nil ?_
    refine hK7 _ ?_
    refine vc_seq fun K8 hK8 => ?_
    refine vc_region ?_
    refine vo_move_pv rfl rfl ?_
    refine vo_call [] Try.func11 rfl rfl rfl rfl rfl rfl rfl (toIntSS_sat hBaBases hLaBases) ?_
    rintro _ _ ⟨rfl, rfl⟩
    refine ⟨Nat.le_of_ble_eq_true rfl, ⟨rfl, rfl, rfl, rfl⟩, .inl rfl, ?_⟩
    refine vo_stN ?_
    refine vo_assign_ref rfl rfl ?_
    refine vo_nil ?_
    refine hK8 _ ?_
    refine vc_seq fun K9 hK9 => ?_
    refine vc_region ?_
    refine vo_move_ref rfl rfl ?_
    refine vo_call0 Try.func23 rfl rfl rfl rfl (implAllOrders_sat hBaBases hLaBases) ?_
    rintro _ _ ⟨rfl, rfl⟩
    refine ⟨rfl, rfl, .inr rfl, ?_⟩
    refine vo_assign_pv rfl rfl ?_
    refine vo_nil ?_
    refine hK9 _ ?_
    refine vc_seq fun K10 hK10 => ?_
    refine vc_seq fun K11 hK11 => ?_
    refine vc_region ?_
    refine vo_move_pv rfl rfl ?_
    refine vo_move_pv rfl rfl ?_
    refine vo_binB rfl rfl rfl rfl Try.underlying4 ?_
    refine vo_nil ?_
    refine hK11 _ ?_
    refine vc_cond rfl (fun hc2 => ?_) (fun hc2 => ?_)
    · try simp only [decide_eq_true_eq, decide_eq_false_iff_not, beq_iff_eq, bne_iff_ne, beq_eq_false_iff_ne, bne_eq_false_iff_eq, Bool.not_eq_true, Bool.not_eq_false, Bool.not_eq_eq_eq_not, Bool.not_true, Bool.not_false, List.length_map, Int.not_lt, Int.not_le, ne_eq, Decidable.not_not] at hc2
      refine vc_seq fun K12 hK12 => ?_
      refine vc_region ?_
      refine vo_assign_pv rfl rfl ?_
      refine vo_nil ?_
      refine hK12 _ ?_
      refine vc_ret ?_
      change retPv _ _ _ _ _
      refine retPv_mk rfl rfl rfl ⟨?_, rfl⟩
      first | exact absurd trivial (by assumption) | exact absurd rfl (by assumption) | contradiction
    · try simp only [decide_eq_true_eq, decide_eq_false_iff_not, beq_iff_eq, bne_iff_ne, beq_eq_false_iff_ne, bne_eq_false_iff_eq, Bool.not_eq_true, Bool.not_eq_false, Bool.not_eq_eq_eq_not, Bool.not_true, Bool.not_false, List.length_map, Int.not_lt, Int.not_le, ne_eq, Decidable.not_not] at hc2
      refine vc_skip ?_
      refine hK10 _ ?_
      refine vc_seq fun K13 hK13 => ?_
      refine vc_seq fun K14 hK14 => ?_
      refine vc_region ?_
      refine vo_move_ref rfl rfl ?_
      refine vo_move_pv rfl rfl ?_
      refine vo_call [] Try.func11 rfl rfl rfl rfl rfl rfl rfl (toIntSS_sat hBaBases hLaBases) ?_
      rintro _ _ ⟨rfl, rfl⟩
      refine ⟨Nat.le_of_ble_eq_true rfl, ⟨rfl, rfl, rfl, rfl⟩, .inl rfl, ?_⟩
      refine vo_stN ?_
      refine vo_call0 Try.func14 rfl rfl rfl rfl (eqIntSS_sat hBaBases hLaBases hBaBases hLaBases) ?_
      rintro _ _ ⟨rfl, rfl⟩
      refine ⟨rfl, rfl, .inr rfl, ?_⟩
      refine vo_not rfl rfl ?_
      refine vo_nil ?_
      refine hK14 _ ?_
      refine vc_cond rfl (fun hc3 => ?_) (fun hc3 => ?_)
      · try simp only [decide_eq_true_eq, decide_eq_false_iff_not, beq_iff_eq, bne_iff_ne, beq_eq_false_iff_ne, bne_eq_false_iff_eq, Bool.not_eq_true, Bool.not_eq_false, Bool.not_eq_eq_eq_not, Bool.not_true, Bool.not_false, List.length_map, Int.not_lt, Int.not_le, ne_eq, Decidable.not_not] at hc3
        refine vc_seq fun K15 hK15 => ?_
        refine vc_region ?_
        refine vo_assign_pv rfl rfl ?_
        refine vo_nil ?_
        refine hK15 _ ?_
        refine vc_ret ?_
        change retPv _ _ _ _ _
        refine retPv_mk rfl rfl rfl ⟨?_, rfl⟩
        first | exact absurd trivial (by assumption) | exact absurd rfl (by assumption) | contradiction
      · try simp only [decide_eq_true_eq, decide_eq_false_iff_not, beq_iff_eq, bne_iff_ne, beq_eq_false_iff_ne, bne_eq_false_iff_eq, Bool.not_eq_true, Bool.not_eq_false, Bool.not_eq_eq_eq_not, Bool.not_true, Bool.not_false, List.length_map, Int.not_lt, Int.not_le, ne_eq, Decidable.not_not] at hc3
        refine vc_skip ?_
        refine hK13 _ ?_
        refine vc_seq fun K16 hK16 => ?_
        refine vc_region ?_
        refine vo_assign_pv rfl rfl ?_
        refine vo_nil ?_
        refine hK16 _ ?_
        refine vc_ret ?_
        change retPv _ _ _ _ _
        refine retPv_mk rfl rfl rfl ⟨?_, rfl⟩
        rfl

end Go.Vl


/- From a function's contract to the row of a law over bytes. -/
namespace Go.Vl
set_option linter.unusedVariables false
set_option linter.unusedSimpArgs false
open Go.RowKit Go.WideShapes

/-- What is known of bytes that come in. -/
def BytesAt (w : World) (a0 : Option Addr) (len cap : Nat) : Prop :=
  (a0 = none ∧ len = 0 ∧ cap = 0) ∨ ∃ (x : Addr) (zs : List Int), a0 = some x ∧ x.spot = none ∧ x.block < w.heap.size ∧ len ≤ cap ∧ zs.length = cap ∧
    (∀ i, i < zs.length → w.cell? (x.add i) = some (.int .u8 (zs.getD i 0))) ∧ ∀ n ∈ zs, (Lit.int .u8 n).wf = true

end Go.Vl


/- From a function's contract to the row of a law over lists of numbers, and numbers. -/
namespace Go.Vl
set_option linter.unusedVariables false
set_option linter.unusedSimpArgs false
open Go.RowKit Go.WideShapes Go.ChangeShapes

/-- The setting of a law's call. -/
def C0 (w : World) : Ctx := ⟨w, fun b => b < w.heap.size, 0, fun _ => default⟩
def G0 (w : World) : Bool → Nat → Prop := Gd (C0 w) [] (fun _ => default) w
theorem G0_of {w : World} {b : Nat} (h : b < w.heap.size) : G0 w false b := by
  refine ⟨h, ?_, fun _ => .inl h, fun e => by cases e⟩
  rintro ⟨id, ⟨r, hr, _⟩, _⟩
  simp at hr

theorem law_gen {P : Program} {f : FuncId} {w : World} {args : List SV} {vals : Array Value} (hl : vals.size = args.length)
    (hv : ∀ (j : Nat) (a : SV), args[j]? = some a → RS w (G0 w) (fun _ => default) 0 a (vals.getD j undef))
    (h : SatAt P f args [] (fun res rows => res = [bo true] ∧ rows = [])) :
    Calls P f vals w fun e w' => e = .returned (.bool true) ∧ Below w.heap.size w w' := by
  have hsim : SimM (C0 w) ⟨vals.size, enumE 0 args, []⟩ (fun _ => default) ⟨vals, []⟩ w := {
    defs := rfl
    size := rfl
    os := rfl
    tape := rfl
    output := rfl
    hsz := Nat.le_refl _
    old := fun _ _ _ => rfl
    bor := fun id hid => by cases hid
    nbl := Nat.zero_le _
    newb := fun id b _ ⟨r, hr, _⟩ => by simp at hr
    dist := fun i j b ⟨r, hr, _⟩ => by simp at hr
    rows := fun id r hr => by simp at hr
    env := fun t => by
      show RS _ _ _ _ (look (enumE 0 _) t) _
      rw [look_enumE]
      simp only [Nat.zero_le, if_true, Nat.sub_zero]
      cases ha : args[t]? with
      | none => exact .any _
      | some a => exact hv t a ha }
  refine (h (C0 w) (fun _ => default) vals rfl (fun b hb => hb) hl hsim).mono fun e w' hx => ?_
  obtain ⟨us, res, rows', m', rfl, hus, hs, rfl, rfl⟩ := hx
  have hv := hs.env 0
  have h1 : us.size = 1 := hus
  refine ⟨?_, hs.os, hs.tape, hs.output, hs.hsz, fun k hk => hs.old k hk (fun id hid => by cases hid)⟩
  have hv : RS w' (Gd (C0 w) [] m' w') m' 0 (bo true) (us.getD 0 undef) := hv
  have hb := hv.pv_inv
  unfold pack
  rw [dif_pos h1]
  simp only [Array.getD, h1, Nat.lt_succ_self, dif_pos, Nat.zero_lt_one] at hb
  cases hu : us[0]
  all_goals (simp only [Array.getInternal_eq_getElem, hu] at hb; cases hb)
  rfl

theorem cell_block {w : World} {a : Addr} {v : Value} (h : w.cell? a = some v) : a.block < w.heap.size := by
  unfold World.cell? at h
  rcases Nat.lt_or_ge a.block w.heap.size with h3 | h3
  · exact h3
  · rw [Array.getElem?_eq_none h3] at h; cases h

theorem addr_add (a : Addr) (i : Nat) (hs : a.spot = none) : a.add i = ⟨a.block, a.off + i, none⟩ := by
  obtain ⟨b, o, s⟩ := a
  simp only at hs
  subst hs
  unfold Addr.add
  split
  · rename_i h; simp [h]
  · rfl

/-- A list of numbers, by its cells. -/
theorem ints_rp {w : World} {a : Option Addr} {len cap : Nat} (zs : List Int) (hl : len ≤ cap) (hz : zs.length = cap) (h0 : a = none → cap = 0)
    (hc : ∀ a', a = some a' → ∀ c, c < cap → w.cell? (a'.add c) = some (.int .i64 (zs.getD c 0))) : RP w (G0 w false) (.sl none 1 ((zs.take len).map intP)) (.slice a len cap) := by
  cases a with
  | none =>
    have := h0 rfl
    subst this
    have e : len = 0 := by omega
    subst e
    exact .nilsl _ _ (by simp)
  | some a' =>
    have hc := hc a' rfl
    have hlen : ((zs.take len).map intP).length = len := by simp; omega
    have key : ∀ i (x : PV), ((zs.take len).map intP)[i]? = some x → i < len ∧ x = intP (zs.getD i 0) := by
      intro i x hx
      have hi : i < len := by rw [← hlen]; exact (List.getElem?_eq_some_iff.1 hx).1
      refine ⟨hi, ?_⟩
      simp only [List.getElem?_map, List.getElem?_take, hi, if_true, Option.map_eq_some_iff] at hx
      obtain ⟨y, hy, rfl⟩ := hx
      simp [List.getD, hy]
    have hsp : ∀ i, i < len → a'.spot = none := by
      intro i hi
      have := World.cell?_spot (hc 0 (by omega))
      simpa [Addr.add] using this
    refine .sl none 1 _ a' len cap (fun i _ => .int .i64 (zs.getD i 0)) (by simp) (fun hne => ?_) hlen.symm hl (fun hne => ?_) (fun i x hx => ?_) (fun i x j c hx hcj => ?_) (fun i x j c hx hcj => ?_)
    · have : 0 < len := by rw [← hlen]; exact List.length_pos_iff.2 hne
      exact hsp 0 this
    · have : 0 < len := by rw [← hlen]; exact List.length_pos_iff.2 hne
      exact G0_of (by have := cell_block (hc 0 (by omega)); simpa [Addr.add] using this)
    · obtain ⟨_, rfl⟩ := key i x hx
      exact fits_of rfl
    · obtain ⟨hi, rfl⟩ := key i x hx
      have hj : j = 0 := by
        cases j with
        | zero => rfl
        | succ j => simp [PV.cells] at hcj
      subst hj
      rw [← hc i (by omega), addr_add _ _ (hsp i hi)]
      congr 2
      omega
    · obtain ⟨hi, rfl⟩ := key i x hx
      have : c = intP (zs.getD i 0) := by
        cases j with
        | zero => simpa [PV.cells] using hcj.symm
        | succ j => simp [PV.cells] at hcj
      subst this
      exact .int _ _

/-- A list of lists of numbers. -/
theorem intss_rp {w : World} {a : Addr} {len cap : Nat} (A : Nat → Option Addr) (L C : Nat → Nat) (Z : Nat → List Int) (hl : len ≤ cap)
    (h : ∀ r, r < cap → w.cell? (a.add r) = some (.slice (A r) (L r) (C r)) ∧ RP w (G0 w false) (.sl none 1 (((Z r).take (L r)).map intP)) (.slice (A r) (L r) (C r))) :
    RP w (G0 w false) (.sl none 1 (((List.range len).map fun r => (Z r).take (L r)).map ints)) (.slice (some a) len cap) := by
  have hlen : (((List.range len).map fun r => (Z r).take (L r)).map ints).length = len := by simp
  have key : ∀ i (x : PV), (((List.range len).map fun r => (Z r).take (L r)).map ints)[i]? = some x → i < len ∧ x = ints ((Z i).take (L i)) := by
    intro i x hx
    have hi : i < len := by rw [← hlen]; exact (List.getElem?_eq_some_iff.1 hx).1
    refine ⟨hi, ?_⟩
    simp [hi] at hx
    exact hx.symm
  have hsp : ∀ i, i < len → a.spot = none := by
    intro i hi
    have := World.cell?_spot (h 0 (by omega)).1
    simpa [Addr.add] using this
  refine .sl none 1 _ a len cap (fun i _ => .slice (A i) (L i) (C i)) (by simp) (fun hne => ?_) hlen.symm hl (fun hne => ?_) (fun i x hx => ?_) (fun i x j c hx hcj => ?_) (fun i x j c hx hcj => ?_)
  · have : 0 < len := by rw [← hlen]; exact List.length_pos_iff.2 hne
    exact hsp 0 this
  · have : 0 < len := by rw [← hlen]; exact List.length_pos_iff.2 hne
    exact G0_of (by have := cell_block (h 0 (by omega)).1; simpa [Addr.add] using this)
  · obtain ⟨_, rfl⟩ := key i x hx
    exact fits_of rfl
  · obtain ⟨hi, rfl⟩ := key i x hx
    have hj : j = 0 := by
      cases j with
      | zero => rfl
      | succ j => simp [PV.cells] at hcj
    subst hj
    rw [← (h i (by omega)).1, addr_add _ _ (hsp i hi)]
    congr 2
    omega
  · obtain ⟨hi, rfl⟩ := key i x hx
    have : c = ints ((Z i).take (L i)) := by
      cases j with
      | zero => simpa [PV.cells] using hcj.symm
      | succ j => simp [PV.cells] at hcj
    subst this
    exact (h i (by omega)).2

section
variable {H : Type} {enc : TypeId × Value → H} {P : Program} {w : World} {base : Nat} {held : Bool}
/-- An argument '[][]int'. -/
theorem intss_open {t e q : TypeId} {a0 : Option Addr} {len cap fuel : Nat} {x : DataW H × List MemPlace} (ht : P.underlying t = some (.slice e)) (he : P.underlying e = some (.slice q)) (hq : P.underlying q = some (.int .i64))
    (ce : P.cellsOf e = 1) (cq : P.cellsOf q = 1) (h : DataW.trod enc P w base (fun _ => true) held fuel t [.slice a0 len cap] = some x) :
    ∃ l : List (List Int), l.length ≤ 9223372036854775807 ∧ (∀ y ∈ l, y.length ≤ 9223372036854775807) ∧ RP w (G0 w false) (.sl none 1 (l.map ints)) (.slice a0 len cap) := by
  rcases Go.Deep.open_int_rows ht he hq ce cq h with ⟨hcs, _⟩ | ⟨a, l, c, A, L, C, Z, hcs, _, hl, hm, _, hr⟩
  · simp at hcs
    obtain ⟨rfl, rfl, rfl⟩ := hcs
    exact ⟨[], by simp, by simp, .nilsl _ _ (by simp)⟩
  · simp at hcs
    obtain ⟨rfl, rfl, rfl⟩ := hcs
    refine ⟨(List.range len).map fun r => (Z r).take (L r), ?_, ?_, intss_rp A L C Z hl fun r hr' => ?_⟩
    · simp only [maxLen] at hm; simp; omega
    · intro y hy
      obtain ⟨r, hr', rfl⟩ := List.mem_map.1 hy
      obtain ⟨_, h1, h2, _⟩ := hr r (by have := List.mem_range.1 hr'; omega)
      simp only [maxLen] at h2
      simp; omega
    · obtain ⟨h1, h2, h3, h4, _, h6, h7⟩ := hr r hr'
      exact ⟨h1, ints_rp (Z r) h2 h4 h6 fun a' ha c hc => (h7 a' ha).2 c hc⟩

end
end Go.Vl


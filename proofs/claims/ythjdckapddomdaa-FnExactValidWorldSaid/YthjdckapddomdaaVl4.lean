/- Part 4 of the texts that the proof of FnExactValidWorld is built on. -/
import Derived.Test.YthjdckapddomdaaVl3
namespace Go.Vl
set_option linter.unusedVariables false
set_option linter.unusedSimpArgs false
open Go.Proofs
def anms (l : List AttrM) : List Int := l.map AttrM.name
theorem getD_anms (l : List AttrM) (k : Nat) : (anms l).getD k 0 = (l.getD k ⟨0, 0, 0⟩).name := getD_map0 AttrM.name l k ⟨0, 0, 0⟩ 0 rfl
@[simp] theorem anms_len (l : List AttrM) : (anms l).length = l.length := by simp [anms]
theorem take_anms (l : List AttrM) (k : Nat) : (anms l).take k = anms (l.take k) := by simp [anms]
theorem findM_anms (n : Int) (l : List AttrM) (k : Nat) (h : k < l.length) : findM n ((anms l).drop k) k = if (l.getD k ⟨0, 0, 0⟩).name = n then (k : Int) else findM n ((anms l).drop (k+1)) (k+1) := by
  rw [findM_drop _ _ _ (by rw [anms_len]; exact h), getD_anms]
theorem nodup_anms_succ {l : List AttrM} {k : Nat} (h : k < l.length) : (anms (l.take (k+1))).Nodup ↔ (anms (l.take k)).Nodup ∧ (l.getD k ⟨0, 0, 0⟩).name ∉ anms (l.take k) := by
  rw [← take_anms, ← take_anms, nodup_take_succ (by rw [anms_len]; exact h) 0, getD_anms]
theorem nodup_anms_take {l : List AttrM} (k : Nat) (h : (anms l).Nodup) : (anms (l.take k)).Nodup := by
  rw [← take_anms]; exact nodup_take k h
theorem app_anm1 (l : List AttrM) (k : Nat) (h : k < l.length) : anms (l.take k) ++ [(l.getD k ⟨0, 0, 0⟩).name] = anms (l.take (k+1)) := by
  have : l.take (k+1) = l.take k ++ [l.getD k ⟨0, 0, 0⟩] := by rw [List.take_add_one, List.getD, List.getElem?_eq_getElem h]; rfl
  rw [this]; simp [anms]

def okAttr (a : AttrM) : Prop := (0 ≤ a.name ∧ a.name ≤ 9) ∧ (0 ≤ a.kind ∧ a.kind ≤ 5) ∧ (0 ≤ a.value ∧ a.value ≤ 99)
instance (a : AttrM) : Decidable (okAttr a) := by unfold okAttr; exact inferInstance
def AAttrs (l : List AttrM) : Prop := l.length ≤ 8 ∧ (anms l).Nodup ∧ ∀ a ∈ l, okAttr a
instance (l : List AttrM) : Decidable (AAttrs l) := by unfold AAttrs; exact inferInstance
def okObj (n : Nat) (o : ObjM) : Prop := (0 ≤ o.cls ∧ o.cls ≤ (n : Int) - 1) ∧ o.pairs.length ≤ 8 ∧ AOwn o.pairs
instance (n : Nat) (o : ObjM) : Decidable (okObj n o) := by unfold okObj; exact inferInstance
def VWorld (w : WorldM) : Prop := allOK w.bases ∧ w.attrs.length = w.bases.length ∧ w.objs.length ≤ 6 ∧ (∀ l ∈ w.attrs, AAttrs l) ∧ ∀ o ∈ w.objs, okObj w.bases.length o
instance (w : WorldM) : Decidable (VWorld w) := by unfold VWorld; exact inferInstance

theorem szAttrS_sat {nl0 : Option Bool} {a : List AttrM} {left : Int}  (ha : a.length ≤ 9223372036854775807) (hl : 0 ≤ left ∧ left ≤ 2000000) : SatAt Try.prog 38 [.pv false (.sl nl0 3 (a.map attrP)), i64 left] [] (fun res rows => res = [i64 (if left - (a.length : Int) < 0 then -1 else left - (a.length : Int))] ∧ rows = []) := by
  refine sat_entry_G (rs := [(4, none)]) Try.func38 rfl rfl (Nat.le_of_ble_eq_true rfl) (Nat.le_of_ble_eq_true rfl) (resTs1 trivial) fun C hC => ?_
  rw [Try.ntmps38]
  replace hC : C.nb = 0 := hC
  refine vc_seq fun K1 hK1 => ?_
  refine vc_region ?_
  refine vo_assign_pv rfl rfl ?_
  refine vo_nil ?_
  refine hK1 _ ?_
  refine vc_seq fun K2 hK2 => ?_
  refine vc_region ?_
  refine vo_move_pv rfl rfl ?_
  refine vo_move_pv rfl rfl ?_
  refine vo_len_pv rfl rfl Try.underlying72 ?_
  refine vo_binI rfl rfl rfl rfl sd ?_
  refine vo_assign_pv rfl rfl ?_
  refine vo_nil ?_
  refine hK2 _ ?_
  refine vc_seq fun K3 hK3 => ?_
  refine vc_seq fun K4 hK4 => ?_
  refine vc_region ?_
  refine vo_move_pv rfl rfl ?_
  refine vo_binI rfl rfl rfl rfl trivial ?_
  refine vo_nil ?_
  refine hK4 _ ?_
  refine vc_cond rfl (fun hc1 => ?_) (fun hc1 => ?_)
  · try simp only [decide_eq_true_eq, decide_eq_false_iff_not, beq_iff_eq, bne_iff_ne, beq_eq_false_iff_ne, bne_eq_false_iff_eq, Bool.not_eq_true, Bool.not_eq_false, Bool.not_eq_eq_eq_not, Bool.not_true, Bool.not_false, List.length_map, Int.not_lt, Int.not_le, ne_eq, Decidable.not_not] at hc1
    refine vc_seq fun K5 hK5 => ?_
    refine vc_region ?_
    refine vo_assign_pv rfl rfl ?_
    refine vo_nil ?_
    refine hK5 _ ?_
    refine vc_ret ?_
    change retQ _ _ _ _ _
    refine retQ_sel [] (srows := []) (.inr rfl) hC rfl rfl rfl rfl rfl rfl rfl ?_
    refine ⟨?_, rfl⟩
    refine (congrArg (fun b => [i64 b]) (?_ : _ = _) : [i64 _] = [i64 _])
    rw [if_pos (by omega)]
  · try simp only [decide_eq_true_eq, decide_eq_false_iff_not, beq_iff_eq, bne_iff_ne, beq_eq_false_iff_ne, bne_eq_false_iff_eq, Bool.not_eq_true, Bool.not_eq_false, Bool.not_eq_eq_eq_not, Bool.not_true, Bool.not_false, List.length_map, Int.not_lt, Int.not_le, ne_eq, Decidable.not_not] at hc1
    refine vc_skip ?_
    refine hK3 _ ?_
    refine vc_seq fun K6 hK6 => ?_
    refine vc_region ?_
    refine vo_move_pv rfl rfl ?_
    refine vo_assign_pv rfl rfl ?_
    refine vo_nil ?_
    refine hK6 _ ?_
    refine vc_ret ?_
    change retQ _ _ _ _ _
    refine retQ_sel [] (srows := []) (.inr rfl) hC rfl rfl rfl rfl rfl rfl rfl ?_
    refine ⟨?_, rfl⟩
    refine (congrArg (fun b => [i64 b]) (?_ : _ = _) : [i64 _] = [i64 _])
    simp only [List.length_map]; rw [if_neg (by omega)]


theorem szAttrSS_sat {nl0 : Option Bool} {a : List (List AttrM)} {left : Int}  (ha : a.length ≤ 9223372036854775807) (hg : ∀ x ∈ a, x.length ≤ 9223372036854775807) (h0 : 0 ≤ left) (h1 : left ≤ 1048576) : SatAt Try.prog 17 [.pv false (.sl nl0 1 (a.map attrsP)), i64 left] [] (fun res rows => ∃ v : Int, (v < 0 ∨ (0 ≤ v ∧ v ≤ left ∧ a.length ≤ 2000000 ∧ ∀ x ∈ a, x.length ≤ 2000000)) ∧ res = [i64 v] ∧ rows = []) := by
  refine sat_entry_G (rs := [(4, none)]) Try.func17 rfl rfl (Nat.le_of_ble_eq_true rfl) (Nat.le_of_ble_eq_true rfl) (resTs1 trivial) fun C hC => ?_
  rw [Try.ntmps17]
  replace hC : C.nb = 0 := hC
  refine vc_seq fun K1 hK1 => ?_
  refine vc_region ?_
  refine vo_assign_pv rfl rfl ?_
  refine vo_nil ?_
  refine hK1 _ ?_
  refine vc_seq fun K2 hK2 => ?_
  refine vc_region ?_
  refine vo_move_pv rfl rfl ?_
  refine vo_move_pv rfl rfl ?_
  refine vo_len_pv rfl rfl Try.underlying23 ?_
  refine vo_binI rfl rfl rfl rfl sd ?_
  refine vo_assign_pv rfl rfl ?_
  refine vo_nil ?_
  refine hK2 _ ?_
  refine vc_seq fun K3 hK3 => ?_
  refine vc_seq fun K4 hK4 => ?_
  refine vc_region ?_
  refine vo_move_pv rfl rfl ?_
  refine vo_binI rfl rfl rfl rfl trivial ?_
  refine vo_nil ?_
  refine hK4 _ ?_
  refine vc_cond rfl (fun hc1 => ?_) (fun hc1 => ?_)
  · try simp only [decide_eq_true_eq, decide_eq_false_iff_not, beq_iff_eq, bne_iff_ne, beq_eq_false_iff_ne, bne_eq_false_iff_eq, Bool.not_eq_true, Bool.not_eq_false, Bool.not_eq_eq_eq_not, Bool.not_true, Bool.not_false, List.length_map, Int.not_lt, Int.not_le, ne_eq, Decidable.not_not] at hc1
    refine vc_seq fun K5 hK5 => ?_
    refine vc_region ?_
    refine vo_assign_pv rfl rfl ?_
    refine vo_nil ?_
    refine hK5 _ ?_
    refine vc_ret ?_
    change retQ _ _ _ _ _
    refine retQ_sel [] (srows := []) (.inr rfl) hC rfl rfl rfl rfl rfl rfl rfl ?_
    exact ⟨_, .inl (by omega), rfl, rfl⟩
  · try simp only [decide_eq_true_eq, decide_eq_false_iff_not, beq_iff_eq, bne_iff_ne, beq_eq_false_iff_ne, bne_eq_false_iff_eq, Bool.not_eq_true, Bool.not_eq_false, Bool.not_eq_eq_eq_not, Bool.not_true, Bool.not_false, List.length_map, Int.not_lt, Int.not_le, ne_eq, Decidable.not_not] at hc1
    refine vc_skip ?_
    refine hK3 _ ?_
    refine vc_seq fun K6 hK6 => ?_
    refine vc_seq fun K7 hK7 => ?_
    refine vc_region ?_
    refine vo_assign_pv rfl rfl ?_
    refine vo_nil ?_
    refine hK7 _ ?_
    refine vc_block ?_
    refine vc_stM ?_
    refine vc_loopE [0] [1, 5] [] _ _ (fun mz vs rs => ∃ (k : Nat) (y : Int), mz = a.length - k ∧ (k ≤ a.length) ∧ ((0 ≤ y ∧ y ≤ left)) ∧ ((∀ x ∈ a.take k, x.length ≤ 2000000)) ∧ vs = [i64 y, i64 k] ∧ rs = []) (a.length) rfl rfl (le_len hC rfl) ⟨rfl, rfl, rfl⟩ rfl ⟨0, _, rfl, Nat.zero_le _, (by simp at *; omega), (by simp), rfl, rfl⟩ ?_
    rintro mz vs rs - - ⟨k, y, rfl, hk, hy, hf, rfl, rfl⟩
    refine vc_stM ?_
    refine vc_seq fun K8 hK8 => ?_
    refine vc_seq fun K9 hK9 => ?_
    refine vc_region ?_
    refine vo_move_pv rfl rfl ?_
    refine vo_move_pv rfl rfl ?_
    refine vo_len_pv rfl rfl Try.underlying23 ?_
    refine vo_binI rfl rfl rfl rfl trivial ?_
    refine vo_nil ?_
    refine hK9 _ ?_
    refine vc_cond rfl (fun hc2 => ?_) (fun hc2 => ?_)
    · try simp only [decide_eq_true_eq, decide_eq_false_iff_not, beq_iff_eq, bne_iff_ne, beq_eq_false_iff_ne, bne_eq_false_iff_eq, Bool.not_eq_true, Bool.not_eq_false, Bool.not_eq_eq_eq_not, Bool.not_true, Bool.not_false, List.length_map, Int.not_lt, Int.not_le, ne_eq, Decidable.not_not] at hc2
      refine vc_skip ?_
      refine hK8 _ ?_
      refine vc_seq fun K10 hK10 => ?_
      refine vc_block ?_
      refine vc_seq fun K11 hK11 => ?_
      refine vc_region ?_
      refine vo_move_pv rfl rfl ?_
      refine vo_move_pv rfl rfl ?_
      refine vo_index_pv (.sl none 3 []) rfl rfl rfl E23.und inf72 sz72 sd sd ?_
      simp only [Int.toNat_natCast, Int.toNat_zero, getD_ints, getD_intss, getD_bools, getD_bytes, PV.cells, getD_ops, getD_pairs, getD_insts, getD_attrs, getD_attrss, getD_objs]
      refine vo_load_adr rfl rfl Try.underlying72 rfl ?_
      refine vo_move_pv rfl rfl ?_
      refine vo_call0 Try.func38 rfl rfl rfl rfl (szAttrS_sat (getD_all (p := fun l : List AttrM => l.length ≤ 9223372036854775807) hg [] (by simp) _) (by omega)) ?_
      rintro _ _ ⟨rfl, rfl⟩
      refine ⟨rfl, rfl, .inl rfl, ?_⟩
      refine vo_stM ?_
      refine vo_assign_pv rfl rfl ?_
      refine vo_nil ?_
      refine hK11 _ ?_
      refine vc_seq fun K12 hK12 => ?_
      refine vc_region ?_
      refine vo_move_pv rfl rfl ?_
      refine vo_binI rfl rfl rfl rfl trivial ?_
      refine vo_nil ?_
      refine hK12 _ ?_
      refine vc_cond rfl (fun hc3 => ?_) (fun hc3 => ?_)
      · try simp only [decide_eq_true_eq, decide_eq_false_iff_not, beq_iff_eq, bne_iff_ne, beq_eq_false_iff_ne, bne_eq_false_iff_eq, Bool.not_eq_true, Bool.not_eq_false, Bool.not_eq_eq_eq_not, Bool.not_true, Bool.not_false, List.length_map, Int.not_lt, Int.not_le, ne_eq, Decidable.not_not] at hc3
        refine vc_seq fun K13 hK13 => ?_
        refine vc_region ?_
        refine vo_assign_pv rfl rfl ?_
        refine vo_nil ?_
        refine hK13 _ ?_
        refine vc_ret ?_
        change retQ _ _ _ _ _
        refine retQ_sel [] (srows := []) (.inr rfl) hC rfl rfl rfl rfl rfl rfl rfl ?_
        exact ⟨_, .inl (by omega), rfl, rfl⟩
      · try simp only [decide_eq_true_eq, decide_eq_false_iff_not, beq_iff_eq, bne_iff_ne, beq_eq_false_iff_ne, bne_eq_false_iff_eq, Bool.not_eq_true, Bool.not_eq_false, Bool.not_eq_eq_eq_not, Bool.not_true, Bool.not_false, List.length_map, Int.not_lt, Int.not_le, ne_eq, Decidable.not_not] at hc3
        refine vc_skip ?_
        refine hK10 _ ?_
        refine vc_region ?_
        refine vo_move_pv rfl rfl ?_
        refine vo_binI rfl rfl rfl rfl sd ?_
        refine vo_assign_pv rfl rfl ?_
        refine vo_nil ?_
        change againE _ _ _ _ _ _ _ _ _ _
        refine againE_mk rfl rfl rfl rfl rfl rfl ⟨_, ?_, k + 1, _, rfl, ?_, ?_, ?_, rfl, rfl⟩
        · omega
        · omega
        · split at hc3 <;> (try split) <;> omega
        · refine (all_take_succ (by omega) []).2 ⟨hf, ?_⟩; split at hc3 <;> omega
    · try simp only [decide_eq_true_eq, decide_eq_false_iff_not, beq_iff_eq, bne_iff_ne, beq_eq_false_iff_ne, bne_eq_false_iff_eq, Bool.not_eq_true, Bool.not_eq_false, Bool.not_eq_eq_eq_not, Bool.not_true, Bool.not_false, List.length_map, Int.not_lt, Int.not_le, ne_eq, Decidable.not_not] at hc2
      refine vc_exit ?_
      refine hK6 _ ?_
      refine vc_seq fun K14 hK14 => ?_
      refine vc_region ?_
      refine vo_move_pv rfl rfl ?_
      refine vo_assign_pv rfl rfl ?_
      refine vo_nil ?_
      refine hK14 _ ?_
      refine vc_ret ?_
      change retQ _ _ _ _ _
      refine retQ_sel [] (srows := []) (.inr rfl) hC rfl rfl rfl rfl rfl rfl rfl ?_
      refine ⟨_, .inr ⟨by omega, by omega, by omega, ?_⟩, rfl, rfl⟩
      rwa [take_all (by omega)] at hf


theorem szObject_sat {a : ObjM} {left : Int}  (ha : GO63 a) (h0 : 0 ≤ left) (h1 : left ≤ 1048576) : SatAt Try.prog 39 [.pv false (objP a), i64 left] [] (fun res rows => ∃ v : Int, (v < 0 ∨ (0 ≤ v ∧ v ≤ left ∧ SO a)) ∧ res = [i64 v] ∧ rows = []) := by
  unfold GO63 at ha
  refine sat_entry_G (rs := [(4, none)]) Try.func39 rfl rfl (Nat.le_of_ble_eq_true rfl) (Nat.le_of_ble_eq_true rfl) (resTs1 trivial) fun C hC => ?_
  rw [Try.ntmps39]
  replace hC : C.nb = 0 := hC
  refine vc_seq fun K1 hK1 => ?_
  refine vc_region ?_
  refine vo_box rfl rfl ?_
  refine vo_stM ?_
  refine vo_assign_pv rfl rfl ?_
  refine vo_nil ?_
  refine hK1 _ ?_
  refine vc_seq fun K2 hK2 => ?_
  refine vc_region ?_
  refine vo_fieldAddr_ptr rfl rfl Try.underlying76 rfl inf74 (by rw [sz74]; decide) ?_
  try simp only [Nat.zero_add]
  refine vo_load_var rfl rfl rfl Try.underlying74 rfl rfl ?_
  refine vo_move_pv rfl rfl ?_
  refine vo_call0 Try.func63 rfl rfl rfl rfl (szPairS_sat (by omega) (by omega)) ?_
  rintro _ _ ⟨rfl, rfl⟩
  refine ⟨rfl, rfl, .inl rfl, ?_⟩
  refine vo_stM ?_
  refine vo_assign_pv rfl rfl ?_
  refine vo_nil ?_
  refine hK2 _ ?_
  refine vc_seq fun K3 hK3 => ?_
  refine vc_seq fun K4 hK4 => ?_
  refine vc_region ?_
  refine vo_move_pv rfl rfl ?_
  refine vo_binI rfl rfl rfl rfl trivial ?_
  refine vo_nil ?_
  refine hK4 _ ?_
  refine vc_cond rfl (fun hc1 => ?_) (fun hc1 => ?_)
  · try simp only [decide_eq_true_eq, decide_eq_false_iff_not, beq_iff_eq, bne_iff_ne, beq_eq_false_iff_ne, bne_eq_false_iff_eq, Bool.not_eq_true, Bool.not_eq_false, Bool.not_eq_eq_eq_not, Bool.not_true, Bool.not_false, List.length_map, Int.not_lt, Int.not_le, ne_eq, Decidable.not_not] at hc1
    refine vc_seq fun K5 hK5 => ?_
    refine vc_region ?_
    refine vo_assign_pv rfl rfl ?_
    refine vo_nil ?_
    refine hK5 _ ?_
    refine vc_ret ?_
    change retQ _ _ _ _ _
    refine retQ_sel [] (srows := []) (.inr rfl) hC rfl rfl rfl rfl rfl rfl rfl ?_
    exact ⟨_, .inl (by omega), rfl, rfl⟩
  · try simp only [decide_eq_true_eq, decide_eq_false_iff_not, beq_iff_eq, bne_iff_ne, beq_eq_false_iff_ne, bne_eq_false_iff_eq, Bool.not_eq_true, Bool.not_eq_false, Bool.not_eq_eq_eq_not, Bool.not_true, Bool.not_false, List.length_map, Int.not_lt, Int.not_le, ne_eq, Decidable.not_not] at hc1
    refine vc_skip ?_
    refine hK3 _ ?_
    refine vc_seq fun K6 hK6 => ?_
    refine vc_region ?_
    refine vo_move_pv rfl rfl ?_
    refine vo_assign_pv rfl rfl ?_
    refine vo_nil ?_
    refine hK6 _ ?_
    refine vc_ret ?_
    change retQ _ _ _ _ _
    refine retQ_sel [] (srows := []) (.inr rfl) hC rfl rfl rfl rfl rfl rfl rfl ?_
    refine ⟨_, .inr ?_, rfl, rfl⟩
    unfold SO
    repeat (first | omega | split at *)


theorem szObjectS_sat {nl0 : Option Bool} {a : List ObjM} {left : Int}  (ha : a.length ≤ 9223372036854775807) (hg : ∀ x ∈ a, GO63 x) (h0 : 0 ≤ left) (h1 : left ≤ 1048576) : SatAt Try.prog 18 [.pv false (.sl nl0 2 (a.map objP)), i64 left] [] (fun res rows => ∃ v : Int, (v < 0 ∨ (0 ≤ v ∧ v ≤ left ∧ a.length ≤ 2000000 ∧ ∀ x ∈ a, SO x)) ∧ res = [i64 v] ∧ rows = []) := by
  refine sat_entry_G (rs := [(4, none)]) Try.func18 rfl rfl (Nat.le_of_ble_eq_true rfl) (Nat.le_of_ble_eq_true rfl) (resTs1 trivial) fun C hC => ?_
  rw [Try.ntmps18]
  replace hC : C.nb = 0 := hC
  refine vc_seq fun K1 hK1 => ?_
  refine vc_region ?_
  refine vo_assign_pv rfl rfl ?_
  refine vo_nil ?_
  refine hK1 _ ?_
  refine vc_seq fun K2 hK2 => ?_
  refine vc_region ?_
  refine vo_move_pv rfl rfl ?_
  refine vo_move_pv rfl rfl ?_
  refine vo_len_pv rfl rfl Try.underlying24 ?_
  refine vo_binI rfl rfl rfl rfl sd ?_
  refine vo_assign_pv rfl rfl ?_
  refine vo_nil ?_
  refine hK2 _ ?_
  refine vc_seq fun K3 hK3 => ?_
  refine vc_seq fun K4 hK4 => ?_
  refine vc_region ?_
  refine vo_move_pv rfl rfl ?_
  refine vo_binI rfl rfl rfl rfl trivial ?_
  refine vo_nil ?_
  refine hK4 _ ?_
  refine vc_cond rfl (fun hc1 => ?_) (fun hc1 => ?_)
  · try simp only [decide_eq_true_eq, decide_eq_false_iff_not, beq_iff_eq, bne_iff_ne, beq_eq_false_iff_ne, bne_eq_false_iff_eq, Bool.not_eq_true, Bool.not_eq_false, Bool.not_eq_eq_eq_not, Bool.not_true, Bool.not_false, List.length_map, Int.not_lt, Int.not_le, ne_eq, Decidable.not_not] at hc1
    refine vc_seq fun K5 hK5 => ?_
    refine vc_region ?_
    refine vo_assign_pv rfl rfl ?_
    refine vo_nil ?_
    refine hK5 _ ?_
    refine vc_ret ?_
    change retQ _ _ _ _ _
    refine retQ_sel [] (srows := []) (.inr rfl) hC rfl rfl rfl rfl rfl rfl rfl ?_
    exact ⟨_, .inl (by omega), rfl, rfl⟩
  · try simp only [decide_eq_true_eq, decide_eq_false_iff_not, beq_iff_eq, bne_iff_ne, beq_eq_false_iff_ne, bne_eq_false_iff_eq, Bool.not_eq_true, Bool.not_eq_false, Bool.not_eq_eq_eq_not, Bool.not_true, Bool.not_false, List.length_map, Int.not_lt, Int.not_le, ne_eq, Decidable.not_not] at hc1
    refine vc_skip ?_
    refine hK3 _ ?_
    refine vc_seq fun K6 hK6 => ?_
    refine vc_seq fun K7 hK7 => ?_
    refine vc_region ?_
    refine vo_assign_pv rfl rfl ?_
    refine vo_nil ?_
    refine hK7 _ ?_
    refine vc_block ?_
    refine vc_stM ?_
    refine vc_loopE [0] [1, 5] [] _ _ (fun mz vs rs => ∃ (k : Nat) (y : Int), mz = a.length - k ∧ (k ≤ a.length) ∧ ((0 ≤ y ∧ y ≤ left)) ∧ ((∀ x ∈ a.take k, SO x)) ∧ vs = [i64 y, i64 k] ∧ rs = []) (a.length) rfl rfl (le_len hC rfl) ⟨rfl, rfl, rfl⟩ rfl ⟨0, _, rfl, Nat.zero_le _, (by simp at *; omega), (by simp), rfl, rfl⟩ ?_
    rintro mz vs rs - - ⟨k, y, rfl, hk, hy, hf, rfl, rfl⟩
    refine vc_stM ?_
    refine vc_seq fun K8 hK8 => ?_
    refine vc_seq fun K9 hK9 => ?_
    refine vc_region ?_
    refine vo_move_pv rfl rfl ?_
    refine vo_move_pv rfl rfl ?_
    refine vo_len_pv rfl rfl Try.underlying24 ?_
    refine vo_binI rfl rfl rfl rfl trivial ?_
    refine vo_nil ?_
    refine hK9 _ ?_
    refine vc_cond rfl (fun hc2 => ?_) (fun hc2 => ?_)
    · try simp only [decide_eq_true_eq, decide_eq_false_iff_not, beq_iff_eq, bne_iff_ne, beq_eq_false_iff_ne, bne_eq_false_iff_eq, Bool.not_eq_true, Bool.not_eq_false, Bool.not_eq_eq_eq_not, Bool.not_true, Bool.not_false, List.length_map, Int.not_lt, Int.not_le, ne_eq, Decidable.not_not] at hc2
      refine vc_skip ?_
      refine hK8 _ ?_
      refine vc_seq fun K10 hK10 => ?_
      refine vc_block ?_
      refine vc_seq fun K11 hK11 => ?_
      refine vc_region ?_
      refine vo_move_pv rfl rfl ?_
      refine vo_move_pv rfl rfl ?_
      refine vo_index_pv (.agg [(.int .i64 0), (.sl none 2 [])]) rfl rfl rfl E24.und inf76 sz76 sd sd ?_
      simp only [Int.toNat_natCast, Int.toNat_zero, getD_ints, getD_intss, getD_bools, getD_bytes, PV.cells, getD_ops, getD_pairs, getD_insts, getD_attrs, getD_attrss, getD_objs]
      refine vo_load_adrS rfl rfl Try.underlying76 rfl inf76 sz76 rfl ?_
      refine vo_st (by (try simp only [St.put, PV.cells, PV.scal, List.drop_succ_cons, List.drop_zero, List.take_succ_cons, List.take_zero, List.map_cons, List.map_nil, Bool.or_true, Bool.or_false, Bool.false_or, Bool.true_or, opP, pairP, instP, heapP]); exact eq_refl _) ?_
      refine vo_move_pv rfl rfl ?_
      refine vo_call0 Try.func39 rfl rfl rfl rfl (szObject_sat (getD_all hg _ (by simp [GO63]) _) hy.1 (by omega)) ?_
      rintro _ _ ⟨v, hv, rfl, rfl⟩
      refine ⟨rfl, rfl, .inl rfl, ?_⟩
      refine vo_stM ?_
      refine vo_assign_pv rfl rfl ?_
      refine vo_nil ?_
      refine hK11 _ ?_
      refine vc_seq fun K12 hK12 => ?_
      refine vc_region ?_
      refine vo_move_pv rfl rfl ?_
      refine vo_binI rfl rfl rfl rfl trivial ?_
      refine vo_nil ?_
      refine hK12 _ ?_
      refine vc_cond rfl (fun hc3 => ?_) (fun hc3 => ?_)
      · try simp only [decide_eq_true_eq, decide_eq_false_iff_not, beq_iff_eq, bne_iff_ne, beq_eq_false_iff_ne, bne_eq_false_iff_eq, Bool.not_eq_true, Bool.not_eq_false, Bool.not_eq_eq_eq_not, Bool.not_true, Bool.not_false, List.length_map, Int.not_lt, Int.not_le, ne_eq, Decidable.not_not] at hc3
        refine vc_seq fun K13 hK13 => ?_
        refine vc_region ?_
        refine vo_assign_pv rfl rfl ?_
        refine vo_nil ?_
        refine hK13 _ ?_
        refine vc_ret ?_
        change retQ _ _ _ _ _
        refine retQ_sel [] (srows := []) (.inr rfl) hC rfl rfl rfl rfl rfl rfl rfl ?_
        exact ⟨_, .inl (by omega), rfl, rfl⟩
      · try simp only [decide_eq_true_eq, decide_eq_false_iff_not, beq_iff_eq, bne_iff_ne, beq_eq_false_iff_ne, bne_eq_false_iff_eq, Bool.not_eq_true, Bool.not_eq_false, Bool.not_eq_eq_eq_not, Bool.not_true, Bool.not_false, List.length_map, Int.not_lt, Int.not_le, ne_eq, Decidable.not_not] at hc3
        refine vc_skip ?_
        refine hK10 _ ?_
        refine vc_region ?_
        refine vo_move_pv rfl rfl ?_
        refine vo_binI rfl rfl rfl rfl sd ?_
        refine vo_assign_pv rfl rfl ?_
        refine vo_nil ?_
        change againE _ _ _ _ _ _ _ _ _ _
        refine againE_mk rfl rfl rfl rfl rfl rfl ⟨_, ?_, k + 1, _, rfl, ?_, ?_, ?_, rfl, rfl⟩
        · omega
        · omega
        · omega
        · refine (all_take_succ (by omega) ⟨0, []⟩).2 ⟨hf, ?_⟩; rcases hv with hv | hv; omega; exact hv.2.2
    · try simp only [decide_eq_true_eq, decide_eq_false_iff_not, beq_iff_eq, bne_iff_ne, beq_eq_false_iff_ne, bne_eq_false_iff_eq, Bool.not_eq_true, Bool.not_eq_false, Bool.not_eq_eq_eq_not, Bool.not_true, Bool.not_false, List.length_map, Int.not_lt, Int.not_le, ne_eq, Decidable.not_not] at hc2
      refine vc_exit ?_
      refine hK6 _ ?_
      refine vc_seq fun K14 hK14 => ?_
      refine vc_region ?_
      refine vo_move_pv rfl rfl ?_
      refine vo_assign_pv rfl rfl ?_
      refine vo_nil ?_
      refine hK14 _ ?_
      refine vc_ret ?_
      change retQ _ _ _ _ _
      refine retQ_sel [] (srows := []) (.inr rfl) hC rfl rfl rfl rfl rfl rfl rfl ?_
      refine ⟨_, .inr ⟨by omega, by omega, by omega, ?_⟩, rfl, rfl⟩
      rwa [take_all (by omega)] at hf


theorem szWorld_sat {a : WorldM} {left : Int}  (ha : GW63 a) (h0 : 0 ≤ left) (h1 : left ≤ 1048576) : SatAt Try.prog 6 [.pv false (worldP a), i64 left] [] (fun res rows => ∃ v : Int, (v < 0 ∨ (0 ≤ v ∧ v ≤ left ∧ SW a)) ∧ res = [i64 v] ∧ rows = []) := by
  obtain ⟨⟨b1, b2⟩, ⟨a1, a2⟩, o1, o2⟩ := ha
  refine sat_entry_G (rs := [(4, none)]) Try.func6 rfl rfl (Nat.le_of_ble_eq_true rfl) (Nat.le_of_ble_eq_true rfl) (resTs1 trivial) fun C hC => ?_
  rw [Try.ntmps6]
  replace hC : C.nb = 0 := hC
  refine vc_seq fun K1 hK1 => ?_
  refine vc_region ?_
  refine vo_box rfl rfl ?_
  refine vo_stM ?_
  refine vo_assign_pv rfl rfl ?_
  refine vo_nil ?_
  refine hK1 _ ?_
  refine vc_seq fun K2 hK2 => ?_
  refine vc_region ?_
  refine vo_fieldAddr_ptr rfl rfl Try.underlying26 rfl inf22 (by rw [sz22]; decide) ?_
  try simp only [Nat.zero_add]
  refine vo_load_var rfl rfl rfl Try.underlying22 rfl rfl ?_
  refine vo_move_pv rfl rfl ?_
  refine vo_call0 Try.func16 rfl rfl rfl rfl (szIntSS_sat b1 b2 (by omega) (by omega)) ?_
  rintro _ _ ⟨v1, hv1, rfl, rfl⟩
  refine ⟨rfl, rfl, .inl rfl, ?_⟩
  refine vo_stM ?_
  refine vo_assign_pv rfl rfl ?_
  refine vo_nil ?_
  refine hK2 _ ?_
  refine vc_seq fun K3 hK3 => ?_
  refine vc_seq fun K4 hK4 => ?_
  refine vc_region ?_
  refine vo_move_pv rfl rfl ?_
  refine vo_binI rfl rfl rfl rfl trivial ?_
  refine vo_nil ?_
  refine hK4 _ ?_
  refine vc_cond rfl (fun hc1 => ?_) (fun hc1 => ?_)
  · try simp only [decide_eq_true_eq, decide_eq_false_iff_not, beq_iff_eq, bne_iff_ne, beq_eq_false_iff_ne, bne_eq_false_iff_eq, Bool.not_eq_true, Bool.not_eq_false, Bool.not_eq_eq_eq_not, Bool.not_true, Bool.not_false, List.length_map, Int.not_lt, Int.not_le, ne_eq, Decidable.not_not] at hc1
    refine vc_seq fun K5 hK5 => ?_
    refine vc_region ?_
    refine vo_assign_pv rfl rfl ?_
    refine vo_nil ?_
    refine hK5 _ ?_
    refine vc_ret ?_
    change retQ _ _ _ _ _
    refine retQ_sel [] (srows := []) (.inr rfl) hC rfl rfl rfl rfl rfl rfl rfl ?_
    exact ⟨_, .inl (by omega), rfl, rfl⟩
  · try simp only [decide_eq_true_eq, decide_eq_false_iff_not, beq_iff_eq, bne_iff_ne, beq_eq_false_iff_ne, bne_eq_false_iff_eq, Bool.not_eq_true, Bool.not_eq_false, Bool.not_eq_eq_eq_not, Bool.not_true, Bool.not_false, List.length_map, Int.not_lt, Int.not_le, ne_eq, Decidable.not_not] at hc1
    have hb := hv1.resolve_left (by omega)
    refine vc_skip ?_
    refine hK3 _ ?_
    refine vc_seq fun K6 hK6 => ?_
    refine vc_region ?_
    refine vo_fieldAddr_ptr rfl rfl Try.underlying26 rfl inf23 (by rw [sz23]; decide) ?_
    try simp only [Nat.zero_add]
    refine vo_load_var rfl rfl rfl Try.underlying23 rfl rfl ?_
    refine vo_move_pv rfl rfl ?_
    refine vo_call0 Try.func17 rfl rfl rfl rfl (szAttrSS_sat a1 a2 (by omega) (by omega)) ?_
    rintro _ _ ⟨v2, hv2, rfl, rfl⟩
    refine ⟨rfl, rfl, .inl rfl, ?_⟩
    refine vo_stM ?_
    refine vo_assign_pv rfl rfl ?_
    refine vo_nil ?_
    refine hK6 _ ?_
    refine vc_seq fun K7 hK7 => ?_
    refine vc_seq fun K8 hK8 => ?_
    refine vc_region ?_
    refine vo_move_pv rfl rfl ?_
    refine vo_binI rfl rfl rfl rfl trivial ?_
    refine vo_nil ?_
    refine hK8 _ ?_
    refine vc_cond rfl (fun hc2 => ?_) (fun hc2 => ?_)
    · try simp only [decide_eq_true_eq, decide_eq_false_iff_not, beq_iff_eq, bne_iff_ne, beq_eq_false_iff_ne, bne_eq_false_iff_eq, Bool.not_eq_true, Bool.not_eq_false, Bool.not_eq_eq_eq_not, Bool.not_true, Bool.not_false, List.length_map, Int.not_lt, Int.not_le, ne_eq, Decidable.not_not] at hc2
      refine vc_seq fun K9 hK9 => ?_
      refine vc_region ?_
      refine vo_assign_pv rfl rfl ?_
      refine vo_nil ?_
      refine hK9 _ ?_
      refine vc_ret ?_
      change retQ _ _ _ _ _
      refine retQ_sel [] (srows := []) (.inr rfl) hC rfl rfl rfl rfl rfl rfl rfl ?_
      exact ⟨_, .inl (by omega), rfl, rfl⟩
    · try simp only [decide_eq_true_eq, decide_eq_false_iff_not, beq_iff_eq, bne_iff_ne, beq_eq_false_iff_ne, bne_eq_false_iff_eq, Bool.not_eq_true, Bool.not_eq_false, Bool.not_eq_eq_eq_not, Bool.not_true, Bool.not_false, List.length_map, Int.not_lt, Int.not_le, ne_eq, Decidable.not_not] at hc2
      have hb2 := hv2.resolve_left (by omega)
      refine vc_skip ?_
      refine hK7 _ ?_
      refine vc_seq fun K10 hK10 => ?_
      refine vc_region ?_
      refine vo_fieldAddr_ptr rfl rfl Try.underlying26 rfl inf24 (by rw [sz24]; decide) ?_
      try simp only [Nat.zero_add]
      refine vo_load_var rfl rfl rfl Try.underlying24 rfl rfl ?_
      refine vo_move_pv rfl rfl ?_
      refine vo_call0 Try.func18 rfl rfl rfl rfl (szObjectS_sat o1 o2 (by omega) (by omega)) ?_
      rintro _ _ ⟨v3, hv3, rfl, rfl⟩
      refine ⟨rfl, rfl, .inl rfl, ?_⟩
      refine vo_stM ?_
      refine vo_assign_pv rfl rfl ?_
      refine vo_nil ?_
      refine hK10 _ ?_
      refine vc_seq fun K11 hK11 => ?_
      refine vc_seq fun K12 hK12 => ?_
      refine vc_region ?_
      refine vo_move_pv rfl rfl ?_
      refine vo_binI rfl rfl rfl rfl trivial ?_
      refine vo_nil ?_
      refine hK12 _ ?_
      refine vc_cond rfl (fun hc3 => ?_) (fun hc3 => ?_)
      · try simp only [decide_eq_true_eq, decide_eq_false_iff_not, beq_iff_eq, bne_iff_ne, beq_eq_false_iff_ne, bne_eq_false_iff_eq, Bool.not_eq_true, Bool.not_eq_false, Bool.not_eq_eq_eq_not, Bool.not_true, Bool.not_false, List.length_map, Int.not_lt, Int.not_le, ne_eq, Decidable.not_not] at hc3
        refine vc_seq fun K13 hK13 => ?_
        refine vc_region ?_
        refine vo_assign_pv rfl rfl ?_
        refine vo_nil ?_
        refine hK13 _ ?_
        refine vc_ret ?_
        change retQ _ _ _ _ _
        refine retQ_sel [] (srows := []) (.inr rfl) hC rfl rfl rfl rfl rfl rfl rfl ?_
        exact ⟨_, .inl (by omega), rfl, rfl⟩
      · try simp only [decide_eq_true_eq, decide_eq_false_iff_not, beq_iff_eq, bne_iff_ne, beq_eq_false_iff_ne, bne_eq_false_iff_eq, Bool.not_eq_true, Bool.not_eq_false, Bool.not_eq_eq_eq_not, Bool.not_true, Bool.not_false, List.length_map, Int.not_lt, Int.not_le, ne_eq, Decidable.not_not] at hc3
        refine vc_skip ?_
        refine hK11 _ ?_
        refine vc_seq fun K14 hK14 => ?_
        refine vc_region ?_
        refine vo_move_pv rfl rfl ?_
        refine vo_assign_pv rfl rfl ?_
        refine vo_nil ?_
        refine hK14 _ ?_
        refine vc_ret ?_
        change retQ _ _ _ _ _
        refine retQ_sel [] (srows := []) (.inr rfl) hC rfl rfl rfl rfl rfl rfl rfl ?_
        have hb3 := hv3.resolve_left (by omega)
        exact ⟨_, .inr ⟨by omega, by omega, ⟨by omega, fun l hl => by have := hb.2.2 l hl; omega⟩, ⟨by omega, hb2.2.2.2⟩, by omega, hb3.2.2.2⟩, rfl, rfl⟩


theorem toWorld_sat {a : WorldM}  (ha : SW a) : SatAt Try.prog 8 [.pv false (worldP a)] [] (fun res rows => res = [.pv true (worldP a)] ∧ rows = []) := by
  obtain ⟨⟨b1, b2⟩, ⟨a1, a2⟩, o1, o2⟩ := ha
  refine sat_entry_G (rs := [(2, some (32, 3))]) Try.func8 rfl rfl (Nat.le_of_ble_eq_true rfl) (Nat.le_of_ble_eq_true rfl) (resTs1 ⟨_, _, Try.underlying32, rfl, inf32, sz32⟩) fun C hC => ?_
  rw [Try.ntmps8]
  replace hC : C.nb = 0 := hC
  refine vc_seq fun K1 hK1 => ?_
  refine vc_region ?_
  refine vo_box rfl rfl ?_
  refine vo_stM ?_
  refine vo_alloc Z32 rfl ?_
  refine vo_stM ?_
  refine vo_nil ?_
  refine hK1 _ ?_
  refine vc_seq fun K2 hK2 => ?_
  refine vc_region ?_
  refine vo_alloc Z32 rfl ?_
  refine vo_stM ?_
  refine vo_nil ?_
  refine hK2 _ ?_
  refine vc_seq fun K3 hK3 => ?_
  refine vc_region ?_
  refine vo_fieldAddr_ptr rfl rfl Try.underlying26 rfl inf22 (by rw [sz22]; decide) ?_
  try simp only [Nat.zero_add]
  refine vo_load_var rfl rfl rfl Try.underlying22 rfl rfl ?_
  refine vo_call [] Try.func20 rfl rfl rfl rfl rfl rfl rfl (toIntSS_sat (by omega) (fun l hl => by have := b2 l hl; omega)) ?_
  rintro _ _ ⟨rfl, rfl⟩
  refine ⟨Nat.le_of_ble_eq_true rfl, ⟨rfl, rfl, rfl, rfl⟩, .inl rfl, ?_⟩
  refine vo_stM ?_
  refine vo_expose 3 (by omega) rfl ?_
  refine vo_stM ?_
  refine vo_weaken 6 rfl ?_
  refine vo_stM ?_
  refine vo_fieldAddr_ptr rfl rfl Try.underlying32 rfl inf22 (by rw [sz22]; decide) ?_
  try simp only [Nat.zero_add]
  refine vo_store_var rfl rfl rfl rfl inf22 sz22 rfl ?_
  refine vo_stM ?_
  refine vo_nil ?_
  refine hK3 _ ?_
  refine vc_seq fun K4 hK4 => ?_
  refine vc_region ?_
  refine vo_fieldAddr_ptr rfl rfl Try.underlying26 rfl inf23 (by rw [sz23]; decide) ?_
  try simp only [Nat.zero_add]
  refine vo_load_var rfl rfl rfl Try.underlying23 rfl rfl ?_
  refine vo_call0 Try.func21 rfl rfl rfl rfl (toAttrSS_sat (by omega) (fun l hl => by have := a2 l hl; omega)) ?_
  rintro _ _ ⟨rfl, rfl⟩
  refine ⟨rfl, rfl, .inl rfl, ?_⟩
  refine vo_stM ?_
  refine vo_weaken 10 rfl ?_
  refine vo_stM ?_
  refine vo_fieldAddr_ptr rfl rfl Try.underlying32 rfl inf29 (by rw [sz29]; decide) ?_
  try simp only [Nat.zero_add]
  refine vo_store_var rfl rfl rfl rfl inf29 sz29 rfl ?_
  refine vo_stM ?_
  refine vo_nil ?_
  refine hK4 _ ?_
  refine vc_seq fun K5 hK5 => ?_
  refine vc_region ?_
  refine vo_fieldAddr_ptr rfl rfl Try.underlying26 rfl inf24 (by rw [sz24]; decide) ?_
  try simp only [Nat.zero_add]
  refine vo_load_var rfl rfl rfl Try.underlying24 rfl rfl ?_
  refine vo_call0 Try.func22 rfl rfl rfl rfl (toObjectS_sat (by omega) o2) ?_
  rintro _ _ ⟨rfl, rfl⟩
  refine ⟨rfl, rfl, .inl rfl, ?_⟩
  refine vo_stM ?_
  refine vo_weaken 14 rfl ?_
  refine vo_stM ?_
  refine vo_fieldAddr_ptr rfl rfl Try.underlying32 rfl inf30 (by rw [sz30]; decide) ?_
  try simp only [Nat.zero_add]
  refine vo_store_var rfl rfl rfl rfl inf30 sz30 rfl ?_
  refine vo_stM ?_
  refine vo_nil ?_
  refine hK5 _ ?_
  refine vc_seq fun K6 hK6 => ?_
  refine vc_region ?_
  refine vo_load_varS rfl rfl rfl Try.underlying32 rfl inf32 sz32 rfl rfl ?_
  refine vo_store_varS rfl rfl rfl inf32 sz32 rfl ?_
  refine vo_stM ?_
  refine vo_nil ?_
  refine hK6 _ ?_
  refine vc_ret ?_
  change retQ _ _ _ _ _
  refine retQ_sel [] (srows := []) (.inr rfl) hC rfl rfl rfl rfl rfl rfl rfl ?_
  exact ⟨rfl, rfl⟩


theorem eqWorld_sat {a : WorldM} {b : WorldM}  (ha : SW a) (hb : SW b) : SatAt Try.prog 10 [.pv false (worldP a), .pv false (worldP b)] [] (fun res rows => res = [bo (decide (a = b))] ∧ rows = []) := by
  obtain ⟨⟨p1, p2⟩, ⟨p3, p4⟩, p5, p6⟩ := ha
  obtain ⟨⟨q1, q2⟩, ⟨q3, q4⟩, q5, q6⟩ := hb
  refine sat_entry_G (rs := [(4, none)]) Try.func10 rfl rfl (Nat.le_of_ble_eq_true rfl) (Nat.le_of_ble_eq_true rfl) (resTs1 trivial) fun C hC => ?_
  rw [Try.ntmps10]
  replace hC : C.nb = 0 := hC
  refine vc_seq fun K1 hK1 => ?_
  refine vc_region ?_
  refine vo_box rfl rfl ?_
  refine vo_stM ?_
  refine vo_box rfl rfl ?_
  refine vo_stM ?_
  refine vo_assign_pv rfl rfl ?_
  refine vo_nil ?_
  refine hK1 _ ?_
  refine vc_seq fun K2 hK2 => ?_
  refine vc_seq fun K3 hK3 => ?_
  refine vc_region ?_
  refine vo_fieldAddr_ptr rfl rfl Try.underlying32 rfl inf22 (by rw [sz22]; decide) ?_
  try simp only [Nat.zero_add]
  refine vo_load_var rfl rfl rfl Try.underlying22 rfl rfl ?_
  refine vo_fieldAddr_ptr rfl rfl Try.underlying32 rfl inf22 (by rw [sz22]; decide) ?_
  try simp only [Nat.zero_add]
  refine vo_load_var rfl rfl rfl Try.underlying22 rfl rfl ?_
  refine vo_call0 Try.func26 rfl rfl rfl rfl (eqIntSS_sat (by omega) (fun l hl => by have := p2 l hl; omega) (by omega) (fun l hl => by have := q2 l hl; omega)) ?_
  rintro _ _ ⟨rfl, rfl⟩
  refine ⟨rfl, rfl, .inl rfl, ?_⟩
  refine vo_stM ?_
  refine vo_not rfl rfl ?_
  refine vo_nil ?_
  refine hK3 _ ?_
  refine vc_cond rfl (fun hc1 => ?_) (fun hc1 => ?_)
  · try simp only [decide_eq_true_eq, decide_eq_false_iff_not, beq_iff_eq, bne_iff_ne, beq_eq_false_iff_ne, bne_eq_false_iff_eq, Bool.not_eq_true, Bool.not_eq_false, Bool.not_eq_eq_eq_not, Bool.not_true, Bool.not_false, List.length_map, Int.not_lt, Int.not_le, ne_eq, Decidable.not_not] at hc1
    refine vc_seq fun K4 hK4 => ?_
    refine vc_region ?_
    refine vo_assign_pv rfl rfl ?_
    refine vo_nil ?_
    refine hK4 _ ?_
    refine vc_ret ?_
    change retQ _ _ _ _ _
    refine retQ_sel [] (srows := []) (.inr rfl) hC rfl rfl rfl rfl rfl rfl rfl ?_
    refine ⟨?_, rfl⟩
    refine (congrArg (fun b => [bo b]) (?_ : _ = _) : [bo _] = [bo _])
    cases a; cases b; simp_all
  · try simp only [decide_eq_true_eq, decide_eq_false_iff_not, beq_iff_eq, bne_iff_ne, beq_eq_false_iff_ne, bne_eq_false_iff_eq, Bool.not_eq_true, Bool.not_eq_false, Bool.not_eq_eq_eq_not, Bool.not_true, Bool.not_false, List.length_map, Int.not_lt, Int.not_le, ne_eq, Decidable.not_not] at hc1
    refine vc_skip ?_
    refine hK2 _ ?_
    refine vc_seq fun K5 hK5 => ?_
    refine vc_seq fun K6 hK6 => ?_
    refine vc_region ?_
    refine vo_fieldAddr_ptr rfl rfl Try.underlying32 rfl inf29 (by rw [sz29]; decide) ?_
    try simp only [Nat.zero_add]
    refine vo_load_var rfl rfl rfl Try.underlying29 rfl rfl ?_
    refine vo_fieldAddr_ptr rfl rfl Try.underlying32 rfl inf29 (by rw [sz29]; decide) ?_
    try simp only [Nat.zero_add]
    refine vo_load_var rfl rfl rfl Try.underlying29 rfl rfl ?_
    refine vo_call0 Try.func27 rfl rfl rfl rfl (eqAttrSS_sat (by omega) (by omega) (fun l hl => by have := p4 l hl; omega) (fun l hl => by have := q4 l hl; omega)) ?_
    rintro _ _ ⟨rfl, rfl⟩
    refine ⟨rfl, rfl, .inl rfl, ?_⟩
    refine vo_stM ?_
    refine vo_not rfl rfl ?_
    refine vo_nil ?_
    refine hK6 _ ?_
    refine vc_cond rfl (fun hc2 => ?_) (fun hc2 => ?_)
    · try simp only [decide_eq_true_eq, decide_eq_false_iff_not, beq_iff_eq, bne_iff_ne, beq_eq_false_iff_ne, bne_eq_false_iff_eq, Bool.not_eq_true, Bool.not_eq_false, Bool.not_eq_eq_eq_not, Bool.not_true, Bool.not_false, List.length_map, Int.not_lt, Int.not_le, ne_eq, Decidable.not_not] at hc2
      refine vc_seq fun K7 hK7 => ?_
      refine vc_region ?_
      refine vo_assign_pv rfl rfl ?_
      refine vo_nil ?_
      refine hK7 _ ?_
      refine vc_ret ?_
      change retQ _ _ _ _ _
      refine retQ_sel [] (srows := []) (.inr rfl) hC rfl rfl rfl rfl rfl rfl rfl ?_
      refine ⟨?_, rfl⟩
      refine (congrArg (fun b => [bo b]) (?_ : _ = _) : [bo _] = [bo _])
      cases a; cases b; simp_all
    · try simp only [decide_eq_true_eq, decide_eq_false_iff_not, beq_iff_eq, bne_iff_ne, beq_eq_false_iff_ne, bne_eq_false_iff_eq, Bool.not_eq_true, Bool.not_eq_false, Bool.not_eq_eq_eq_not, Bool.not_true, Bool.not_false, List.length_map, Int.not_lt, Int.not_le, ne_eq, Decidable.not_not] at hc2
      refine vc_skip ?_
      refine hK5 _ ?_
      refine vc_seq fun K8 hK8 => ?_
      refine vc_seq fun K9 hK9 => ?_
      refine vc_region ?_
      refine vo_fieldAddr_ptr rfl rfl Try.underlying32 rfl inf30 (by rw [sz30]; decide) ?_
      try simp only [Nat.zero_add]
      refine vo_load_var rfl rfl rfl Try.underlying30 rfl rfl ?_
      refine vo_fieldAddr_ptr rfl rfl Try.underlying32 rfl inf30 (by rw [sz30]; decide) ?_
      try simp only [Nat.zero_add]
      refine vo_load_var rfl rfl rfl Try.underlying30 rfl rfl ?_
      refine vo_call0 Try.func28 rfl rfl rfl rfl (eqObjectS_sat (by omega) (by omega) p6 q6) ?_
      rintro _ _ ⟨rfl, rfl⟩
      refine ⟨rfl, rfl, .inl rfl, ?_⟩
      refine vo_stM ?_
      refine vo_not rfl rfl ?_
      refine vo_nil ?_
      refine hK9 _ ?_
      refine vc_cond rfl (fun hc3 => ?_) (fun hc3 => ?_)
      · try simp only [decide_eq_true_eq, decide_eq_false_iff_not, beq_iff_eq, bne_iff_ne, beq_eq_false_iff_ne, bne_eq_false_iff_eq, Bool.not_eq_true, Bool.not_eq_false, Bool.not_eq_eq_eq_not, Bool.not_true, Bool.not_false, List.length_map, Int.not_lt, Int.not_le, ne_eq, Decidable.not_not] at hc3
        refine vc_seq fun K10 hK10 => ?_
        refine vc_region ?_
        refine vo_assign_pv rfl rfl ?_
        refine vo_nil ?_
        refine hK10 _ ?_
        refine vc_ret ?_
        change retQ _ _ _ _ _
        refine retQ_sel [] (srows := []) (.inr rfl) hC rfl rfl rfl rfl rfl rfl rfl ?_
        refine ⟨?_, rfl⟩
        refine (congrArg (fun b => [bo b]) (?_ : _ = _) : [bo _] = [bo _])
        cases a; cases b; simp_all
      · try simp only [decide_eq_true_eq, decide_eq_false_iff_not, beq_iff_eq, bne_iff_ne, beq_eq_false_iff_ne, bne_eq_false_iff_eq, Bool.not_eq_true, Bool.not_eq_false, Bool.not_eq_eq_eq_not, Bool.not_true, Bool.not_false, List.length_map, Int.not_lt, Int.not_le, ne_eq, Decidable.not_not] at hc3
        refine vc_skip ?_
        refine hK8 _ ?_
        refine vc_seq fun K11 hK11 => ?_
        refine vc_region ?_
        refine vo_assign_pv rfl rfl ?_
        refine vo_nil ?_
        refine hK11 _ ?_
        refine vc_ret ?_
        change retQ _ _ _ _ _
        refine retQ_sel [] (srows := []) (.inr rfl) hC rfl rfl rfl rfl rfl rfl rfl ?_
        refine ⟨?_, rfl⟩
        refine (congrArg (fun b => [bo b]) (?_ : _ = _) : [bo _] = [bo _])
        cases a; cases b; simp_all


theorem attrNames_sat {nl0 : Option Bool} {list : List AttrM} (hlist : list.length < 1000000000)  : SatAt Try.prog 49 [.pv false (.sl nl0 3 (list.map attrP))] [] (fun res rows => ∃ nl, res = [.pv true (.sl nl 1 ((anms list).map intP))] ∧ rows = []) := by
  refine sat_entry_G (rs := [(2, none)]) Try.func49 rfl rfl (Nat.le_of_ble_eq_true rfl) (Nat.le_of_ble_eq_true rfl) (resTs1 trivial) fun C hC => ?_
  rw [Try.ntmps49]
  replace hC : C.nb = 0 := hC
  refine vc_seq fun K1 hK1 => ?_
  refine vc_region ?_
  refine vo_assign_pv rfl rfl ?_
  refine vo_nil ?_
  refine hK1 _ ?_
  refine vc_seq fun K2 hK2 => ?_
  refine vc_region ?_
  refine vo_assign_pv rfl rfl ?_
  refine vo_nil ?_
  refine hK2 _ ?_
  refine vc_seq fun K3 hK3 => ?_
  refine vc_seq fun K4 hK4 => ?_
  refine vc_region ?_
  refine vo_move_pv rfl rfl ?_
  refine vo_len_pv rfl rfl Try.underlying52 ?_
  refine vo_move_pv rfl rfl ?_
  refine vo_nil ?_
  refine hK4 _ ?_
  refine vc_block ?_
  refine vc_own_nil 3 E63 rfl ?_
  refine vc_stM ?_
  refine vc_loopE [6, 7] [3, 8] [0] _ _ (fun mz vs rs => ∃ (k : Nat), mz = list.length - k ∧ (k ≤ list.length) ∧ vs = [.ref 0, i64 k] ∧ rs = [Row.own 3 1 none true ((anms (list.take k)).map intP)]) (list.length) rfl rfl (le_len hC rfl) ⟨rfl, rfl, rfl⟩ rfl ⟨0, rfl, Nat.zero_le _, rfl, rfl⟩ ?_
  rintro mz vs rs - - ⟨k, rfl, hk, rfl, rfl⟩
  refine vc_stM ?_
  refine vc_seq fun K5 hK5 => ?_
  refine vc_region ?_
  refine vo_binI rfl rfl rfl rfl trivial ?_
  refine vo_nil ?_
  refine hK5 _ ?_
  refine vc_seq fun K6 hK6 => ?_
  refine vc_cond rfl (fun hc1 => ?_) (fun hc1 => ?_)
  · try simp only [decide_eq_true_eq, decide_eq_false_iff_not, beq_iff_eq, bne_iff_ne, beq_eq_false_iff_ne, bne_eq_false_iff_eq, Bool.not_eq_true, Bool.not_eq_false, Bool.not_eq_eq_eq_not, Bool.not_true, Bool.not_false, List.length_map, Int.not_lt, Int.not_le, ne_eq, Decidable.not_not] at hc1
    refine vc_skip ?_
    refine hK6 _ ?_
    refine vc_seq fun K7 hK7 => ?_
    refine vc_block ?_
    refine vc_seq fun K8 hK8 => ?_
    refine vc_region ?_
    refine vo_index_pv (.agg [(.int .i64 0), (.int .i64 0), (.int .i64 0)]) rfl rfl rfl E52.und inf37 sz37 sd sd ?_
    simp only [Int.toNat_natCast, Int.toNat_zero, getD_ints, getD_intss, getD_bools, getD_bytes, PV.cells, getD_ops, getD_pairs, getD_insts, getD_attrs, getD_attrss, getD_objs]
    refine vo_load_adrS rfl rfl Try.underlying37 rfl inf37 sz37 rfl ?_
    refine vo_st (by (try simp only [St.put, PV.cells, PV.scal, List.drop_succ_cons, List.drop_zero, List.take_succ_cons, List.take_zero, List.map_cons, List.map_nil, Bool.or_true, Bool.or_false, Bool.false_or, Bool.true_or, opP, pairP, instP, heapP]); exact eq_refl _) ?_
    refine vo_alloc Z37 rfl ?_
    refine vo_stM ?_
    refine vo_store_varS rfl rfl rfl inf37 sz37 rfl ?_
    refine vo_stM ?_
    refine vo_nil ?_
    refine hK8 _ ?_
    refine vc_region ?_
    refine vo_move_ref rfl rfl ?_
    refine vo_fieldAddr_ptr rfl rfl Try.underlying37 rfl inf3 (by rw [sz3]; decide) ?_
    try simp only [Nat.zero_add]
    refine vo_load_var rfl rfl rfl Try.underlying3 rfl rfl ?_
    refine vo_buildSlice E63 rfl rfl rfl rfl rfl ?_
    refine vo_stM ?_
    refine vo_append E63 rfl (by omega) rfl rfl rfl sd sd ?_
    refine vo_stM ?_
    try simp only [app_ints, app_intss, app_bools]
    refine vo_assign_ref rfl rfl ?_
    refine vo_nil ?_
    refine hK7 _ ?_
    refine vc_region ?_
    refine vo_binI rfl rfl rfl rfl sd ?_
    refine vo_move_pv rfl rfl ?_
    refine vo_nil ?_
    change againE _ _ _ _ _ _ _ _ _ _
    refine againE_mk rfl rfl rfl rfl rfl rfl ⟨_, ?_, k + 1, rfl, ?_, rfl, (by rw [← app_anm1 _ _ (by omega)]; rfl)⟩
    · omega
    · omega
  · try simp only [decide_eq_true_eq, decide_eq_false_iff_not, beq_iff_eq, bne_iff_ne, beq_eq_false_iff_ne, bne_eq_false_iff_eq, Bool.not_eq_true, Bool.not_eq_false, Bool.not_eq_eq_eq_not, Bool.not_true, Bool.not_false, List.length_map, Int.not_lt, Int.not_le, ne_eq, Decidable.not_not] at hc1
    refine vc_exit ?_
    refine hK3 _ ?_
    refine vc_seq fun K9 hK9 => ?_
    refine vc_region ?_
    refine vo_move_ref rfl rfl ?_
    refine vo_assign_ref rfl rfl ?_
    refine vo_nil ?_
    refine hK9 _ ?_
    refine vc_expose 0 (by omega) rfl ?_
    refine vc_stM ?_
    refine vc_ret ?_
    change retQ _ _ _ _ _
    refine retQ_sel [] (srows := []) (.inr rfl) hC rfl rfl rfl rfl rfl rfl rfl ?_
    rw [show list.take k = list from take_all (by omega)]; exact ⟨_, rfl, rfl⟩


theorem areAttrs_sat {nl0 : Option Bool} {list : List AttrM} (hlist : list.length < 1000000000)  : SatAt Try.prog 23 [.pv false (.sl nl0 3 (list.map attrP))] [] (fun res rows => res = [bo (decide (AAttrs list))] ∧ rows = []) := by
  refine sat_entry_G (rs := [(2, none)]) Try.func23 rfl rfl (Nat.le_of_ble_eq_true rfl) (Nat.le_of_ble_eq_true rfl) (resTs1 trivial) fun C hC => ?_
  rw [Try.ntmps23]
  replace hC : C.nb = 0 := hC
  refine vc_seq fun K1 hK1 => ?_
  refine vc_region ?_
  refine vo_assign_pv rfl rfl ?_
  refine vo_nil ?_
  refine hK1 _ ?_
  refine vc_seq fun K2 hK2 => ?_
  refine vc_seq fun K3 hK3 => ?_
  refine vc_region ?_
  refine vo_move_pv rfl rfl ?_
  refine vo_len_pv rfl rfl Try.underlying52 ?_
  refine vo_binI rfl rfl rfl rfl trivial ?_
  refine vo_move_pv rfl rfl ?_
  refine vo_split 8 rfl (fun hg1 => ?_) (fun hg1 => ?_)
  · try simp only [decide_eq_true_eq, decide_eq_false_iff_not, beq_iff_eq, bne_iff_ne, beq_eq_false_iff_ne, bne_eq_false_iff_eq, Bool.not_eq_true, Bool.not_eq_false, Bool.not_eq_eq_eq_not, Bool.not_true, Bool.not_false, List.length_map, Int.not_lt, Int.not_le, ne_eq, Decidable.not_not] at hg1
    refine vo_guard_off rfl rfl rfl rfl rfl ?_
    refine vo_guard_off rfl rfl rfl rfl rfl ?_
    refine vo_guard_off rfl rfl rfl rfl rfl ?_
    refine vo_guard_off rfl rfl rfl rfl rfl ?_
    refine vo_pick_t rfl rfl ?_
    refine vo_nil ?_
    refine hK3 _ ?_
    refine vc_cond_t rfl ?_
    refine vc_seq fun K4 hK4 => ?_
    refine vc_region ?_
    refine vo_assign_pv rfl rfl ?_
    refine vo_nil ?_
    refine hK4 _ ?_
    refine vc_ret ?_
    change retQ _ _ _ _ _
    refine retQ_sel [] (srows := []) (.inr rfl) hC rfl rfl rfl rfl rfl rfl rfl ?_
    refine ⟨?_, rfl⟩
    refine (congrArg (fun b => [bo b]) (?_ : _ = _) : [bo _] = [bo _])
    first
      | (exact bF fun h => absurd (⟨by have := h.1; rw [anms_len]; omega, h.2.1⟩ : OKL (anms list) 8) (by assumption))
      | (refine bF fun h => ?_
         have h1 := h.2.2 _ (getD_mem (show k < list.length by omega) ⟨0, 0, 0⟩)
         unfold okAttr at h1; omega)
      | exact bF fun h => by have := h.1; omega
      | (rw [take_all (by omega)] at hf; exact bT ⟨by omega, by first | exact (‹OKL (anms list) 8›).2 | assumption, hf⟩)
  · try simp only [decide_eq_true_eq, decide_eq_false_iff_not, beq_iff_eq, bne_iff_ne, beq_eq_false_iff_ne, bne_eq_false_iff_eq, Bool.not_eq_true, Bool.not_eq_false, Bool.not_eq_eq_eq_not, Bool.not_true, Bool.not_false, List.length_map, Int.not_lt, Int.not_le, ne_eq, Decidable.not_not] at hg1
    refine vo_guard_on rfl rfl rfl ?_
    refine vo_move_pv rfl rfl ?_
    refine vo_guard_on rfl rfl rfl ?_
    refine vo_call0 Try.func49 rfl rfl rfl rfl (attrNames_sat hlist) ?_
    rintro _ _ ⟨nl9, rfl, rfl⟩
    refine ⟨rfl, rfl, .inl rfl, ?_⟩
    refine vo_stM ?_
    refine vo_guard_on rfl rfl rfl ?_
    refine vo_call0 Try.func48 rfl rfl rfl rfl (isList_sat (list := anms list) (by rw [anms_len]; omega)) ?_
    rintro _ _ ⟨rfl, rfl⟩
    refine ⟨rfl, rfl, .inl rfl, ?_⟩
    refine vo_stM ?_
    refine vo_guard_on rfl rfl rfl ?_
    refine vo_not rfl rfl ?_
    refine vo_pick_f rfl rfl ?_
    refine vo_nil ?_
    refine hK3 _ ?_
    refine vc_cond rfl (fun hc2 => ?_) (fun hc2 => ?_)
    · try simp only [decide_eq_true_eq, decide_eq_false_iff_not, beq_iff_eq, bne_iff_ne, beq_eq_false_iff_ne, bne_eq_false_iff_eq, Bool.not_eq_true, Bool.not_eq_false, Bool.not_eq_eq_eq_not, Bool.not_true, Bool.not_false, List.length_map, Int.not_lt, Int.not_le, ne_eq, Decidable.not_not] at hc2
      refine vc_seq fun K5 hK5 => ?_
      refine vc_region ?_
      refine vo_assign_pv rfl rfl ?_
      refine vo_nil ?_
      refine hK5 _ ?_
      refine vc_ret ?_
      change retQ _ _ _ _ _
      refine retQ_sel [] (srows := []) (.inr rfl) hC rfl rfl rfl rfl rfl rfl rfl ?_
      refine ⟨?_, rfl⟩
      refine (congrArg (fun b => [bo b]) (?_ : _ = _) : [bo _] = [bo _])
      first
        | (exact bF fun h => absurd (⟨by have := h.1; rw [anms_len]; omega, h.2.1⟩ : OKL (anms list) 8) (by assumption))
        | (refine bF fun h => ?_
           have h1 := h.2.2 _ (getD_mem (show k < list.length by omega) ⟨0, 0, 0⟩)
           unfold okAttr at h1; omega)
        | exact bF fun h => by have := h.1; omega
        | (rw [take_all (by omega)] at hf; exact bT ⟨by omega, by first | exact (‹OKL (anms list) 8›).2 | assumption, hf⟩)
    · try simp only [decide_eq_true_eq, decide_eq_false_iff_not, beq_iff_eq, bne_iff_ne, beq_eq_false_iff_ne, bne_eq_false_iff_eq, Bool.not_eq_true, Bool.not_eq_false, Bool.not_eq_eq_eq_not, Bool.not_true, Bool.not_false, List.length_map, Int.not_lt, Int.not_le, ne_eq, Decidable.not_not] at hc2
      refine vc_skip ?_
      refine hK2 _ ?_
      refine vc_seq fun K6 hK6 => ?_
      refine vc_seq fun K7 hK7 => ?_
      refine vc_region ?_
      refine vo_move_pv rfl rfl ?_
      refine vo_len_pv rfl rfl Try.underlying52 ?_
      refine vo_move_pv rfl rfl ?_
      refine vo_nil ?_
      refine hK7 _ ?_
      refine vc_block ?_
      refine vc_stM ?_
      refine vc_loopE [14, 15] [16] [] _ _ (fun mz vs rs => ∃ (k : Nat), mz = list.length - k ∧ (k ≤ list.length) ∧ (∀ a ∈ list.take k, okAttr a) ∧ vs = [i64 k] ∧ rs = []) (list.length) rfl rfl (le_len hC rfl) ⟨rfl, rfl, rfl⟩ rfl ⟨0, rfl, Nat.zero_le _, (by simp), rfl, rfl⟩ ?_
      rintro mz vs rs - - ⟨k, rfl, hk, hf, rfl, rfl⟩
      refine vc_stM ?_
      refine vc_seq fun K8 hK8 => ?_
      refine vc_region ?_
      refine vo_binI rfl rfl rfl rfl trivial ?_
      refine vo_nil ?_
      refine hK8 _ ?_
      refine vc_seq fun K9 hK9 => ?_
      refine vc_cond rfl (fun hc3 => ?_) (fun hc3 => ?_)
      · try simp only [decide_eq_true_eq, decide_eq_false_iff_not, beq_iff_eq, bne_iff_ne, beq_eq_false_iff_ne, bne_eq_false_iff_eq, Bool.not_eq_true, Bool.not_eq_false, Bool.not_eq_eq_eq_not, Bool.not_true, Bool.not_false, List.length_map, Int.not_lt, Int.not_le, ne_eq, Decidable.not_not] at hc3
        refine vc_skip ?_
        refine hK9 _ ?_
        refine vc_seq fun K10 hK10 => ?_
        refine vc_block ?_
        refine vc_seq fun K11 hK11 => ?_
        refine vc_region ?_
        refine vo_index_pv (.agg [(.int .i64 0), (.int .i64 0), (.int .i64 0)]) rfl rfl rfl E52.und inf37 sz37 sd sd ?_
        simp only [Int.toNat_natCast, Int.toNat_zero, getD_ints, getD_intss, getD_bools, getD_bytes, PV.cells, getD_ops, getD_pairs, getD_insts, getD_attrs, getD_attrss, getD_objs]
        refine vo_load_adrS rfl rfl Try.underlying37 rfl inf37 sz37 rfl ?_
        refine vo_st (by (try simp only [St.put, PV.cells, PV.scal, List.drop_succ_cons, List.drop_zero, List.take_succ_cons, List.take_zero, List.map_cons, List.map_nil, Bool.or_true, Bool.or_false, Bool.false_or, Bool.true_or, opP, pairP, instP, heapP]); exact eq_refl _) ?_
        refine vo_alloc Z37 rfl ?_
        refine vo_stM ?_
        refine vo_store_varS rfl rfl rfl inf37 sz37 rfl ?_
        refine vo_stM ?_
        refine vo_nil ?_
        refine hK11 _ ?_
        refine vc_seq fun K12 hK12 => ?_
        refine vc_region ?_
        refine vo_fieldAddr_ptr rfl rfl Try.underlying37 rfl inf3 (by rw [sz3]; decide) ?_
        try simp only [Nat.zero_add]
        refine vo_load_var rfl rfl rfl Try.underlying3 rfl rfl ?_
        refine vo_call0 Try.func24 rfl rfl rfl rfl isUpTo_sat ?_
        rintro _ _ ⟨rfl, rfl⟩
        refine ⟨rfl, rfl, .inl rfl, ?_⟩
        refine vo_stM ?_
        refine vo_not rfl rfl ?_
        refine vo_move_pv rfl rfl ?_
        refine vo_split 24 rfl (fun hg4 => ?_) (fun hg4 => ?_)
        · try simp only [decide_eq_true_eq, decide_eq_false_iff_not, beq_iff_eq, bne_iff_ne, beq_eq_false_iff_ne, bne_eq_false_iff_eq, Bool.not_eq_true, Bool.not_eq_false, Bool.not_eq_eq_eq_not, Bool.not_true, Bool.not_false, List.length_map, Int.not_lt, Int.not_le, ne_eq, Decidable.not_not] at hg4
          refine vo_guard_off rfl rfl rfl rfl rfl ?_
          refine vo_guard_off rfl rfl rfl rfl rfl ?_
          refine vo_guard_off rfl rfl rfl rfl rfl ?_
          refine vo_guard_off rfl rfl rfl rfl rfl ?_
          refine vo_pick_t rfl rfl ?_
          refine vo_move_pv rfl rfl ?_
          refine vo_guard_off rfl rfl rfl rfl rfl ?_
          refine vo_guard_off rfl rfl rfl rfl rfl ?_
          refine vo_guard_off rfl rfl rfl rfl rfl ?_
          refine vo_guard_off rfl rfl rfl rfl rfl ?_
          refine vo_pick_t rfl rfl ?_
          refine vo_nil ?_
          refine hK12 _ ?_
          refine vc_cond_t rfl ?_
          refine vc_seq fun K13 hK13 => ?_
          refine vc_region ?_
          refine vo_assign_pv rfl rfl ?_
          refine vo_nil ?_
          refine hK13 _ ?_
          refine vc_ret ?_
          change retQ _ _ _ _ _
          refine retQ_sel [] (srows := []) (.inr rfl) hC rfl rfl rfl rfl rfl rfl rfl ?_
          refine ⟨?_, rfl⟩
          refine (congrArg (fun b => [bo b]) (?_ : _ = _) : [bo _] = [bo _])
          first
            | (exact bF fun h => absurd (⟨by have := h.1; rw [anms_len]; omega, h.2.1⟩ : OKL (anms list) 8) (by assumption))
            | (refine bF fun h => ?_
               have h1 := h.2.2 _ (getD_mem (show k < list.length by omega) ⟨0, 0, 0⟩)
               unfold okAttr at h1; omega)
            | exact bF fun h => by have := h.1; omega
            | (rw [take_all (by omega)] at hf; exact bT ⟨by omega, by first | exact (‹OKL (anms list) 8›).2 | assumption, hf⟩)
        · try simp only [decide_eq_true_eq, decide_eq_false_iff_not, beq_iff_eq, bne_iff_ne, beq_eq_false_iff_ne, bne_eq_false_iff_eq, Bool.not_eq_true, Bool.not_eq_false, Bool.not_eq_eq_eq_not, Bool.not_true, Bool.not_false, List.length_map, Int.not_lt, Int.not_le, ne_eq, Decidable.not_not] at hg4
          refine vo_guard_on rfl rfl rfl ?_
          refine vo_fieldAddr_ptr rfl rfl Try.underlying37 rfl inf3 (by rw [sz3]; decide) ?_
          try simp only [Nat.zero_add]
          refine vo_guard_on rfl rfl rfl ?_
          refine vo_load_var rfl rfl rfl Try.underlying3 rfl rfl ?_
          refine vo_guard_on rfl rfl rfl ?_
          refine vo_call0 Try.func24 rfl rfl rfl rfl isUpTo_sat ?_
          rintro _ _ ⟨rfl, rfl⟩
          refine ⟨rfl, rfl, .inl rfl, ?_⟩
          refine vo_stM ?_
          refine vo_guard_on rfl rfl rfl ?_
          refine vo_not rfl rfl ?_
          refine vo_pick_f rfl rfl ?_
          refine vo_move_pv rfl rfl ?_
          refine vo_split 30 rfl (fun hg5 => ?_) (fun hg5 => ?_)
          · try simp only [decide_eq_true_eq, decide_eq_false_iff_not, beq_iff_eq, bne_iff_ne, beq_eq_false_iff_ne, bne_eq_false_iff_eq, Bool.not_eq_true, Bool.not_eq_false, Bool.not_eq_eq_eq_not, Bool.not_true, Bool.not_false, List.length_map, Int.not_lt, Int.not_le, ne_eq, Decidable.not_not] at hg5
            refine vo_guard_off rfl rfl rfl rfl rfl ?_
            refine vo_guard_off rfl rfl rfl rfl rfl ?_
            refine vo_guard_off rfl rfl rfl rfl rfl ?_
            refine vo_guard_off rfl rfl rfl rfl rfl ?_
            refine vo_pick_t rfl rfl ?_
            refine vo_nil ?_
            refine hK12 _ ?_
            refine vc_cond_t rfl ?_
            refine vc_seq fun K14 hK14 => ?_
            refine vc_region ?_
            refine vo_assign_pv rfl rfl ?_
            refine vo_nil ?_
            refine hK14 _ ?_
            refine vc_ret ?_
            change retQ _ _ _ _ _
            refine retQ_sel [] (srows := []) (.inr rfl) hC rfl rfl rfl rfl rfl rfl rfl ?_
            refine ⟨?_, rfl⟩
            refine (congrArg (fun b => [bo b]) (?_ : _ = _) : [bo _] = [bo _])
            first
              | (exact bF fun h => absurd (⟨by have := h.1; rw [anms_len]; omega, h.2.1⟩ : OKL (anms list) 8) (by assumption))
              | (refine bF fun h => ?_
                 have h1 := h.2.2 _ (getD_mem (show k < list.length by omega) ⟨0, 0, 0⟩)
                 unfold okAttr at h1; omega)
              | exact bF fun h => by have := h.1; omega
              | (rw [take_all (by omega)] at hf; exact bT ⟨by omega, by first | exact (‹OKL (anms list) 8›).2 | assumption, hf⟩)
          · try simp only [decide_eq_true_eq, decide_eq_false_iff_not, beq_iff_eq, bne_iff_ne, beq_eq_false_iff_ne, bne_eq_false_iff_eq, Bool.not_eq_true, Bool.not_eq_false, Bool.not_eq_eq_eq_not, Bool.not_true, Bool.not_false, List.length_map, Int.not_lt, Int.not_le, ne_eq, Decidable.not_not] at hg5
            refine vo_guard_on rfl rfl rfl ?_
            refine vo_fieldAddr_ptr rfl rfl Try.underlying37 rfl inf3 (by rw [sz3]; decide) ?_
            try simp only [Nat.zero_add]
            refine vo_guard_on rfl rfl rfl ?_
            refine vo_load_var rfl rfl rfl Try.underlying3 rfl rfl ?_
            refine vo_guard_on rfl rfl rfl ?_
            refine vo_call0 Try.func24 rfl rfl rfl rfl isUpTo_sat ?_
            rintro _ _ ⟨rfl, rfl⟩
            refine ⟨rfl, rfl, .inl rfl, ?_⟩
            refine vo_stM ?_
            refine vo_guard_on rfl rfl rfl ?_
            refine vo_not rfl rfl ?_
            refine vo_pick_f rfl rfl ?_
            refine vo_nil ?_
            refine hK12 _ ?_
            refine vc_cond rfl (fun hc6 => ?_) (fun hc6 => ?_)
            · try simp only [decide_eq_true_eq, decide_eq_false_iff_not, beq_iff_eq, bne_iff_ne, beq_eq_false_iff_ne, bne_eq_false_iff_eq, Bool.not_eq_true, Bool.not_eq_false, Bool.not_eq_eq_eq_not, Bool.not_true, Bool.not_false, List.length_map, Int.not_lt, Int.not_le, ne_eq, Decidable.not_not] at hc6
              refine vc_seq fun K15 hK15 => ?_
              refine vc_region ?_
              refine vo_assign_pv rfl rfl ?_
              refine vo_nil ?_
              refine hK15 _ ?_
              refine vc_ret ?_
              change retQ _ _ _ _ _
              refine retQ_sel [] (srows := []) (.inr rfl) hC rfl rfl rfl rfl rfl rfl rfl ?_
              refine ⟨?_, rfl⟩
              refine (congrArg (fun b => [bo b]) (?_ : _ = _) : [bo _] = [bo _])
              first
                | (exact bF fun h => absurd (⟨by have := h.1; rw [anms_len]; omega, h.2.1⟩ : OKL (anms list) 8) (by assumption))
                | (refine bF fun h => ?_
                   have h1 := h.2.2 _ (getD_mem (show k < list.length by omega) ⟨0, 0, 0⟩)
                   unfold okAttr at h1; omega)
                | exact bF fun h => by have := h.1; omega
                | (rw [take_all (by omega)] at hf; exact bT ⟨by omega, by first | exact (‹OKL (anms list) 8›).2 | assumption, hf⟩)
            · try simp only [decide_eq_true_eq, decide_eq_false_iff_not, beq_iff_eq, bne_iff_ne, beq_eq_false_iff_ne, bne_eq_false_iff_eq, Bool.not_eq_true, Bool.not_eq_false, Bool.not_eq_eq_eq_not, Bool.not_true, Bool.not_false, List.length_map, Int.not_lt, Int.not_le, ne_eq, Decidable.not_not] at hc6
              refine vc_skip ?_
              refine hK10 _ ?_
              refine vc_region ?_
              refine vo_binI rfl rfl rfl rfl sd ?_
              refine vo_move_pv rfl rfl ?_
              refine vo_nil ?_
              change againE _ _ _ _ _ _ _ _ _ _
              refine againE_mk rfl rfl rfl rfl rfl rfl ⟨_, ?_, k + 1, rfl, ?_, ?_, rfl, rfl⟩
              · omega
              · omega
              · exact (all_take_succ (by omega) ⟨0, 0, 0⟩).2 ⟨hf, by unfold okAttr; omega⟩
      · try simp only [decide_eq_true_eq, decide_eq_false_iff_not, beq_iff_eq, bne_iff_ne, beq_eq_false_iff_ne, bne_eq_false_iff_eq, Bool.not_eq_true, Bool.not_eq_false, Bool.not_eq_eq_eq_not, Bool.not_true, Bool.not_false, List.length_map, Int.not_lt, Int.not_le, ne_eq, Decidable.not_not] at hc3
        refine vc_exit ?_
        refine hK6 _ ?_
        refine vc_seq fun K16 hK16 => ?_
        refine vc_region ?_
        refine vo_assign_pv rfl rfl ?_
        refine vo_nil ?_
        refine hK16 _ ?_
        refine vc_ret ?_
        change retQ _ _ _ _ _
        refine retQ_sel [] (srows := []) (.inr rfl) hC rfl rfl rfl rfl rfl rfl rfl ?_
        refine ⟨?_, rfl⟩
        refine (congrArg (fun b => [bo b]) (?_ : _ = _) : [bo _] = [bo _])
        first
          | (exact bF fun h => absurd (⟨by have := h.1; rw [anms_len]; omega, h.2.1⟩ : OKL (anms list) 8) (by assumption))
          | (refine bF fun h => ?_
             have h1 := h.2.2 _ (getD_mem (show k < list.length by omega) ⟨0, 0, 0⟩)
             unfold okAttr at h1; omega)
          | exact bF fun h => by have := h.1; omega
          | (rw [take_all (by omega)] at hf; exact bT ⟨by omega, by first | exact (‹OKL (anms list) 8›).2 | assumption, hf⟩)


theorem attrAt_sat {nl0 : Option Bool} {list : List AttrM} {name : Int} (hlist : list.length < 1000000000)  : SatAt Try.prog 66 [.pv false (.sl nl0 3 (list.map attrP)), i64 name] [] (fun res rows => res = [i64 (findM name (anms list) 0)] ∧ rows = []) := by
  refine sat_entry_G (rs := [(4, none)]) Try.func66 rfl rfl (Nat.le_of_ble_eq_true rfl) (Nat.le_of_ble_eq_true rfl) (resTs1 trivial) fun C hC => ?_
  rw [Try.ntmps66]
  replace hC : C.nb = 0 := hC
  refine vc_seq fun K1 hK1 => ?_
  refine vc_region ?_
  refine vo_assign_pv rfl rfl ?_
  refine vo_nil ?_
  refine hK1 _ ?_
  refine vc_seq fun K2 hK2 => ?_
  refine vc_seq fun K3 hK3 => ?_
  refine vc_region ?_
  refine vo_assign_pv rfl rfl ?_
  refine vo_nil ?_
  refine hK3 _ ?_
  refine vc_block ?_
  refine vc_stM ?_
  refine vc_loopE [0, 1] [5] [] _ _ (fun mz vs rs => ∃ (k : Nat), mz = list.length - k ∧ (k ≤ list.length) ∧ (findM name (anms list) 0 = findM name ((anms list).drop k) k) ∧ vs = [i64 k] ∧ rs = []) (list.length) rfl rfl (le_len hC rfl) ⟨rfl, rfl, rfl⟩ rfl ⟨0, rfl, Nat.zero_le _, rfl, rfl, rfl⟩ ?_
  rintro mz vs rs - - ⟨k, rfl, hk, hf, rfl, rfl⟩
  refine vc_stM ?_
  refine vc_seq fun K4 hK4 => ?_
  refine vc_seq fun K5 hK5 => ?_
  refine vc_region ?_
  refine vo_move_pv rfl rfl ?_
  refine vo_move_pv rfl rfl ?_
  refine vo_len_pv rfl rfl Try.underlying52 ?_
  refine vo_binI rfl rfl rfl rfl trivial ?_
  refine vo_nil ?_
  refine hK5 _ ?_
  refine vc_cond rfl (fun hc1 => ?_) (fun hc1 => ?_)
  · try simp only [decide_eq_true_eq, decide_eq_false_iff_not, beq_iff_eq, bne_iff_ne, beq_eq_false_iff_ne, bne_eq_false_iff_eq, Bool.not_eq_true, Bool.not_eq_false, Bool.not_eq_eq_eq_not, Bool.not_true, Bool.not_false, List.length_map, Int.not_lt, Int.not_le, ne_eq, Decidable.not_not] at hc1
    refine vc_skip ?_
    refine hK4 _ ?_
    refine vc_seq fun K6 hK6 => ?_
    refine vc_block ?_
    refine vc_seq fun K7 hK7 => ?_
    refine vc_region ?_
    refine vo_move_pv rfl rfl ?_
    refine vo_move_pv rfl rfl ?_
    refine vo_index_pv (.agg [(.int .i64 0), (.int .i64 0), (.int .i64 0)]) rfl rfl rfl E52.und inf37 sz37 sd sd ?_
    simp only [Int.toNat_natCast, Int.toNat_zero, getD_ints, getD_intss, getD_bools, getD_bytes, PV.cells, getD_ops, getD_pairs, getD_insts, getD_attrs, getD_attrss, getD_objs]
    refine vo_fieldAddr_adr rfl rfl Try.underlying37 rfl inf3 (by rw [sz3]; decide) ?_
    refine vo_load_adr rfl rfl Try.underlying3 rfl ?_
    refine vo_move_pv rfl rfl ?_
    refine vo_binI rfl rfl rfl rfl trivial ?_
    refine vo_nil ?_
    refine hK7 _ ?_
    refine vc_cond rfl (fun hc2 => ?_) (fun hc2 => ?_)
    · try simp only [decide_eq_true_eq, decide_eq_false_iff_not, beq_iff_eq, bne_iff_ne, beq_eq_false_iff_ne, bne_eq_false_iff_eq, Bool.not_eq_true, Bool.not_eq_false, Bool.not_eq_eq_eq_not, Bool.not_true, Bool.not_false, List.length_map, Int.not_lt, Int.not_le, ne_eq, Decidable.not_not] at hc2
      refine vc_seq fun K8 hK8 => ?_
      refine vc_region ?_
      refine vo_move_pv rfl rfl ?_
      refine vo_assign_pv rfl rfl ?_
      refine vo_nil ?_
      refine hK8 _ ?_
      refine vc_ret ?_
      change retQ _ _ _ _ _
      refine retQ_sel [] (srows := []) (.inr rfl) hC rfl rfl rfl rfl rfl rfl rfl ?_
      refine ⟨?_, rfl⟩
      refine (congrArg (fun b => [i64 b]) (?_ : _ = _) : [i64 _] = [i64 _])
      rw [hf, findM_anms _ _ _ (by omega), if_pos (by omega)]
    · try simp only [decide_eq_true_eq, decide_eq_false_iff_not, beq_iff_eq, bne_iff_ne, beq_eq_false_iff_ne, bne_eq_false_iff_eq, Bool.not_eq_true, Bool.not_eq_false, Bool.not_eq_eq_eq_not, Bool.not_true, Bool.not_false, List.length_map, Int.not_lt, Int.not_le, ne_eq, Decidable.not_not] at hc2
      refine vc_skip ?_
      refine hK6 _ ?_
      refine vc_region ?_
      refine vo_move_pv rfl rfl ?_
      refine vo_binI rfl rfl rfl rfl sd ?_
      refine vo_assign_pv rfl rfl ?_
      refine vo_nil ?_
      change againE _ _ _ _ _ _ _ _ _ _
      refine againE_mk rfl rfl rfl rfl rfl rfl ⟨_, ?_, k + 1, rfl, ?_, ?_, rfl, rfl⟩
      · omega
      · omega
      · rw [hf, findM_anms _ _ _ (by omega), if_neg (by omega)]; rfl
  · try simp only [decide_eq_true_eq, decide_eq_false_iff_not, beq_iff_eq, bne_iff_ne, beq_eq_false_iff_ne, bne_eq_false_iff_eq, Bool.not_eq_true, Bool.not_eq_false, Bool.not_eq_eq_eq_not, Bool.not_true, Bool.not_false, List.length_map, Int.not_lt, Int.not_le, ne_eq, Decidable.not_not] at hc1
    refine vc_exit ?_
    refine hK2 _ ?_
    refine vc_seq fun K9 hK9 => ?_
    refine vc_region ?_
    refine vo_assign_pv rfl rfl ?_
    refine vo_nil ?_
    refine hK9 _ ?_
    refine vc_ret ?_
    change retQ _ _ _ _ _
    refine retQ_sel [] (srows := []) (.inr rfl) hC rfl rfl rfl rfl rfl rfl rfl ?_
    refine ⟨?_, rfl⟩
    refine (congrArg (fun b => [i64 b]) (?_ : _ = _) : [i64 _] = [i64 _])
    rw [hf, show k = (anms list).length by rw [anms_len]; omega, List.drop_length]; rfl


theorem validAttrs_sat {nl0 : Option Bool} {list : List AttrM} (hlist : list.length < 1000000000)  : SatAt Try.prog 42 [.pv false (.sl nl0 3 (list.map attrP))] [] (fun res rows => res = [bo (decide (AAttrs list))] ∧ rows = []) := by
  refine sat_entry_G (rs := [(2, none)]) Try.func42 rfl rfl (Nat.le_of_ble_eq_true rfl) (Nat.le_of_ble_eq_true rfl) (resTs1 trivial) fun C hC => ?_
  rw [Try.ntmps42]
  replace hC : C.nb = 0 := hC
  refine vc_seq fun K1 hK1 => ?_
  refine vc_region ?_
  refine vo_assign_pv rfl rfl ?_
  refine vo_nil ?_
  refine hK1 _ ?_
  refine vc_seq fun K2 hK2 => ?_
  refine vc_seq fun K3 hK3 => ?_
  refine vc_region ?_
  refine vo_assign_pv rfl rfl ?_
  refine vo_nil ?_
  refine hK3 _ ?_
  refine vc_block ?_
  refine vc_stM ?_
  refine vc_loopE [0] [3] [] _ _ (fun mz vs rs => ∃ (k : Nat), mz = list.length - k ∧ (k ≤ list.length) ∧ ((anms (list.take k)).Nodup ∧ ∀ a ∈ list.take k, okAttr a) ∧ vs = [i64 k] ∧ rs = []) (list.length) rfl rfl (le_len hC rfl) ⟨rfl, rfl, rfl⟩ rfl ⟨0, rfl, Nat.zero_le _, (by simp [anms]), rfl, rfl⟩ ?_
  rintro mz vs rs - - ⟨k, rfl, hk, hf, rfl, rfl⟩
  refine vc_stM ?_
  refine vc_seq fun K4 hK4 => ?_
  refine vc_seq fun K5 hK5 => ?_
  refine vc_region ?_
  refine vo_move_pv rfl rfl ?_
  refine vo_move_pv rfl rfl ?_
  refine vo_len_pv rfl rfl Try.underlying52 ?_
  refine vo_binI rfl rfl rfl rfl trivial ?_
  refine vo_nil ?_
  refine hK5 _ ?_
  refine vc_cond rfl (fun hc1 => ?_) (fun hc1 => ?_)
  · try simp only [decide_eq_true_eq, decide_eq_false_iff_not, beq_iff_eq, bne_iff_ne, beq_eq_false_iff_ne, bne_eq_false_iff_eq, Bool.not_eq_true, Bool.not_eq_false, Bool.not_eq_eq_eq_not, Bool.not_true, Bool.not_false, List.length_map, Int.not_lt, Int.not_le, ne_eq, Decidable.not_not] at hc1
    refine vc_skip ?_
    refine hK4 _ ?_
    refine vc_seq fun K6 hK6 => ?_
    refine vc_block ?_
    refine vc_seq fun K7 hK7 => ?_
    refine vc_draw (by kernel_rfl) ?_
    change VD _ _ _ 37 _ _ _
    refine vd_light 0 rfl rfl rfl (by kernel_rfl) (by kernel_rfl) (by kernel_rfl) (wnt_none rfl) (lt_move_pv rfl) ?_
    refine vd_light 1 rfl rfl rfl (by kernel_rfl) (by kernel_rfl) (by kernel_rfl) (wnt_none rfl) (lt_move_pv rfl) ?_
    refine vd_light 2 rfl rfl rfl (by kernel_rfl) (by kernel_rfl) (by kernel_rfl) (wnt_none rfl) (lt_slice_pv rfl rfl rfl E52.und inf37 sz37 sd sd sd) ?_
    simp only [Int.toNat_natCast, Int.toNat_zero, List.drop_zero, Nat.sub_zero, ← List.map_drop, ← List.map_take]
    refine vd_light 3 rfl rfl rfl (by kernel_rfl) (by kernel_rfl) (by kernel_rfl) (wnt_none rfl) (lt_move_pv rfl) ?_
    refine vd_light 4 rfl rfl rfl (by kernel_rfl) (by kernel_rfl) (by kernel_rfl) (wnt_none rfl) (lt_move_pv rfl) ?_
    refine vd_light 5 rfl rfl rfl (by kernel_rfl) (by kernel_rfl) (by kernel_rfl) (wnt_none rfl) (lt_index_pv (.agg [(.int .i64 0), (.int .i64 0), (.int .i64 0)]) rfl rfl E52.und inf37 sz37 sd sd) ?_
    simp only [Int.toNat_natCast, Int.toNat_zero, getD_ints, getD_intss, getD_bools, getD_bytes, PV.cells, getD_ops, getD_pairs, getD_insts, getD_attrs, getD_attrss, getD_objs]
    refine vd_light 6 rfl rfl rfl (by kernel_rfl) (by kernel_rfl) (by kernel_rfl) (wnt_none rfl) (lt_fieldAddr_adr rfl Try.underlying37 rfl inf3 (by rw [sz3]; decide)) ?_
    refine vd_light 7 rfl rfl rfl (by kernel_rfl) (by kernel_rfl) (by kernel_rfl) (wnt_none rfl) (lt_load_adr rfl Try.underlying3 rfl) ?_
    refine vd_call 8 rfl (by kernel_rfl) (wnt_none rfl) Try.func66 rfl rfl rfl rfl (attrAt_sat (list := list.take k) (by simp; omega)) ?_
    rintro _ _ ⟨rfl, rfl⟩
    refine ⟨rfl, rfl, .inl rfl, ?_⟩
    refine vd_stM ?_
    refine vd_light 9 rfl rfl rfl (by kernel_rfl) (by kernel_rfl) (by kernel_rfl) (wnt_none rfl) (lt_binI rfl rfl rfl trivial) ?_
    refine vd_light 10 rfl rfl rfl (by kernel_rfl) (by kernel_rfl) (by kernel_rfl) (wnt_none rfl) (lt_move_pv rfl) ?_
    refine vd_split 20 rfl (fun hg2 => ?_) (fun hg2 => ?_)
    · try simp only [decide_eq_true_eq, decide_eq_false_iff_not, beq_iff_eq, bne_iff_ne, beq_eq_false_iff_ne, bne_eq_false_iff_eq, Bool.not_eq_true, Bool.not_eq_false, Bool.not_eq_eq_eq_not, Bool.not_true, Bool.not_false, List.length_map, Int.not_lt, Int.not_le, ne_eq, Decidable.not_not] at hg2
      refine vd_skip 11 rfl rfl rfl (by kernel_rfl) (by kernel_rfl) (by kernel_rfl) (wnt_off rfl rfl rfl rfl rfl) ?_
      refine vd_skip 12 rfl rfl rfl (by kernel_rfl) (by kernel_rfl) (by kernel_rfl) (wnt_off rfl rfl rfl rfl rfl) ?_
      refine vd_skip 13 rfl rfl rfl (by kernel_rfl) (by kernel_rfl) (by kernel_rfl) (wnt_off rfl rfl rfl rfl rfl) ?_
      refine vd_skip 14 rfl rfl rfl (by kernel_rfl) (by kernel_rfl) (by kernel_rfl) (wnt_off rfl rfl rfl rfl rfl) ?_
      refine vd_skip 15 rfl rfl rfl (by kernel_rfl) (by kernel_rfl) (by kernel_rfl) (wnt_off rfl rfl rfl rfl rfl) ?_
      refine vd_skip 16 rfl rfl rfl (by kernel_rfl) (by kernel_rfl) (by kernel_rfl) (wnt_off rfl rfl rfl rfl rfl) ?_
      refine vd_skip 17 rfl rfl rfl (by kernel_rfl) (by kernel_rfl) (by kernel_rfl) (wnt_off rfl rfl rfl rfl rfl) ?_
      refine vd_light 18 rfl rfl rfl (by kernel_rfl) (by kernel_rfl) (by kernel_rfl) (wnt_none rfl) (lt_pick_t rfl) ?_
      refine vd_light 19 rfl rfl rfl (by kernel_rfl) (by kernel_rfl) (by kernel_rfl) (wnt_none rfl) (lt_move_pv rfl) ?_
      refine vd_skip 20 rfl rfl rfl (by kernel_rfl) (by kernel_rfl) (by kernel_rfl) (wnt_off rfl rfl rfl rfl rfl) ?_
      refine vd_skip 21 rfl rfl rfl (by kernel_rfl) (by kernel_rfl) (by kernel_rfl) (wnt_off rfl rfl rfl rfl rfl) ?_
      refine vd_skip 22 rfl rfl rfl (by kernel_rfl) (by kernel_rfl) (by kernel_rfl) (wnt_off rfl rfl rfl rfl rfl) ?_
      refine vd_skip 23 rfl rfl rfl (by kernel_rfl) (by kernel_rfl) (by kernel_rfl) (wnt_off rfl rfl rfl rfl rfl) ?_
      refine vd_skip 24 rfl rfl rfl (by kernel_rfl) (by kernel_rfl) (by kernel_rfl) (wnt_off rfl rfl rfl rfl rfl) ?_
      refine vd_skip 25 rfl rfl rfl (by kernel_rfl) (by kernel_rfl) (by kernel_rfl) (wnt_off rfl rfl rfl rfl rfl) ?_
      refine vd_skip 26 rfl rfl rfl (by kernel_rfl) (by kernel_rfl) (by kernel_rfl) (wnt_off rfl rfl rfl rfl rfl) ?_
      refine vd_light 27 rfl rfl rfl (by kernel_rfl) (by kernel_rfl) (by kernel_rfl) (wnt_none rfl) (lt_pick_t rfl) ?_
      refine vd_light 28 rfl rfl rfl (by kernel_rfl) (by kernel_rfl) (by kernel_rfl) (wnt_none rfl) (lt_move_pv rfl) ?_
      refine vd_skip 29 rfl rfl rfl (by kernel_rfl) (by kernel_rfl) (by kernel_rfl) (wnt_off rfl rfl rfl rfl rfl) ?_
      refine vd_skip 30 rfl rfl rfl (by kernel_rfl) (by kernel_rfl) (by kernel_rfl) (wnt_off rfl rfl rfl rfl rfl) ?_
      refine vd_skip 31 rfl rfl rfl (by kernel_rfl) (by kernel_rfl) (by kernel_rfl) (wnt_off rfl rfl rfl rfl rfl) ?_
      refine vd_skip 32 rfl rfl rfl (by kernel_rfl) (by kernel_rfl) (by kernel_rfl) (wnt_off rfl rfl rfl rfl rfl) ?_
      refine vd_skip 33 rfl rfl rfl (by kernel_rfl) (by kernel_rfl) (by kernel_rfl) (wnt_off rfl rfl rfl rfl rfl) ?_
      refine vd_skip 34 rfl rfl rfl (by kernel_rfl) (by kernel_rfl) (by kernel_rfl) (wnt_off rfl rfl rfl rfl rfl) ?_
      refine vd_skip 35 rfl rfl rfl (by kernel_rfl) (by kernel_rfl) (by kernel_rfl) (wnt_off rfl rfl rfl rfl rfl) ?_
      refine vd_light 36 rfl rfl rfl (by kernel_rfl) (by kernel_rfl) (by kernel_rfl) (wnt_none rfl) (lt_pick_t rfl) ?_
      refine vd_nil (by kernel_rfl) ?_
      refine hK7 _ ?_
      refine vc_cond_t rfl ?_
      refine vc_seq fun K8 hK8 => ?_
      refine vc_region ?_
      refine vo_assign_pv rfl rfl ?_
      refine vo_nil ?_
      refine hK8 _ ?_
      refine vc_ret ?_
      change retQ _ _ _ _ _
      refine retQ_sel [] (srows := []) (.inr rfl) hC rfl rfl rfl rfl rfl rfl rfl ?_
      refine ⟨?_, rfl⟩
      refine (congrArg (fun b => [bo b]) (?_ : _ = _) : [bo _] = [bo _])
      first
        | (exact bF fun h => ((nodup_anms_succ (by omega)).1 (nodup_anms_take (k+1) h.2.1)).2 ((findM_mem _ _ 0 (by omega)).1 (by omega)))
        | (refine bF fun h => ?_
           have h1 := h.2.2 _ (getD_mem (show k < list.length by omega) ⟨0, 0, 0⟩)
           unfold okAttr at h1; omega)
        | (rw [take_all (by omega)] at hf; exact decide_eq_decide.2 ⟨fun h => ⟨by simp at h; omega, hf.1, hf.2⟩, fun h => by have := h.1; simp; omega⟩)
    · try simp only [decide_eq_true_eq, decide_eq_false_iff_not, beq_iff_eq, bne_iff_ne, beq_eq_false_iff_ne, bne_eq_false_iff_eq, Bool.not_eq_true, Bool.not_eq_false, Bool.not_eq_eq_eq_not, Bool.not_true, Bool.not_false, List.length_map, Int.not_lt, Int.not_le, ne_eq, Decidable.not_not] at hg2
      refine vd_light 11 rfl rfl rfl (by kernel_rfl) (by kernel_rfl) (by kernel_rfl) (wnt_on rfl rfl rfl rfl) (lt_move_pv rfl) ?_
      refine vd_light 12 rfl rfl rfl (by kernel_rfl) (by kernel_rfl) (by kernel_rfl) (wnt_on rfl rfl rfl rfl) (lt_move_pv rfl) ?_
      refine vd_light 13 rfl rfl rfl (by kernel_rfl) (by kernel_rfl) (by kernel_rfl) (wnt_on rfl rfl rfl rfl) (lt_index_pv (.agg [(.int .i64 0), (.int .i64 0), (.int .i64 0)]) rfl rfl E52.und inf37 sz37 sd sd) ?_
      simp only [Int.toNat_natCast, Int.toNat_zero, getD_ints, getD_intss, getD_bools, getD_bytes, PV.cells, getD_ops, getD_pairs, getD_insts, getD_attrs, getD_attrss, getD_objs]
      refine vd_light 14 rfl rfl rfl (by kernel_rfl) (by kernel_rfl) (by kernel_rfl) (wnt_on rfl rfl rfl rfl) (lt_fieldAddr_adr rfl Try.underlying37 rfl inf3 (by rw [sz3]; decide)) ?_
      refine vd_light 15 rfl rfl rfl (by kernel_rfl) (by kernel_rfl) (by kernel_rfl) (wnt_on rfl rfl rfl rfl) (lt_load_adr rfl Try.underlying3 rfl) ?_
      refine vd_call 16 rfl (by kernel_rfl) (wnt_on rfl rfl rfl rfl) Try.func29 rfl rfl rfl rfl inRange_sat ?_
      rintro _ _ ⟨rfl, rfl⟩
      refine ⟨rfl, rfl, .inl rfl, ?_⟩
      refine vd_stM ?_
      refine vd_light 17 rfl rfl rfl (by kernel_rfl) (by kernel_rfl) (by kernel_rfl) (wnt_on rfl rfl rfl rfl) (lt_not rfl) ?_
      refine vd_light 18 rfl rfl rfl (by kernel_rfl) (by kernel_rfl) (by kernel_rfl) (wnt_none rfl) (lt_pick_f rfl) ?_
      refine vd_light 19 rfl rfl rfl (by kernel_rfl) (by kernel_rfl) (by kernel_rfl) (wnt_none rfl) (lt_move_pv rfl) ?_
      refine vd_split 29 rfl (fun hg3 => ?_) (fun hg3 => ?_)
      · try simp only [decide_eq_true_eq, decide_eq_false_iff_not, beq_iff_eq, bne_iff_ne, beq_eq_false_iff_ne, bne_eq_false_iff_eq, Bool.not_eq_true, Bool.not_eq_false, Bool.not_eq_eq_eq_not, Bool.not_true, Bool.not_false, List.length_map, Int.not_lt, Int.not_le, ne_eq, Decidable.not_not] at hg3
        refine vd_skip 20 rfl rfl rfl (by kernel_rfl) (by kernel_rfl) (by kernel_rfl) (wnt_off rfl rfl rfl rfl rfl) ?_
        refine vd_skip 21 rfl rfl rfl (by kernel_rfl) (by kernel_rfl) (by kernel_rfl) (wnt_off rfl rfl rfl rfl rfl) ?_
        refine vd_skip 22 rfl rfl rfl (by kernel_rfl) (by kernel_rfl) (by kernel_rfl) (wnt_off rfl rfl rfl rfl rfl) ?_
        refine vd_skip 23 rfl rfl rfl (by kernel_rfl) (by kernel_rfl) (by kernel_rfl) (wnt_off rfl rfl rfl rfl rfl) ?_
        refine vd_skip 24 rfl rfl rfl (by kernel_rfl) (by kernel_rfl) (by kernel_rfl) (wnt_off rfl rfl rfl rfl rfl) ?_
        refine vd_skip 25 rfl rfl rfl (by kernel_rfl) (by kernel_rfl) (by kernel_rfl) (wnt_off rfl rfl rfl rfl rfl) ?_
        refine vd_skip 26 rfl rfl rfl (by kernel_rfl) (by kernel_rfl) (by kernel_rfl) (wnt_off rfl rfl rfl rfl rfl) ?_
        refine vd_light 27 rfl rfl rfl (by kernel_rfl) (by kernel_rfl) (by kernel_rfl) (wnt_none rfl) (lt_pick_t rfl) ?_
        refine vd_light 28 rfl rfl rfl (by kernel_rfl) (by kernel_rfl) (by kernel_rfl) (wnt_none rfl) (lt_move_pv rfl) ?_
        refine vd_skip 29 rfl rfl rfl (by kernel_rfl) (by kernel_rfl) (by kernel_rfl) (wnt_off rfl rfl rfl rfl rfl) ?_
        refine vd_skip 30 rfl rfl rfl (by kernel_rfl) (by kernel_rfl) (by kernel_rfl) (wnt_off rfl rfl rfl rfl rfl) ?_
        refine vd_skip 31 rfl rfl rfl (by kernel_rfl) (by kernel_rfl) (by kernel_rfl) (wnt_off rfl rfl rfl rfl rfl) ?_
        refine vd_skip 32 rfl rfl rfl (by kernel_rfl) (by kernel_rfl) (by kernel_rfl) (wnt_off rfl rfl rfl rfl rfl) ?_
        refine vd_skip 33 rfl rfl rfl (by kernel_rfl) (by kernel_rfl) (by kernel_rfl) (wnt_off rfl rfl rfl rfl rfl) ?_
        refine vd_skip 34 rfl rfl rfl (by kernel_rfl) (by kernel_rfl) (by kernel_rfl) (wnt_off rfl rfl rfl rfl rfl) ?_
        refine vd_skip 35 rfl rfl rfl (by kernel_rfl) (by kernel_rfl) (by kernel_rfl) (wnt_off rfl rfl rfl rfl rfl) ?_
        refine vd_light 36 rfl rfl rfl (by kernel_rfl) (by kernel_rfl) (by kernel_rfl) (wnt_none rfl) (lt_pick_t rfl) ?_
        refine vd_nil (by kernel_rfl) ?_
        refine hK7 _ ?_
        refine vc_cond_t rfl ?_
        refine vc_seq fun K9 hK9 => ?_
        refine vc_region ?_
        refine vo_assign_pv rfl rfl ?_
        refine vo_nil ?_
        refine hK9 _ ?_
        refine vc_ret ?_
        change retQ _ _ _ _ _
        refine retQ_sel [] (srows := []) (.inr rfl) hC rfl rfl rfl rfl rfl rfl rfl ?_
        refine ⟨?_, rfl⟩
        refine (congrArg (fun b => [bo b]) (?_ : _ = _) : [bo _] = [bo _])
        first
          | (exact bF fun h => ((nodup_anms_succ (by omega)).1 (nodup_anms_take (k+1) h.2.1)).2 ((findM_mem _ _ 0 (by omega)).1 (by omega)))
          | (refine bF fun h => ?_
             have h1 := h.2.2 _ (getD_mem (show k < list.length by omega) ⟨0, 0, 0⟩)
             unfold okAttr at h1; omega)
          | (rw [take_all (by omega)] at hf; exact decide_eq_decide.2 ⟨fun h => ⟨by simp at h; omega, hf.1, hf.2⟩, fun h => by have := h.1; simp; omega⟩)
      · try simp only [decide_eq_true_eq, decide_eq_false_iff_not, beq_iff_eq, bne_iff_ne, beq_eq_false_iff_ne, bne_eq_false_iff_eq, Bool.not_eq_true, Bool.not_eq_false, Bool.not_eq_eq_eq_not, Bool.not_true, Bool.not_false, List.length_map, Int.not_lt, Int.not_le, ne_eq, Decidable.not_not] at hg3
        refine vd_light 20 rfl rfl rfl (by kernel_rfl) (by kernel_rfl) (by kernel_rfl) (wnt_on rfl rfl rfl rfl) (lt_move_pv rfl) ?_
        refine vd_light 21 rfl rfl rfl (by kernel_rfl) (by kernel_rfl) (by kernel_rfl) (wnt_on rfl rfl rfl rfl) (lt_move_pv rfl) ?_
        refine vd_light 22 rfl rfl rfl (by kernel_rfl) (by kernel_rfl) (by kernel_rfl) (wnt_on rfl rfl rfl rfl) (lt_index_pv (.agg [(.int .i64 0), (.int .i64 0), (.int .i64 0)]) rfl rfl E52.und inf37 sz37 sd sd) ?_
        simp only [Int.toNat_natCast, Int.toNat_zero, getD_ints, getD_intss, getD_bools, getD_bytes, PV.cells, getD_ops, getD_pairs, getD_insts, getD_attrs, getD_attrss, getD_objs]
        refine vd_light 23 rfl rfl rfl (by kernel_rfl) (by kernel_rfl) (by kernel_rfl) (wnt_on rfl rfl rfl rfl) (lt_fieldAddr_adr rfl Try.underlying37 rfl inf3 (by rw [sz3]; decide)) ?_
        refine vd_light 24 rfl rfl rfl (by kernel_rfl) (by kernel_rfl) (by kernel_rfl) (wnt_on rfl rfl rfl rfl) (lt_load_adr rfl Try.underlying3 rfl) ?_
        refine vd_call 25 rfl (by kernel_rfl) (wnt_on rfl rfl rfl rfl) Try.func29 rfl rfl rfl rfl inRange_sat ?_
        rintro _ _ ⟨rfl, rfl⟩
        refine ⟨rfl, rfl, .inl rfl, ?_⟩
        refine vd_stM ?_
        refine vd_light 26 rfl rfl rfl (by kernel_rfl) (by kernel_rfl) (by kernel_rfl) (wnt_on rfl rfl rfl rfl) (lt_not rfl) ?_
        refine vd_light 27 rfl rfl rfl (by kernel_rfl) (by kernel_rfl) (by kernel_rfl) (wnt_none rfl) (lt_pick_f rfl) ?_
        refine vd_light 28 rfl rfl rfl (by kernel_rfl) (by kernel_rfl) (by kernel_rfl) (wnt_none rfl) (lt_move_pv rfl) ?_
        refine vd_split 38 rfl (fun hg4 => ?_) (fun hg4 => ?_)
        · try simp only [decide_eq_true_eq, decide_eq_false_iff_not, beq_iff_eq, bne_iff_ne, beq_eq_false_iff_ne, bne_eq_false_iff_eq, Bool.not_eq_true, Bool.not_eq_false, Bool.not_eq_eq_eq_not, Bool.not_true, Bool.not_false, List.length_map, Int.not_lt, Int.not_le, ne_eq, Decidable.not_not] at hg4
          refine vd_skip 29 rfl rfl rfl (by kernel_rfl) (by kernel_rfl) (by kernel_rfl) (wnt_off rfl rfl rfl rfl rfl) ?_
          refine vd_skip 30 rfl rfl rfl (by kernel_rfl) (by kernel_rfl) (by kernel_rfl) (wnt_off rfl rfl rfl rfl rfl) ?_
          refine vd_skip 31 rfl rfl rfl (by kernel_rfl) (by kernel_rfl) (by kernel_rfl) (wnt_off rfl rfl rfl rfl rfl) ?_
          refine vd_skip 32 rfl rfl rfl (by kernel_rfl) (by kernel_rfl) (by kernel_rfl) (wnt_off rfl rfl rfl rfl rfl) ?_
          refine vd_skip 33 rfl rfl rfl (by kernel_rfl) (by kernel_rfl) (by kernel_rfl) (wnt_off rfl rfl rfl rfl rfl) ?_
          refine vd_skip 34 rfl rfl rfl (by kernel_rfl) (by kernel_rfl) (by kernel_rfl) (wnt_off rfl rfl rfl rfl rfl) ?_
          refine vd_skip 35 rfl rfl rfl (by kernel_rfl) (by kernel_rfl) (by kernel_rfl) (wnt_off rfl rfl rfl rfl rfl) ?_
          refine vd_light 36 rfl rfl rfl (by kernel_rfl) (by kernel_rfl) (by kernel_rfl) (wnt_none rfl) (lt_pick_t rfl) ?_
          refine vd_nil (by kernel_rfl) ?_
          refine hK7 _ ?_
          refine vc_cond_t rfl ?_
          refine vc_seq fun K10 hK10 => ?_
          refine vc_region ?_
          refine vo_assign_pv rfl rfl ?_
          refine vo_nil ?_
          refine hK10 _ ?_
          refine vc_ret ?_
          change retQ _ _ _ _ _
          refine retQ_sel [] (srows := []) (.inr rfl) hC rfl rfl rfl rfl rfl rfl rfl ?_
          refine ⟨?_, rfl⟩
          refine (congrArg (fun b => [bo b]) (?_ : _ = _) : [bo _] = [bo _])
          first
            | (exact bF fun h => ((nodup_anms_succ (by omega)).1 (nodup_anms_take (k+1) h.2.1)).2 ((findM_mem _ _ 0 (by omega)).1 (by omega)))
            | (refine bF fun h => ?_
               have h1 := h.2.2 _ (getD_mem (show k < list.length by omega) ⟨0, 0, 0⟩)
               unfold okAttr at h1; omega)
            | (rw [take_all (by omega)] at hf; exact decide_eq_decide.2 ⟨fun h => ⟨by simp at h; omega, hf.1, hf.2⟩, fun h => by have := h.1; simp; omega⟩)
        · try simp only [decide_eq_true_eq, decide_eq_false_iff_not, beq_iff_eq, bne_iff_ne, beq_eq_false_iff_ne, bne_eq_false_iff_eq, Bool.not_eq_true, Bool.not_eq_false, Bool.not_eq_eq_eq_not, Bool.not_true, Bool.not_false, List.length_map, Int.not_lt, Int.not_le, ne_eq, Decidable.not_not] at hg4
          refine vd_light 29 rfl rfl rfl (by kernel_rfl) (by kernel_rfl) (by kernel_rfl) (wnt_on rfl rfl rfl rfl) (lt_move_pv rfl) ?_
          refine vd_light 30 rfl rfl rfl (by kernel_rfl) (by kernel_rfl) (by kernel_rfl) (wnt_on rfl rfl rfl rfl) (lt_move_pv rfl) ?_
          refine vd_light 31 rfl rfl rfl (by kernel_rfl) (by kernel_rfl) (by kernel_rfl) (wnt_on rfl rfl rfl rfl) (lt_index_pv (.agg [(.int .i64 0), (.int .i64 0), (.int .i64 0)]) rfl rfl E52.und inf37 sz37 sd sd) ?_
          simp only [Int.toNat_natCast, Int.toNat_zero, getD_ints, getD_intss, getD_bools, getD_bytes, PV.cells, getD_ops, getD_pairs, getD_insts, getD_attrs, getD_attrss, getD_objs]
          refine vd_light 32 rfl rfl rfl (by kernel_rfl) (by kernel_rfl) (by kernel_rfl) (wnt_on rfl rfl rfl rfl) (lt_fieldAddr_adr rfl Try.underlying37 rfl inf3 (by rw [sz3]; decide)) ?_
          refine vd_light 33 rfl rfl rfl (by kernel_rfl) (by kernel_rfl) (by kernel_rfl) (wnt_on rfl rfl rfl rfl) (lt_load_adr rfl Try.underlying3 rfl) ?_
          refine vd_call 34 rfl (by kernel_rfl) (wnt_on rfl rfl rfl rfl) Try.func29 rfl rfl rfl rfl inRange_sat ?_
          rintro _ _ ⟨rfl, rfl⟩
          refine ⟨rfl, rfl, .inl rfl, ?_⟩
          refine vd_stM ?_
          refine vd_light 35 rfl rfl rfl (by kernel_rfl) (by kernel_rfl) (by kernel_rfl) (wnt_on rfl rfl rfl rfl) (lt_not rfl) ?_
          refine vd_light 36 rfl rfl rfl (by kernel_rfl) (by kernel_rfl) (by kernel_rfl) (wnt_none rfl) (lt_pick_f rfl) ?_
          refine vd_nil (by kernel_rfl) ?_
          refine hK7 _ ?_
          refine vc_cond rfl (fun hc5 => ?_) (fun hc5 => ?_)
          · try simp only [decide_eq_true_eq, decide_eq_false_iff_not, beq_iff_eq, bne_iff_ne, beq_eq_false_iff_ne, bne_eq_false_iff_eq, Bool.not_eq_true, Bool.not_eq_false, Bool.not_eq_eq_eq_not, Bool.not_true, Bool.not_false, List.length_map, Int.not_lt, Int.not_le, ne_eq, Decidable.not_not] at hc5
            refine vc_seq fun K11 hK11 => ?_
            refine vc_region ?_
            refine vo_assign_pv rfl rfl ?_
            refine vo_nil ?_
            refine hK11 _ ?_
            refine vc_ret ?_
            change retQ _ _ _ _ _
            refine retQ_sel [] (srows := []) (.inr rfl) hC rfl rfl rfl rfl rfl rfl rfl ?_
            refine ⟨?_, rfl⟩
            refine (congrArg (fun b => [bo b]) (?_ : _ = _) : [bo _] = [bo _])
            first
              | (exact bF fun h => ((nodup_anms_succ (by omega)).1 (nodup_anms_take (k+1) h.2.1)).2 ((findM_mem _ _ 0 (by omega)).1 (by omega)))
              | (refine bF fun h => ?_
                 have h1 := h.2.2 _ (getD_mem (show k < list.length by omega) ⟨0, 0, 0⟩)
                 unfold okAttr at h1; omega)
              | (rw [take_all (by omega)] at hf; exact decide_eq_decide.2 ⟨fun h => ⟨by simp at h; omega, hf.1, hf.2⟩, fun h => by have := h.1; simp; omega⟩)
          · try simp only [decide_eq_true_eq, decide_eq_false_iff_not, beq_iff_eq, bne_iff_ne, beq_eq_false_iff_ne, bne_eq_false_iff_eq, Bool.not_eq_true, Bool.not_eq_false, Bool.not_eq_eq_eq_not, Bool.not_true, Bool.not_false, List.length_map, Int.not_lt, Int.not_le, ne_eq, Decidable.not_not] at hc5
            refine vc_skip ?_
            refine hK6 _ ?_
            refine vc_region ?_
            refine vo_move_pv rfl rfl ?_
            refine vo_binI rfl rfl rfl rfl sd ?_
            refine vo_assign_pv rfl rfl ?_
            refine vo_nil ?_
            change againE _ _ _ _ _ _ _ _ _ _
            refine againE_mk rfl rfl rfl rfl rfl rfl ⟨_, ?_, k + 1, rfl, ?_, ?_, rfl, rfl⟩
            · omega
            · omega
            · exact ⟨(nodup_anms_succ (by omega)).2 ⟨hf.1, (findM_not _ _ 0 (by omega)).1 (by omega)⟩, (all_take_succ (by omega) ⟨0, 0, 0⟩).2 ⟨hf.2, by unfold okAttr; omega⟩⟩
  · try simp only [decide_eq_true_eq, decide_eq_false_iff_not, beq_iff_eq, bne_iff_ne, beq_eq_false_iff_ne, bne_eq_false_iff_eq, Bool.not_eq_true, Bool.not_eq_false, Bool.not_eq_eq_eq_not, Bool.not_true, Bool.not_false, List.length_map, Int.not_lt, Int.not_le, ne_eq, Decidable.not_not] at hc1
    refine vc_exit ?_
    refine hK2 _ ?_
    refine vc_seq fun K12 hK12 => ?_
    refine vc_region ?_
    refine vo_move_pv rfl rfl ?_
    refine vo_len_pv rfl rfl Try.underlying52 ?_
    refine vo_binI rfl rfl rfl rfl trivial ?_
    refine vo_assign_pv rfl rfl ?_
    refine vo_nil ?_
    refine hK12 _ ?_
    refine vc_ret ?_
    change retQ _ _ _ _ _
    refine retQ_sel [] (srows := []) (.inr rfl) hC rfl rfl rfl rfl rfl rfl rfl ?_
    refine ⟨?_, rfl⟩
    refine (congrArg (fun b => [bo b]) (?_ : _ = _) : [bo _] = [bo _])
    first
      | (exact bF fun h => ((nodup_anms_succ (by omega)).1 (nodup_anms_take (k+1) h.2.1)).2 ((findM_mem _ _ 0 (by omega)).1 (by omega)))
      | (refine bF fun h => ?_
         have h1 := h.2.2 _ (getD_mem (show k < list.length by omega) ⟨0, 0, 0⟩)
         unfold okAttr at h1; omega)
      | (rw [take_all (by omega)] at hf; exact decide_eq_decide.2 ⟨fun h => ⟨by simp at h; omega, hf.1, hf.2⟩, fun h => by have := h.1; simp; omega⟩)


theorem validPairs_sat {nl0 : Option Bool} {list : List (Int × Int)} (hlist : list.length < 1000000000)  : SatAt Try.prog 44 [.pv false (.sl nl0 2 (list.map pairP))] [] (fun res rows => res = [bo (decide (∀ p ∈ list, okPair p))] ∧ rows = []) := by
  refine sat_entry_G (rs := [(2, none)]) Try.func44 rfl rfl (Nat.le_of_ble_eq_true rfl) (Nat.le_of_ble_eq_true rfl) (resTs1 trivial) fun C hC => ?_
  rw [Try.ntmps44]
  replace hC : C.nb = 0 := hC
  refine vc_seq fun K1 hK1 => ?_
  refine vc_region ?_
  refine vo_assign_pv rfl rfl ?_
  refine vo_nil ?_
  refine hK1 _ ?_
  refine vc_seq fun K2 hK2 => ?_
  refine vc_seq fun K3 hK3 => ?_
  refine vc_region ?_
  refine vo_assign_pv rfl rfl ?_
  refine vo_nil ?_
  refine hK3 _ ?_
  refine vc_block ?_
  refine vc_stM ?_
  refine vc_loopE [0] [3] [] _ _ (fun mz vs rs => ∃ (k : Nat), mz = list.length - k ∧ (k ≤ list.length) ∧ (∀ p ∈ list.take k, okPair p) ∧ vs = [i64 k] ∧ rs = []) (list.length) rfl rfl (le_len hC rfl) ⟨rfl, rfl, rfl⟩ rfl ⟨0, rfl, Nat.zero_le _, (by simp), rfl, rfl⟩ ?_
  rintro mz vs rs - - ⟨k, rfl, hk, hf, rfl, rfl⟩
  refine vc_stM ?_
  refine vc_seq fun K4 hK4 => ?_
  refine vc_seq fun K5 hK5 => ?_
  refine vc_region ?_
  refine vo_move_pv rfl rfl ?_
  refine vo_move_pv rfl rfl ?_
  refine vo_len_pv rfl rfl Try.underlying54 ?_
  refine vo_binI rfl rfl rfl rfl trivial ?_
  refine vo_nil ?_
  refine hK5 _ ?_
  refine vc_cond rfl (fun hc1 => ?_) (fun hc1 => ?_)
  · try simp only [decide_eq_true_eq, decide_eq_false_iff_not, beq_iff_eq, bne_iff_ne, beq_eq_false_iff_ne, bne_eq_false_iff_eq, Bool.not_eq_true, Bool.not_eq_false, Bool.not_eq_eq_eq_not, Bool.not_true, Bool.not_false, List.length_map, Int.not_lt, Int.not_le, ne_eq, Decidable.not_not] at hc1
    refine vc_skip ?_
    refine hK4 _ ?_
    refine vc_seq fun K6 hK6 => ?_
    refine vc_block ?_
    refine vc_seq fun K7 hK7 => ?_
    refine vc_region ?_
    refine vo_move_pv rfl rfl ?_
    refine vo_move_pv rfl rfl ?_
    refine vo_index_pv (.agg [(.int .i64 0), (.int .i64 0)]) rfl rfl rfl E54.und inf84 sz84 sd sd ?_
    simp only [Int.toNat_natCast, Int.toNat_zero, getD_ints, getD_intss, getD_bools, getD_bytes, PV.cells, getD_ops, getD_pairs, getD_insts, getD_attrs, getD_attrss, getD_objs]
    refine vo_fieldAddr_adr rfl rfl Try.underlying84 rfl inf3 (by rw [sz3]; decide) ?_
    refine vo_load_adr rfl rfl Try.underlying3 rfl ?_
    refine vo_call0 Try.func29 rfl rfl rfl rfl inRange_sat ?_
    rintro _ _ ⟨rfl, rfl⟩
    refine ⟨rfl, rfl, .inl rfl, ?_⟩
    refine vo_stM ?_
    refine vo_not rfl rfl ?_
    refine vo_move_pv rfl rfl ?_
    refine vo_split 17 rfl (fun hg2 => ?_) (fun hg2 => ?_)
    · try simp only [decide_eq_true_eq, decide_eq_false_iff_not, beq_iff_eq, bne_iff_ne, beq_eq_false_iff_ne, bne_eq_false_iff_eq, Bool.not_eq_true, Bool.not_eq_false, Bool.not_eq_eq_eq_not, Bool.not_true, Bool.not_false, List.length_map, Int.not_lt, Int.not_le, ne_eq, Decidable.not_not] at hg2
      refine vo_guard_off rfl rfl rfl rfl rfl ?_
      refine vo_guard_off rfl rfl rfl rfl rfl ?_
      refine vo_guard_off rfl rfl rfl rfl rfl ?_
      refine vo_guard_off rfl rfl rfl rfl rfl ?_
      refine vo_guard_off rfl rfl rfl rfl rfl ?_
      refine vo_guard_off rfl rfl rfl rfl rfl ?_
      refine vo_guard_off rfl rfl rfl rfl rfl ?_
      refine vo_pick_t rfl rfl ?_
      refine vo_nil ?_
      refine hK7 _ ?_
      refine vc_cond_t rfl ?_
      refine vc_seq fun K8 hK8 => ?_
      refine vc_region ?_
      refine vo_assign_pv rfl rfl ?_
      refine vo_nil ?_
      refine hK8 _ ?_
      refine vc_ret ?_
      change retQ _ _ _ _ _
      refine retQ_sel [] (srows := []) (.inr rfl) hC rfl rfl rfl rfl rfl rfl rfl ?_
      refine ⟨?_, rfl⟩
      refine (congrArg (fun b => [bo b]) (?_ : _ = _) : [bo _] = [bo _])
      first
        | (refine bF fun h => ?_
           have h1 := h _ (getD_mem (show k < list.length by omega) (0, 0))
           unfold okPair at h1; omega)
        | (rw [take_all (by omega)] at hf; exact bT hf)
    · try simp only [decide_eq_true_eq, decide_eq_false_iff_not, beq_iff_eq, bne_iff_ne, beq_eq_false_iff_ne, bne_eq_false_iff_eq, Bool.not_eq_true, Bool.not_eq_false, Bool.not_eq_eq_eq_not, Bool.not_true, Bool.not_false, List.length_map, Int.not_lt, Int.not_le, ne_eq, Decidable.not_not] at hg2
      refine vo_guard_on rfl rfl rfl ?_
      refine vo_move_pv rfl rfl ?_
      refine vo_guard_on rfl rfl rfl ?_
      refine vo_move_pv rfl rfl ?_
      refine vo_guard_on rfl rfl rfl ?_
      refine vo_index_pv (.agg [(.int .i64 0), (.int .i64 0)]) rfl rfl rfl E54.und inf84 sz84 sd sd ?_
      simp only [Int.toNat_natCast, Int.toNat_zero, getD_ints, getD_intss, getD_bools, getD_bytes, PV.cells, getD_ops, getD_pairs, getD_insts, getD_attrs, getD_attrss, getD_objs]
      refine vo_guard_on rfl rfl rfl ?_
      refine vo_fieldAddr_adr rfl rfl Try.underlying84 rfl inf3 (by rw [sz3]; decide) ?_
      refine vo_guard_on rfl rfl rfl ?_
      refine vo_load_adr rfl rfl Try.underlying3 rfl ?_
      refine vo_guard_on rfl rfl rfl ?_
      refine vo_call0 Try.func29 rfl rfl rfl rfl inRange_sat ?_
      rintro _ _ ⟨rfl, rfl⟩
      refine ⟨rfl, rfl, .inl rfl, ?_⟩
      refine vo_stM ?_
      refine vo_guard_on rfl rfl rfl ?_
      refine vo_not rfl rfl ?_
      refine vo_pick_f rfl rfl ?_
      refine vo_nil ?_
      refine hK7 _ ?_
      refine vc_cond rfl (fun hc3 => ?_) (fun hc3 => ?_)
      · try simp only [decide_eq_true_eq, decide_eq_false_iff_not, beq_iff_eq, bne_iff_ne, beq_eq_false_iff_ne, bne_eq_false_iff_eq, Bool.not_eq_true, Bool.not_eq_false, Bool.not_eq_eq_eq_not, Bool.not_true, Bool.not_false, List.length_map, Int.not_lt, Int.not_le, ne_eq, Decidable.not_not] at hc3
        refine vc_seq fun K9 hK9 => ?_
        refine vc_region ?_
        refine vo_assign_pv rfl rfl ?_
        refine vo_nil ?_
        refine hK9 _ ?_
        refine vc_ret ?_
        change retQ _ _ _ _ _
        refine retQ_sel [] (srows := []) (.inr rfl) hC rfl rfl rfl rfl rfl rfl rfl ?_
        refine ⟨?_, rfl⟩
        refine (congrArg (fun b => [bo b]) (?_ : _ = _) : [bo _] = [bo _])
        first
          | (refine bF fun h => ?_
             have h1 := h _ (getD_mem (show k < list.length by omega) (0, 0))
             unfold okPair at h1; omega)
          | (rw [take_all (by omega)] at hf; exact bT hf)
      · try simp only [decide_eq_true_eq, decide_eq_false_iff_not, beq_iff_eq, bne_iff_ne, beq_eq_false_iff_ne, bne_eq_false_iff_eq, Bool.not_eq_true, Bool.not_eq_false, Bool.not_eq_eq_eq_not, Bool.not_true, Bool.not_false, List.length_map, Int.not_lt, Int.not_le, ne_eq, Decidable.not_not] at hc3
        refine vc_skip ?_
        refine hK6 _ ?_
        refine vc_region ?_
        refine vo_move_pv rfl rfl ?_
        refine vo_binI rfl rfl rfl rfl sd ?_
        refine vo_assign_pv rfl rfl ?_
        refine vo_nil ?_
        change againE _ _ _ _ _ _ _ _ _ _
        refine againE_mk rfl rfl rfl rfl rfl rfl ⟨_, ?_, k + 1, rfl, ?_, ?_, rfl, rfl⟩
        · omega
        · omega
        · exact (all_take_succ (by omega) (0, 0)).2 ⟨hf, by unfold okPair; omega⟩
  · try simp only [decide_eq_true_eq, decide_eq_false_iff_not, beq_iff_eq, bne_iff_ne, beq_eq_false_iff_ne, bne_eq_false_iff_eq, Bool.not_eq_true, Bool.not_eq_false, Bool.not_eq_eq_eq_not, Bool.not_true, Bool.not_false, List.length_map, Int.not_lt, Int.not_le, ne_eq, Decidable.not_not] at hc1
    refine vc_exit ?_
    refine hK2 _ ?_
    refine vc_seq fun K10 hK10 => ?_
    refine vc_region ?_
    refine vo_assign_pv rfl rfl ?_
    refine vo_nil ?_
    refine hK10 _ ?_
    refine vc_ret ?_
    change retQ _ _ _ _ _
    refine retQ_sel [] (srows := []) (.inr rfl) hC rfl rfl rfl rfl rfl rfl rfl ?_
    refine ⟨?_, rfl⟩
    refine (congrArg (fun b => [bo b]) (?_ : _ = _) : [bo _] = [bo _])
    first
      | (refine bF fun h => ?_
         have h1 := h _ (getD_mem (show k < list.length by omega) (0, 0))
         unfold okPair at h1; omega)
      | (rw [take_all (by omega)] at hf; exact bT hf)

end Go.Vl


namespace Go.Vl
set_option linter.unusedVariables false
set_option linter.unusedSimpArgs false
open Go.Proofs

theorem implValidWorld_sat {w : WorldM}  (hw : SW w) : SatAt Try.prog 9 [.pv false (worldP w)] [] (fun res rows => res = [bo (decide (VWorld w))] ∧ rows = []) := by
  obtain ⟨⟨b1, b2⟩, ⟨a1, a2⟩, o1, o2⟩ := hw
  refine sat_entry_G (rs := [(2, none)]) Try.func9 rfl rfl (Nat.le_of_ble_eq_true rfl) (Nat.le_of_ble_eq_true rfl) (resTs1 trivial) fun C hC => ?_
  rw [Try.ntmps9]
  replace hC : C.nb = 0 := hC
  refine vc_seq fun K1 hK1 => ?_
  refine vc_region ?_
  refine vo_box rfl rfl ?_
  refine vo_stM ?_
  refine vo_assign_pv rfl rfl ?_
  refine vo_nil ?_
  refine hK1 _ ?_
  refine vc_seq fun K2 hK2 => ?_
  refine vc_seq fun K3 hK3 => ?_
  refine vc_region ?_
  refine vo_fieldAddr_ptr rfl rfl Try.underlying32 rfl inf22 (by rw [sz22]; decide) ?_
  try simp only [Nat.zero_add]
  refine vo_load_var rfl rfl rfl Try.underlying22 rfl rfl ?_
  refine vo_call0 Try.func15 rfl rfl rfl rfl (implAllOrders_sat (by omega) (fun l hl => by have := b2 l hl; omega)) ?_
  rintro _ _ ⟨rfl, rfl⟩
  refine ⟨rfl, rfl, .inl rfl, ?_⟩
  refine vo_stM ?_
  refine vo_not rfl rfl ?_
  refine vo_move_pv rfl rfl ?_
  refine vo_split 11 rfl (fun hg1 => ?_) (fun hg1 => ?_)
  · try simp only [decide_eq_true_eq, decide_eq_false_iff_not, beq_iff_eq, bne_iff_ne, beq_eq_false_iff_ne, bne_eq_false_iff_eq, Bool.not_eq_true, Bool.not_eq_false, Bool.not_eq_eq_eq_not, Bool.not_true, Bool.not_false, List.length_map, Int.not_lt, Int.not_le, ne_eq, Decidable.not_not] at hg1
    refine vo_guard_off rfl rfl rfl rfl rfl ?_
    refine vo_guard_off rfl rfl rfl rfl rfl ?_
    refine vo_guard_off rfl rfl rfl rfl rfl ?_
    refine vo_guard_off rfl rfl rfl rfl rfl ?_
    refine vo_guard_off rfl rfl rfl rfl rfl ?_
    refine vo_guard_off rfl rfl rfl rfl rfl ?_
    refine vo_guard_off rfl rfl rfl rfl rfl ?_
    refine vo_pick_t rfl rfl ?_
    refine vo_move_pv rfl rfl ?_
    refine vo_guard_off rfl rfl rfl rfl rfl ?_
    refine vo_guard_off rfl rfl rfl rfl rfl ?_
    refine vo_guard_off rfl rfl rfl rfl rfl ?_
    refine vo_guard_off rfl rfl rfl rfl rfl ?_
    refine vo_pick_t rfl rfl ?_
    refine vo_nil ?_
    refine hK3 _ ?_
    refine vc_cond_t rfl ?_
    refine vc_seq fun K4 hK4 => ?_
    refine vc_region ?_
    refine vo_assign_pv rfl rfl ?_
    refine vo_nil ?_
    refine hK4 _ ?_
    refine vc_ret ?_
    change retQ _ _ _ _ _
    refine retQ_sel [] (srows := []) (.inr rfl) hC rfl rfl rfl rfl rfl rfl rfl ?_
    refine ⟨?_, rfl⟩
    refine (congrArg (fun b => [bo b]) (?_ : _ = _) : [bo _] = [bo _])
    first
      | (refine bF fun h0 => ?_
         have h1 := h0.2.1; have h2 := h0.2.2.1
         first
           | omega
           | exact absurd h0.1 (by assumption)
           | exact absurd h0.1.1 (by assumption)
           | exact absurd h0.1.2 (by assumption)
           | exact absurd (h0.2.2.2.1 _ (getD_mem (show k < w.attrs.length by omega) [])) (by assumption)
           | (have h3 := h0.2.2.2.2 _ (getD_mem (show k < w.objs.length by omega) ⟨0, []⟩)
              unfold okObj at h3
              have h4 := h3.2.1
              first
                | omega
                | exact absurd h3.2.2 (by assumption)
                | exact absurd h3.2.2.2 (by assumption)
                | exact absurd (⟨by omega, h3.2.2.1⟩ : (w.objs.getD k ⟨0, []⟩).pairs.length ≤ 40 ∧ (nms (w.objs.getD k ⟨0, []⟩).pairs).Nodup) (by assumption)))
      | (rw [take_all (by omega)] at hf2
         rw [take_all (by omega)] at hf
         exact bT ⟨by first | assumption | exact ⟨hg1, hg2⟩, by omega, by omega, hf, hf2⟩)
  · try simp only [decide_eq_true_eq, decide_eq_false_iff_not, beq_iff_eq, bne_iff_ne, beq_eq_false_iff_ne, bne_eq_false_iff_eq, Bool.not_eq_true, Bool.not_eq_false, Bool.not_eq_eq_eq_not, Bool.not_true, Bool.not_false, List.length_map, Int.not_lt, Int.not_le, ne_eq, Decidable.not_not] at hg1
    refine vo_guard_on rfl rfl rfl ?_
    refine vo_fieldAddr_ptr rfl rfl Try.underlying32 rfl inf29 (by rw [sz29]; decide) ?_
    try simp only [Nat.zero_add]
    refine vo_guard_on rfl rfl rfl ?_
    refine vo_load_var rfl rfl rfl Try.underlying29 rfl rfl ?_
    refine vo_guard_on rfl rfl rfl ?_
    refine vo_len_pv rfl rfl Try.underlying29 ?_
    refine vo_guard_on rfl rfl rfl ?_
    refine vo_fieldAddr_ptr rfl rfl Try.underlying32 rfl inf22 (by rw [sz22]; decide) ?_
    try simp only [Nat.zero_add]
    refine vo_guard_on rfl rfl rfl ?_
    refine vo_load_var rfl rfl rfl Try.underlying22 rfl rfl ?_
    refine vo_guard_on rfl rfl rfl ?_
    refine vo_len_pv rfl rfl Try.underlying22 ?_
    refine vo_guard_on rfl rfl rfl ?_
    refine vo_binI rfl rfl rfl rfl trivial ?_
    refine vo_pick_f rfl rfl ?_
    refine vo_move_pv rfl rfl ?_
    refine vo_split 20 rfl (fun hg2 => ?_) (fun hg2 => ?_)
    · try simp only [decide_eq_true_eq, decide_eq_false_iff_not, beq_iff_eq, bne_iff_ne, beq_eq_false_iff_ne, bne_eq_false_iff_eq, Bool.not_eq_true, Bool.not_eq_false, Bool.not_eq_eq_eq_not, Bool.not_true, Bool.not_false, List.length_map, Int.not_lt, Int.not_le, ne_eq, Decidable.not_not] at hg2
      refine vo_guard_off rfl rfl rfl rfl rfl ?_
      refine vo_guard_off rfl rfl rfl rfl rfl ?_
      refine vo_guard_off rfl rfl rfl rfl rfl ?_
      refine vo_guard_off rfl rfl rfl rfl rfl ?_
      refine vo_pick_t rfl rfl ?_
      refine vo_nil ?_
      refine hK3 _ ?_
      refine vc_cond_t rfl ?_
      refine vc_seq fun K5 hK5 => ?_
      refine vc_region ?_
      refine vo_assign_pv rfl rfl ?_
      refine vo_nil ?_
      refine hK5 _ ?_
      refine vc_ret ?_
      change retQ _ _ _ _ _
      refine retQ_sel [] (srows := []) (.inr rfl) hC rfl rfl rfl rfl rfl rfl rfl ?_
      refine ⟨?_, rfl⟩
      refine (congrArg (fun b => [bo b]) (?_ : _ = _) : [bo _] = [bo _])
      first
        | (refine bF fun h0 => ?_
           have h1 := h0.2.1; have h2 := h0.2.2.1
           first
             | omega
             | exact absurd h0.1 (by assumption)
             | exact absurd h0.1.1 (by assumption)
             | exact absurd h0.1.2 (by assumption)
             | exact absurd (h0.2.2.2.1 _ (getD_mem (show k < w.attrs.length by omega) [])) (by assumption)
             | (have h3 := h0.2.2.2.2 _ (getD_mem (show k < w.objs.length by omega) ⟨0, []⟩)
                unfold okObj at h3
                have h4 := h3.2.1
                first
                  | omega
                  | exact absurd h3.2.2 (by assumption)
                  | exact absurd h3.2.2.2 (by assumption)
                  | exact absurd (⟨by omega, h3.2.2.1⟩ : (w.objs.getD k ⟨0, []⟩).pairs.length ≤ 40 ∧ (nms (w.objs.getD k ⟨0, []⟩).pairs).Nodup) (by assumption)))
        | (rw [take_all (by omega)] at hf2
           rw [take_all (by omega)] at hf
           exact bT ⟨by first | assumption | exact ⟨hg1, hg2⟩, by omega, by omega, hf, hf2⟩)
    · try simp only [decide_eq_true_eq, decide_eq_false_iff_not, beq_iff_eq, bne_iff_ne, beq_eq_false_iff_ne, bne_eq_false_iff_eq, Bool.not_eq_true, Bool.not_eq_false, Bool.not_eq_eq_eq_not, Bool.not_true, Bool.not_false, List.length_map, Int.not_lt, Int.not_le, ne_eq, Decidable.not_not] at hg2
      refine vo_guard_on rfl rfl rfl ?_
      refine vo_fieldAddr_ptr rfl rfl Try.underlying32 rfl inf30 (by rw [sz30]; decide) ?_
      try simp only [Nat.zero_add]
      refine vo_guard_on rfl rfl rfl ?_
      refine vo_load_var rfl rfl rfl Try.underlying30 rfl rfl ?_
      refine vo_guard_on rfl rfl rfl ?_
      refine vo_len_pv rfl rfl Try.underlying30 ?_
      refine vo_guard_on rfl rfl rfl ?_
      refine vo_binI rfl rfl rfl rfl trivial ?_
      refine vo_pick_f rfl rfl ?_
      refine vo_nil ?_
      refine hK3 _ ?_
      refine vc_cond rfl (fun hc3 => ?_) (fun hc3 => ?_)
      · try simp only [decide_eq_true_eq, decide_eq_false_iff_not, beq_iff_eq, bne_iff_ne, beq_eq_false_iff_ne, bne_eq_false_iff_eq, Bool.not_eq_true, Bool.not_eq_false, Bool.not_eq_eq_eq_not, Bool.not_true, Bool.not_false, List.length_map, Int.not_lt, Int.not_le, ne_eq, Decidable.not_not] at hc3
        refine vc_seq fun K6 hK6 => ?_
        refine vc_region ?_
        refine vo_assign_pv rfl rfl ?_
        refine vo_nil ?_
        refine hK6 _ ?_
        refine vc_ret ?_
        change retQ _ _ _ _ _
        refine retQ_sel [] (srows := []) (.inr rfl) hC rfl rfl rfl rfl rfl rfl rfl ?_
        refine ⟨?_, rfl⟩
        refine (congrArg (fun b => [bo b]) (?_ : _ = _) : [bo _] = [bo _])
        first
          | (refine bF fun h0 => ?_
             have h1 := h0.2.1; have h2 := h0.2.2.1
             first
               | omega
               | exact absurd h0.1 (by assumption)
               | exact absurd h0.1.1 (by assumption)
               | exact absurd h0.1.2 (by assumption)
               | exact absurd (h0.2.2.2.1 _ (getD_mem (show k < w.attrs.length by omega) [])) (by assumption)
               | (have h3 := h0.2.2.2.2 _ (getD_mem (show k < w.objs.length by omega) ⟨0, []⟩)
                  unfold okObj at h3
                  have h4 := h3.2.1
                  first
                    | omega
                    | exact absurd h3.2.2 (by assumption)
                    | exact absurd h3.2.2.2 (by assumption)
                    | exact absurd (⟨by omega, h3.2.2.1⟩ : (w.objs.getD k ⟨0, []⟩).pairs.length ≤ 40 ∧ (nms (w.objs.getD k ⟨0, []⟩).pairs).Nodup) (by assumption)))
          | (rw [take_all (by omega)] at hf2
             rw [take_all (by omega)] at hf
             exact bT ⟨by first | assumption | exact ⟨hg1, hg2⟩, by omega, by omega, hf, hf2⟩)
      · try simp only [decide_eq_true_eq, decide_eq_false_iff_not, beq_iff_eq, bne_iff_ne, beq_eq_false_iff_ne, bne_eq_false_iff_eq, Bool.not_eq_true, Bool.not_eq_false, Bool.not_eq_eq_eq_not, Bool.not_true, Bool.not_false, List.length_map, Int.not_lt, Int.not_le, ne_eq, Decidable.not_not] at hc3
        refine vc_skip ?_
        refine hK2 _ ?_
        refine vc_seq fun K7 hK7 => ?_
        refine vc_seq fun K8 hK8 => ?_
        refine vc_region ?_
        refine vo_fieldAddr_ptr rfl rfl Try.underlying32 rfl inf29 (by rw [sz29]; decide) ?_
        try simp only [Nat.zero_add]
        refine vo_load_var rfl rfl rfl Try.underlying29 rfl rfl ?_
        refine vo_len_pv rfl rfl Try.underlying29 ?_
        refine vo_move_pv rfl rfl ?_
        refine vo_nil ?_
        refine hK8 _ ?_
        refine vc_block ?_
        refine vc_stM ?_
        refine vc_loopE [1, 27, 28] [29] [] _ _ (fun mz vs rs => ∃ (k : Nat), mz = w.attrs.length - k ∧ (k ≤ w.attrs.length) ∧ (∀ l ∈ w.attrs.take k, AAttrs l) ∧ vs = [i64 k] ∧ rs = []) (w.attrs.length) rfl rfl (le_len hC rfl) ⟨rfl, rfl, rfl⟩ rfl ⟨0, rfl, Nat.zero_le _, (by simp), rfl, rfl⟩ ?_
        rintro mz vs rs - - ⟨k, rfl, hk, hf, rfl, rfl⟩
        refine vc_stM ?_
        have hak := (getD_all (p := fun l : List AttrM => l.length ≤ 2000000) a2 [] (by simp) k)
        refine vc_seq fun K9 hK9 => ?_
        refine vc_region ?_
        refine vo_binI rfl rfl rfl rfl trivial ?_
        refine vo_nil ?_
        refine hK9 _ ?_
        refine vc_seq fun K10 hK10 => ?_
        refine vc_cond rfl (fun hc4 => ?_) (fun hc4 => ?_)
        · try simp only [decide_eq_true_eq, decide_eq_false_iff_not, beq_iff_eq, bne_iff_ne, beq_eq_false_iff_ne, bne_eq_false_iff_eq, Bool.not_eq_true, Bool.not_eq_false, Bool.not_eq_eq_eq_not, Bool.not_true, Bool.not_false, List.length_map, Int.not_lt, Int.not_le, ne_eq, Decidable.not_not] at hc4
          refine vc_skip ?_
          refine hK10 _ ?_
          refine vc_seq fun K11 hK11 => ?_
          refine vc_block ?_
          refine vc_seq fun K12 hK12 => ?_
          refine vc_region ?_
          refine vo_index_pv (.sl none 3 []) rfl rfl rfl E29.und inf52 sz52 sd sd ?_
          simp only [Int.toNat_natCast, Int.toNat_zero, getD_ints, getD_intss, getD_bools, getD_bytes, PV.cells, getD_ops, getD_pairs, getD_insts, getD_attrs, getD_attrss, getD_objs]
          refine vo_load_adr rfl rfl Try.underlying52 rfl ?_
          refine vo_assign_pv rfl rfl ?_
          refine vo_nil ?_
          refine hK12 _ ?_
          refine vc_seq fun K13 hK13 => ?_
          refine vc_region ?_
          refine vo_move_pv rfl rfl ?_
          refine vo_call0 Try.func23 rfl rfl rfl rfl (areAttrs_sat (by omega)) ?_
          rintro _ _ ⟨rfl, rfl⟩
          refine ⟨rfl, rfl, .inl rfl, ?_⟩
          refine vo_stM ?_
          refine vo_not rfl rfl ?_
          refine vo_nil ?_
          refine hK13 _ ?_
          refine vc_cond rfl (fun hc5 => ?_) (fun hc5 => ?_)
          · try simp only [decide_eq_true_eq, decide_eq_false_iff_not, beq_iff_eq, bne_iff_ne, beq_eq_false_iff_ne, bne_eq_false_iff_eq, Bool.not_eq_true, Bool.not_eq_false, Bool.not_eq_eq_eq_not, Bool.not_true, Bool.not_false, List.length_map, Int.not_lt, Int.not_le, ne_eq, Decidable.not_not] at hc5
            refine vc_seq fun K14 hK14 => ?_
            refine vc_region ?_
            refine vo_assign_pv rfl rfl ?_
            refine vo_nil ?_
            refine hK14 _ ?_
            refine vc_ret ?_
            change retQ _ _ _ _ _
            refine retQ_sel [] (srows := []) (.inr rfl) hC rfl rfl rfl rfl rfl rfl rfl ?_
            refine ⟨?_, rfl⟩
            refine (congrArg (fun b => [bo b]) (?_ : _ = _) : [bo _] = [bo _])
            first
              | (refine bF fun h0 => ?_
                 have h1 := h0.2.1; have h2 := h0.2.2.1
                 first
                   | omega
                   | exact absurd h0.1 (by assumption)
                   | exact absurd h0.1.1 (by assumption)
                   | exact absurd h0.1.2 (by assumption)
                   | exact absurd (h0.2.2.2.1 _ (getD_mem (show k < w.attrs.length by omega) [])) (by assumption)
                   | (have h3 := h0.2.2.2.2 _ (getD_mem (show k < w.objs.length by omega) ⟨0, []⟩)
                      unfold okObj at h3
                      have h4 := h3.2.1
                      first
                        | omega
                        | exact absurd h3.2.2 (by assumption)
                        | exact absurd h3.2.2.2 (by assumption)
                        | exact absurd (⟨by omega, h3.2.2.1⟩ : (w.objs.getD k ⟨0, []⟩).pairs.length ≤ 40 ∧ (nms (w.objs.getD k ⟨0, []⟩).pairs).Nodup) (by assumption)))
              | (rw [take_all (by omega)] at hf2
                 rw [take_all (by omega)] at hf
                 exact bT ⟨by first | assumption | exact ⟨hg1, hg2⟩, by omega, by omega, hf, hf2⟩)
          · try simp only [decide_eq_true_eq, decide_eq_false_iff_not, beq_iff_eq, bne_iff_ne, beq_eq_false_iff_ne, bne_eq_false_iff_eq, Bool.not_eq_true, Bool.not_eq_false, Bool.not_eq_eq_eq_not, Bool.not_true, Bool.not_false, List.length_map, Int.not_lt, Int.not_le, ne_eq, Decidable.not_not] at hc5
            refine vc_skip ?_
            refine hK11 _ ?_
            refine vc_region ?_
            refine vo_binI rfl rfl rfl rfl sd ?_
            refine vo_move_pv rfl rfl ?_
            refine vo_nil ?_
            change againE _ _ _ _ _ _ _ _ _ _
            refine againE_mk rfl rfl rfl rfl rfl rfl ⟨_, ?_, k + 1, rfl, ?_, ?_, rfl, rfl⟩
            · omega
            · omega
            · exact (all_take_succ (by omega) []).2 ⟨hf, by assumption⟩
        · try simp only [decide_eq_true_eq, decide_eq_false_iff_not, beq_iff_eq, bne_iff_ne, beq_eq_false_iff_ne, bne_eq_false_iff_eq, Bool.not_eq_true, Bool.not_eq_false, Bool.not_eq_eq_eq_not, Bool.not_true, Bool.not_false, List.length_map, Int.not_lt, Int.not_le, ne_eq, Decidable.not_not] at hc4
          refine vc_exit ?_
          refine hK7 _ ?_
          refine vc_seq fun K15 hK15 => ?_
          refine vc_seq fun K16 hK16 => ?_
          refine vc_region ?_
          refine vo_fieldAddr_ptr rfl rfl Try.underlying32 rfl inf30 (by rw [sz30]; decide) ?_
          try simp only [Nat.zero_add]
          refine vo_load_var rfl rfl rfl Try.underlying30 rfl rfl ?_
          refine vo_len_pv rfl rfl Try.underlying30 ?_
          refine vo_move_pv rfl rfl ?_
          refine vo_nil ?_
          refine hK16 _ ?_
          refine vc_block ?_
          refine vc_stM ?_
          refine vc_loopE [1, 38, 39] [40] [] _ _ (fun mz vs rs => ∃ (k : Nat), mz = w.objs.length - k ∧ (k ≤ w.objs.length) ∧ (∀ o ∈ w.objs.take k, okObj w.bases.length o) ∧ vs = [i64 k] ∧ rs = []) (w.objs.length) rfl rfl (le_len hC rfl) ⟨rfl, rfl, rfl⟩ rfl ⟨0, rfl, Nat.zero_le _, (by simp), rfl, rfl⟩ ?_
          rintro mz vs rs - - ⟨k, rfl, hk, hf2, rfl, rfl⟩
          refine vc_stM ?_
          have hok := getD_all o2 ⟨0, []⟩ SO_zero k
          unfold SO at hok
          refine vc_seq fun K17 hK17 => ?_
          refine vc_region ?_
          refine vo_binI rfl rfl rfl rfl trivial ?_
          refine vo_nil ?_
          refine hK17 _ ?_
          refine vc_seq fun K18 hK18 => ?_
          refine vc_cond rfl (fun hc6 => ?_) (fun hc6 => ?_)
          · try simp only [decide_eq_true_eq, decide_eq_false_iff_not, beq_iff_eq, bne_iff_ne, beq_eq_false_iff_ne, bne_eq_false_iff_eq, Bool.not_eq_true, Bool.not_eq_false, Bool.not_eq_eq_eq_not, Bool.not_true, Bool.not_false, List.length_map, Int.not_lt, Int.not_le, ne_eq, Decidable.not_not] at hc6
            refine vc_skip ?_
            refine hK18 _ ?_
            refine vc_seq fun K19 hK19 => ?_
            refine vc_block ?_
            refine vc_seq fun K20 hK20 => ?_
            refine vc_region ?_
            refine vo_index_pv (.agg [(.int .i64 0), (.sl none 2 [])]) rfl rfl rfl E30.und inf56 sz56 sd sd ?_
            simp only [Int.toNat_natCast, Int.toNat_zero, getD_ints, getD_intss, getD_bools, getD_bytes, PV.cells, getD_ops, getD_pairs, getD_insts, getD_attrs, getD_attrss, getD_objs]
            refine vo_load_adrS rfl rfl Try.underlying56 rfl inf56 sz56 rfl ?_
            refine vo_st (by (try simp only [St.put, PV.cells, PV.scal, List.drop_succ_cons, List.drop_zero, List.take_succ_cons, List.take_zero, List.map_cons, List.map_nil, Bool.or_true, Bool.or_false, Bool.false_or, Bool.true_or, opP, pairP, instP, heapP]); exact eq_refl _) ?_
            refine vo_alloc Z56 rfl ?_
            refine vo_stM ?_
            refine vo_store_varS rfl rfl rfl inf56 sz56 rfl ?_
            refine vo_stM ?_
            refine vo_nil ?_
            refine hK20 _ ?_
            refine vc_seq fun K21 hK21 => ?_
            refine vc_region ?_
            refine vo_fieldAddr_ptr rfl rfl Try.underlying56 rfl inf3 (by rw [sz3]; decide) ?_
            try simp only [Nat.zero_add]
            refine vo_load_var rfl rfl rfl Try.underlying3 rfl rfl ?_
            refine vo_fieldAddr_ptr rfl rfl Try.underlying32 rfl inf22 (by rw [sz22]; decide) ?_
            try simp only [Nat.zero_add]
            refine vo_load_var rfl rfl rfl Try.underlying22 rfl rfl ?_
            refine vo_len_pv rfl rfl Try.underlying22 ?_
            refine vo_binI rfl rfl rfl rfl sd ?_
            refine vo_call0 Try.func24 rfl rfl rfl rfl isUpTo_sat ?_
            rintro _ _ ⟨rfl, rfl⟩
            refine ⟨rfl, rfl, .inl rfl, ?_⟩
            refine vo_stM ?_
            refine vo_not rfl rfl ?_
            refine vo_move_pv rfl rfl ?_
            refine vo_split 52 rfl (fun hg7 => ?_) (fun hg7 => ?_)
            · try simp only [decide_eq_true_eq, decide_eq_false_iff_not, beq_iff_eq, bne_iff_ne, beq_eq_false_iff_ne, bne_eq_false_iff_eq, Bool.not_eq_true, Bool.not_eq_false, Bool.not_eq_eq_eq_not, Bool.not_true, Bool.not_false, List.length_map, Int.not_lt, Int.not_le, ne_eq, Decidable.not_not] at hg7
              refine vo_guard_off rfl rfl rfl rfl rfl ?_
              refine vo_guard_off rfl rfl rfl rfl rfl ?_
              refine vo_guard_off rfl rfl rfl rfl rfl ?_
              refine vo_guard_off rfl rfl rfl rfl rfl ?_
              refine vo_pick_t rfl rfl ?_
              refine vo_move_pv rfl rfl ?_
              refine vo_guard_off rfl rfl rfl rfl rfl ?_
              refine vo_guard_off rfl rfl rfl rfl rfl ?_
              refine vo_guard_off rfl rfl rfl rfl rfl ?_
              refine vo_guard_off rfl rfl rfl rfl rfl ?_
              refine vo_pick_t rfl rfl ?_
              refine vo_nil ?_
              refine hK21 _ ?_
              refine vc_cond_t rfl ?_
              refine vc_seq fun K22 hK22 => ?_
              refine vc_region ?_
              refine vo_assign_pv rfl rfl ?_
              refine vo_nil ?_
              refine hK22 _ ?_
              refine vc_ret ?_
              change retQ _ _ _ _ _
              refine retQ_sel [] (srows := []) (.inr rfl) hC rfl rfl rfl rfl rfl rfl rfl ?_
              refine ⟨?_, rfl⟩
              refine (congrArg (fun b => [bo b]) (?_ : _ = _) : [bo _] = [bo _])
              first
                | (refine bF fun h0 => ?_
                   have h1 := h0.2.1; have h2 := h0.2.2.1
                   first
                     | omega
                     | exact absurd h0.1 (by assumption)
                     | exact absurd h0.1.1 (by assumption)
                     | exact absurd h0.1.2 (by assumption)
                     | exact absurd (h0.2.2.2.1 _ (getD_mem (show k < w.attrs.length by omega) [])) (by assumption)
                     | (have h3 := h0.2.2.2.2 _ (getD_mem (show k < w.objs.length by omega) ⟨0, []⟩)
                        unfold okObj at h3
                        have h4 := h3.2.1
                        first
                          | omega
                          | exact absurd h3.2.2 (by assumption)
                          | exact absurd h3.2.2.2 (by assumption)
                          | exact absurd (⟨by omega, h3.2.2.1⟩ : (w.objs.getD k ⟨0, []⟩).pairs.length ≤ 40 ∧ (nms (w.objs.getD k ⟨0, []⟩).pairs).Nodup) (by assumption)))
                | (rw [take_all (by omega)] at hf2
                   rw [take_all (by omega)] at hf
                   exact bT ⟨by first | assumption | exact ⟨hg1, hg2⟩, by omega, by omega, hf, hf2⟩)
            · try simp only [decide_eq_true_eq, decide_eq_false_iff_not, beq_iff_eq, bne_iff_ne, beq_eq_false_iff_ne, bne_eq_false_iff_eq, Bool.not_eq_true, Bool.not_eq_false, Bool.not_eq_eq_eq_not, Bool.not_true, Bool.not_false, List.length_map, Int.not_lt, Int.not_le, ne_eq, Decidable.not_not] at hg7
              refine vo_guard_on rfl rfl rfl ?_
              refine vo_fieldAddr_ptr rfl rfl Try.underlying56 rfl inf54 (by rw [sz54]; decide) ?_
              try simp only [Nat.zero_add]
              refine vo_guard_on rfl rfl rfl ?_
              refine vo_load_var rfl rfl rfl Try.underlying54 rfl rfl ?_
              refine vo_guard_on rfl rfl rfl ?_
              refine vo_len_pv rfl rfl Try.underlying54 ?_
              refine vo_guard_on rfl rfl rfl ?_
              refine vo_binI rfl rfl rfl rfl trivial ?_
              refine vo_pick_f rfl rfl ?_
              refine vo_move_pv rfl rfl ?_
              refine vo_split 58 rfl (fun hg8 => ?_) (fun hg8 => ?_)
              · try simp only [decide_eq_true_eq, decide_eq_false_iff_not, beq_iff_eq, bne_iff_ne, beq_eq_false_iff_ne, bne_eq_false_iff_eq, Bool.not_eq_true, Bool.not_eq_false, Bool.not_eq_eq_eq_not, Bool.not_true, Bool.not_false, List.length_map, Int.not_lt, Int.not_le, ne_eq, Decidable.not_not] at hg8
                refine vo_guard_off rfl rfl rfl rfl rfl ?_
                refine vo_guard_off rfl rfl rfl rfl rfl ?_
                refine vo_guard_off rfl rfl rfl rfl rfl ?_
                refine vo_guard_off rfl rfl rfl rfl rfl ?_
                refine vo_pick_t rfl rfl ?_
                refine vo_nil ?_
                refine hK21 _ ?_
                refine vc_cond_t rfl ?_
                refine vc_seq fun K23 hK23 => ?_
                refine vc_region ?_
                refine vo_assign_pv rfl rfl ?_
                refine vo_nil ?_
                refine hK23 _ ?_
                refine vc_ret ?_
                change retQ _ _ _ _ _
                refine retQ_sel [] (srows := []) (.inr rfl) hC rfl rfl rfl rfl rfl rfl rfl ?_
                refine ⟨?_, rfl⟩
                refine (congrArg (fun b => [bo b]) (?_ : _ = _) : [bo _] = [bo _])
                first
                  | (refine bF fun h0 => ?_
                     have h1 := h0.2.1; have h2 := h0.2.2.1
                     first
                       | omega
                       | exact absurd h0.1 (by assumption)
                       | exact absurd h0.1.1 (by assumption)
                       | exact absurd h0.1.2 (by assumption)
                       | exact absurd (h0.2.2.2.1 _ (getD_mem (show k < w.attrs.length by omega) [])) (by assumption)
                       | (have h3 := h0.2.2.2.2 _ (getD_mem (show k < w.objs.length by omega) ⟨0, []⟩)
                          unfold okObj at h3
                          have h4 := h3.2.1
                          first
                            | omega
                            | exact absurd h3.2.2 (by assumption)
                            | exact absurd h3.2.2.2 (by assumption)
                            | exact absurd (⟨by omega, h3.2.2.1⟩ : (w.objs.getD k ⟨0, []⟩).pairs.length ≤ 40 ∧ (nms (w.objs.getD k ⟨0, []⟩).pairs).Nodup) (by assumption)))
                  | (rw [take_all (by omega)] at hf2
                     rw [take_all (by omega)] at hf
                     exact bT ⟨by first | assumption | exact ⟨hg1, hg2⟩, by omega, by omega, hf, hf2⟩)
              · try simp only [decide_eq_true_eq, decide_eq_false_iff_not, beq_iff_eq, bne_iff_ne, beq_eq_false_iff_ne, bne_eq_false_iff_eq, Bool.not_eq_true, Bool.not_eq_false, Bool.not_eq_eq_eq_not, Bool.not_true, Bool.not_false, List.length_map, Int.not_lt, Int.not_le, ne_eq, Decidable.not_not] at hg8
                refine vo_guard_on rfl rfl rfl ?_
                refine vo_fieldAddr_ptr rfl rfl Try.underlying56 rfl inf54 (by rw [sz54]; decide) ?_
                try simp only [Nat.zero_add]
                refine vo_guard_on rfl rfl rfl ?_
                refine vo_load_var rfl rfl rfl Try.underlying54 rfl rfl ?_
                refine vo_guard_on rfl rfl rfl ?_
                refine vo_call0 Try.func25 rfl rfl rfl rfl (areOwn_sat (by omega)) ?_
                rintro _ _ ⟨rfl, rfl⟩
                refine ⟨rfl, rfl, .inl rfl, ?_⟩
                refine vo_stM ?_
                refine vo_guard_on rfl rfl rfl ?_
                refine vo_not rfl rfl ?_
                refine vo_pick_f rfl rfl ?_
                refine vo_nil ?_
                refine hK21 _ ?_
                refine vc_cond rfl (fun hc9 => ?_) (fun hc9 => ?_)
                · try simp only [decide_eq_true_eq, decide_eq_false_iff_not, beq_iff_eq, bne_iff_ne, beq_eq_false_iff_ne, bne_eq_false_iff_eq, Bool.not_eq_true, Bool.not_eq_false, Bool.not_eq_eq_eq_not, Bool.not_true, Bool.not_false, List.length_map, Int.not_lt, Int.not_le, ne_eq, Decidable.not_not] at hc9
                  refine vc_seq fun K24 hK24 => ?_
                  refine vc_region ?_
                  refine vo_assign_pv rfl rfl ?_
                  refine vo_nil ?_
                  refine hK24 _ ?_
                  refine vc_ret ?_
                  change retQ _ _ _ _ _
                  refine retQ_sel [] (srows := []) (.inr rfl) hC rfl rfl rfl rfl rfl rfl rfl ?_
                  refine ⟨?_, rfl⟩
                  refine (congrArg (fun b => [bo b]) (?_ : _ = _) : [bo _] = [bo _])
                  first
                    | (refine bF fun h0 => ?_
                       have h1 := h0.2.1; have h2 := h0.2.2.1
                       first
                         | omega
                         | exact absurd h0.1 (by assumption)
                         | exact absurd h0.1.1 (by assumption)
                         | exact absurd h0.1.2 (by assumption)
                         | exact absurd (h0.2.2.2.1 _ (getD_mem (show k < w.attrs.length by omega) [])) (by assumption)
                         | (have h3 := h0.2.2.2.2 _ (getD_mem (show k < w.objs.length by omega) ⟨0, []⟩)
                            unfold okObj at h3
                            have h4 := h3.2.1
                            first
                              | omega
                              | exact absurd h3.2.2 (by assumption)
                              | exact absurd h3.2.2.2 (by assumption)
                              | exact absurd (⟨by omega, h3.2.2.1⟩ : (w.objs.getD k ⟨0, []⟩).pairs.length ≤ 40 ∧ (nms (w.objs.getD k ⟨0, []⟩).pairs).Nodup) (by assumption)))
                    | (rw [take_all (by omega)] at hf2
                       rw [take_all (by omega)] at hf
                       exact bT ⟨by first | assumption | exact ⟨hg1, hg2⟩, by omega, by omega, hf, hf2⟩)
                · try simp only [decide_eq_true_eq, decide_eq_false_iff_not, beq_iff_eq, bne_iff_ne, beq_eq_false_iff_ne, bne_eq_false_iff_eq, Bool.not_eq_true, Bool.not_eq_false, Bool.not_eq_eq_eq_not, Bool.not_true, Bool.not_false, List.length_map, Int.not_lt, Int.not_le, ne_eq, Decidable.not_not] at hc9
                  refine vc_skip ?_
                  refine hK19 _ ?_
                  refine vc_region ?_
                  refine vo_binI rfl rfl rfl rfl sd ?_
                  refine vo_move_pv rfl rfl ?_
                  refine vo_nil ?_
                  change againE _ _ _ _ _ _ _ _ _ _
                  refine againE_mk rfl rfl rfl rfl rfl rfl ⟨_, ?_, k + 1, rfl, ?_, ?_, rfl, rfl⟩
                  · omega
                  · omega
                  · refine (all_take_succ (by omega) ⟨0, []⟩).2 ⟨hf2, ?_⟩
                    unfold okObj; exact ⟨by omega, by omega, by first | assumption | exact ⟨by first | assumption | exact (And.right ‹_ ∧ (nms _).Nodup›), by assumption⟩⟩
          · try simp only [decide_eq_true_eq, decide_eq_false_iff_not, beq_iff_eq, bne_iff_ne, beq_eq_false_iff_ne, bne_eq_false_iff_eq, Bool.not_eq_true, Bool.not_eq_false, Bool.not_eq_eq_eq_not, Bool.not_true, Bool.not_false, List.length_map, Int.not_lt, Int.not_le, ne_eq, Decidable.not_not] at hc6
            refine vc_exit ?_
            refine hK15 _ ?_
            refine vc_seq fun K25 hK25 => ?_
            refine vc_region ?_
            refine vo_assign_pv rfl rfl ?_
            refine vo_nil ?_
            refine hK25 _ ?_
            refine vc_ret ?_
            change retQ _ _ _ _ _
            refine retQ_sel [] (srows := []) (.inr rfl) hC rfl rfl rfl rfl rfl rfl rfl ?_
            refine ⟨?_, rfl⟩
            refine (congrArg (fun b => [bo b]) (?_ : _ = _) : [bo _] = [bo _])
            first
              | (refine bF fun h0 => ?_
                 have h1 := h0.2.1; have h2 := h0.2.2.1
                 first
                   | omega
                   | exact absurd h0.1 (by assumption)
                   | exact absurd h0.1.1 (by assumption)
                   | exact absurd h0.1.2 (by assumption)
                   | exact absurd (h0.2.2.2.1 _ (getD_mem (show k < w.attrs.length by omega) [])) (by assumption)
                   | (have h3 := h0.2.2.2.2 _ (getD_mem (show k < w.objs.length by omega) ⟨0, []⟩)
                      unfold okObj at h3
                      have h4 := h3.2.1
                      first
                        | omega
                        | exact absurd h3.2.2 (by assumption)
                        | exact absurd h3.2.2.2 (by assumption)
                        | exact absurd (⟨by omega, h3.2.2.1⟩ : (w.objs.getD k ⟨0, []⟩).pairs.length ≤ 40 ∧ (nms (w.objs.getD k ⟨0, []⟩).pairs).Nodup) (by assumption)))
              | (rw [take_all (by omega)] at hf2
                 rw [take_all (by omega)] at hf
                 exact bT ⟨by first | assumption | exact ⟨hg1, hg2⟩, by omega, by omega, hf, hf2⟩)


theorem specValidWorld0_sat {w : WorldM}  (hw : SW w) : SatAt Try.prog 19 [.pv false (worldP w)] [] (fun res rows => res = [bo (decide (VWorld w))] ∧ rows = []) := by
  obtain ⟨⟨b1, b2⟩, ⟨a1, a2⟩, o1, o2⟩ := hw
  refine sat_entry_G (rs := [(2, none)]) Try.func19 rfl rfl (Nat.le_of_ble_eq_true rfl) (Nat.le_of_ble_eq_true rfl) (resTs1 trivial) fun C hC => ?_
  rw [Try.ntmps19]
  replace hC : C.nb = 0 := hC
  refine vc_seq fun K1 hK1 => ?_
  refine vc_region ?_
  refine vo_box rfl rfl ?_
  refine vo_stM ?_
  refine vo_assign_pv rfl rfl ?_
  refine vo_nil ?_
  refine hK1 _ ?_
  refine vc_seq fun K2 hK2 => ?_
  refine vc_seq fun K3 hK3 => ?_
  refine vc_region ?_
  refine vo_fieldAddr_ptr rfl rfl Try.underlying32 rfl inf22 (by rw [sz22]; decide) ?_
  try simp only [Nat.zero_add]
  refine vo_load_var rfl rfl rfl Try.underlying22 rfl rfl ?_
  refine vo_call0 Try.func40 rfl rfl rfl rfl (specValidBases0_sat (by omega) (fun l hl => by have := b2 l hl; omega)) ?_
  rintro _ _ ⟨rfl, rfl⟩
  refine ⟨rfl, rfl, .inl rfl, ?_⟩
  refine vo_stM ?_
  refine vo_not rfl rfl ?_
  refine vo_move_pv rfl rfl ?_
  refine vo_split 10 rfl (fun hg1 => ?_) (fun hg1 => ?_)
  · try simp only [decide_eq_true_eq, decide_eq_false_iff_not, beq_iff_eq, bne_iff_ne, beq_eq_false_iff_ne, bne_eq_false_iff_eq, Bool.not_eq_true, Bool.not_eq_false, Bool.not_eq_eq_eq_not, Bool.not_true, Bool.not_false, List.length_map, Int.not_lt, Int.not_le, ne_eq, Decidable.not_not] at hg1
    refine vo_guard_off rfl rfl rfl rfl rfl ?_
    refine vo_guard_off rfl rfl rfl rfl rfl ?_
    refine vo_guard_off rfl rfl rfl rfl rfl ?_
    refine vo_guard_off rfl rfl rfl rfl rfl ?_
    refine vo_pick_t rfl rfl ?_
    refine vo_move_pv rfl rfl ?_
    refine vo_guard_off rfl rfl rfl rfl rfl ?_
    refine vo_guard_off rfl rfl rfl rfl rfl ?_
    refine vo_guard_off rfl rfl rfl rfl rfl ?_
    refine vo_guard_off rfl rfl rfl rfl rfl ?_
    refine vo_guard_off rfl rfl rfl rfl rfl ?_
    refine vo_guard_off rfl rfl rfl rfl rfl ?_
    refine vo_guard_off rfl rfl rfl rfl rfl ?_
    refine vo_pick_t rfl rfl ?_
    refine vo_move_pv rfl rfl ?_
    refine vo_guard_off rfl rfl rfl rfl rfl ?_
    refine vo_guard_off rfl rfl rfl rfl rfl ?_
    refine vo_guard_off rfl rfl rfl rfl rfl ?_
    refine vo_guard_off rfl rfl rfl rfl rfl ?_
    refine vo_pick_t rfl rfl ?_
    refine vo_nil ?_
    refine hK3 _ ?_
    refine vc_cond_t rfl ?_
    refine vc_seq fun K4 hK4 => ?_
    refine vc_region ?_
    refine vo_assign_pv rfl rfl ?_
    refine vo_nil ?_
    refine hK4 _ ?_
    refine vc_ret ?_
    change retQ _ _ _ _ _
    refine retQ_sel [] (srows := []) (.inr rfl) hC rfl rfl rfl rfl rfl rfl rfl ?_
    refine ⟨?_, rfl⟩
    refine (congrArg (fun b => [bo b]) (?_ : _ = _) : [bo _] = [bo _])
    first
      | (refine bF fun h0 => ?_
         have h1 := h0.2.1; have h2 := h0.2.2.1
         first
           | omega
           | exact absurd h0.1 (by assumption)
           | exact absurd h0.1.1 (by assumption)
           | exact absurd h0.1.2 (by assumption)
           | exact absurd (h0.2.2.2.1 _ (getD_mem (show k < w.attrs.length by omega) [])) (by assumption)
           | (have h3 := h0.2.2.2.2 _ (getD_mem (show k < w.objs.length by omega) ⟨0, []⟩)
              unfold okObj at h3
              have h4 := h3.2.1
              first
                | omega
                | exact absurd h3.2.2 (by assumption)
                | exact absurd h3.2.2.2 (by assumption)
                | exact absurd (⟨by omega, h3.2.2.1⟩ : (w.objs.getD k ⟨0, []⟩).pairs.length ≤ 40 ∧ (nms (w.objs.getD k ⟨0, []⟩).pairs).Nodup) (by assumption)))
      | (rw [take_all (by omega)] at hf2
         rw [take_all (by omega)] at hf
         exact bT ⟨by first | assumption | exact ⟨hg1, hg2⟩, by omega, by omega, hf, hf2⟩)
  · try simp only [decide_eq_true_eq, decide_eq_false_iff_not, beq_iff_eq, bne_iff_ne, beq_eq_false_iff_ne, bne_eq_false_iff_eq, Bool.not_eq_true, Bool.not_eq_false, Bool.not_eq_eq_eq_not, Bool.not_true, Bool.not_false, List.length_map, Int.not_lt, Int.not_le, ne_eq, Decidable.not_not] at hg1
    refine vo_guard_on rfl rfl rfl ?_
    refine vo_fieldAddr_ptr rfl rfl Try.underlying32 rfl inf22 (by rw [sz22]; decide) ?_
    try simp only [Nat.zero_add]
    refine vo_guard_on rfl rfl rfl ?_
    refine vo_load_var rfl rfl rfl Try.underlying22 rfl rfl ?_
    refine vo_guard_on rfl rfl rfl ?_
    refine vo_call0 Try.func41 rfl rfl rfl rfl (allOrders_sat (by omega) (fun l hl => by have := b2 l hl; omega) hg1) ?_
    rintro _ _ ⟨rfl, rfl⟩
    refine ⟨rfl, rfl, .inl rfl, ?_⟩
    refine vo_stM ?_
    refine vo_guard_on rfl rfl rfl ?_
    refine vo_not rfl rfl ?_
    refine vo_pick_f rfl rfl ?_
    refine vo_move_pv rfl rfl ?_
    refine vo_split 16 rfl (fun hg2 => ?_) (fun hg2 => ?_)
    · try simp only [decide_eq_true_eq, decide_eq_false_iff_not, beq_iff_eq, bne_iff_ne, beq_eq_false_iff_ne, bne_eq_false_iff_eq, Bool.not_eq_true, Bool.not_eq_false, Bool.not_eq_eq_eq_not, Bool.not_true, Bool.not_false, List.length_map, Int.not_lt, Int.not_le, ne_eq, Decidable.not_not] at hg2
      refine vo_guard_off rfl rfl rfl rfl rfl ?_
      refine vo_guard_off rfl rfl rfl rfl rfl ?_
      refine vo_guard_off rfl rfl rfl rfl rfl ?_
      refine vo_guard_off rfl rfl rfl rfl rfl ?_
      refine vo_guard_off rfl rfl rfl rfl rfl ?_
      refine vo_guard_off rfl rfl rfl rfl rfl ?_
      refine vo_guard_off rfl rfl rfl rfl rfl ?_
      refine vo_pick_t rfl rfl ?_
      refine vo_move_pv rfl rfl ?_
      refine vo_guard_off rfl rfl rfl rfl rfl ?_
      refine vo_guard_off rfl rfl rfl rfl rfl ?_
      refine vo_guard_off rfl rfl rfl rfl rfl ?_
      refine vo_guard_off rfl rfl rfl rfl rfl ?_
      refine vo_pick_t rfl rfl ?_
      refine vo_nil ?_
      refine hK3 _ ?_
      refine vc_cond_t rfl ?_
      refine vc_seq fun K5 hK5 => ?_
      refine vc_region ?_
      refine vo_assign_pv rfl rfl ?_
      refine vo_nil ?_
      refine hK5 _ ?_
      refine vc_ret ?_
      change retQ _ _ _ _ _
      refine retQ_sel [] (srows := []) (.inr rfl) hC rfl rfl rfl rfl rfl rfl rfl ?_
      refine ⟨?_, rfl⟩
      refine (congrArg (fun b => [bo b]) (?_ : _ = _) : [bo _] = [bo _])
      first
        | (refine bF fun h0 => ?_
           have h1 := h0.2.1; have h2 := h0.2.2.1
           first
             | omega
             | exact absurd h0.1 (by assumption)
             | exact absurd h0.1.1 (by assumption)
             | exact absurd h0.1.2 (by assumption)
             | exact absurd (h0.2.2.2.1 _ (getD_mem (show k < w.attrs.length by omega) [])) (by assumption)
             | (have h3 := h0.2.2.2.2 _ (getD_mem (show k < w.objs.length by omega) ⟨0, []⟩)
                unfold okObj at h3
                have h4 := h3.2.1
                first
                  | omega
                  | exact absurd h3.2.2 (by assumption)
                  | exact absurd h3.2.2.2 (by assumption)
                  | exact absurd (⟨by omega, h3.2.2.1⟩ : (w.objs.getD k ⟨0, []⟩).pairs.length ≤ 40 ∧ (nms (w.objs.getD k ⟨0, []⟩).pairs).Nodup) (by assumption)))
        | (rw [take_all (by omega)] at hf2
           rw [take_all (by omega)] at hf
           exact bT ⟨by first | assumption | exact ⟨hg1, hg2⟩, by omega, by omega, hf, hf2⟩)
    · try simp only [decide_eq_true_eq, decide_eq_false_iff_not, beq_iff_eq, bne_iff_ne, beq_eq_false_iff_ne, bne_eq_false_iff_eq, Bool.not_eq_true, Bool.not_eq_false, Bool.not_eq_eq_eq_not, Bool.not_true, Bool.not_false, List.length_map, Int.not_lt, Int.not_le, ne_eq, Decidable.not_not] at hg2
      refine vo_guard_on rfl rfl rfl ?_
      refine vo_fieldAddr_ptr rfl rfl Try.underlying32 rfl inf29 (by rw [sz29]; decide) ?_
      try simp only [Nat.zero_add]
      refine vo_guard_on rfl rfl rfl ?_
      refine vo_load_var rfl rfl rfl Try.underlying29 rfl rfl ?_
      refine vo_guard_on rfl rfl rfl ?_
      refine vo_len_pv rfl rfl Try.underlying29 ?_
      refine vo_guard_on rfl rfl rfl ?_
      refine vo_fieldAddr_ptr rfl rfl Try.underlying32 rfl inf22 (by rw [sz22]; decide) ?_
      try simp only [Nat.zero_add]
      refine vo_guard_on rfl rfl rfl ?_
      refine vo_load_var rfl rfl rfl Try.underlying22 rfl rfl ?_
      refine vo_guard_on rfl rfl rfl ?_
      refine vo_len_pv rfl rfl Try.underlying22 ?_
      refine vo_guard_on rfl rfl rfl ?_
      refine vo_binI rfl rfl rfl rfl trivial ?_
      refine vo_pick_f rfl rfl ?_
      refine vo_move_pv rfl rfl ?_
      refine vo_split 25 rfl (fun hg3 => ?_) (fun hg3 => ?_)
      · try simp only [decide_eq_true_eq, decide_eq_false_iff_not, beq_iff_eq, bne_iff_ne, beq_eq_false_iff_ne, bne_eq_false_iff_eq, Bool.not_eq_true, Bool.not_eq_false, Bool.not_eq_eq_eq_not, Bool.not_true, Bool.not_false, List.length_map, Int.not_lt, Int.not_le, ne_eq, Decidable.not_not] at hg3
        refine vo_guard_off rfl rfl rfl rfl rfl ?_
        refine vo_guard_off rfl rfl rfl rfl rfl ?_
        refine vo_guard_off rfl rfl rfl rfl rfl ?_
        refine vo_guard_off rfl rfl rfl rfl rfl ?_
        refine vo_pick_t rfl rfl ?_
        refine vo_nil ?_
        refine hK3 _ ?_
        refine vc_cond_t rfl ?_
        refine vc_seq fun K6 hK6 => ?_
        refine vc_region ?_
        refine vo_assign_pv rfl rfl ?_
        refine vo_nil ?_
        refine hK6 _ ?_
        refine vc_ret ?_
        change retQ _ _ _ _ _
        refine retQ_sel [] (srows := []) (.inr rfl) hC rfl rfl rfl rfl rfl rfl rfl ?_
        refine ⟨?_, rfl⟩
        refine (congrArg (fun b => [bo b]) (?_ : _ = _) : [bo _] = [bo _])
        first
          | (refine bF fun h0 => ?_
             have h1 := h0.2.1; have h2 := h0.2.2.1
             first
               | omega
               | exact absurd h0.1 (by assumption)
               | exact absurd h0.1.1 (by assumption)
               | exact absurd h0.1.2 (by assumption)
               | exact absurd (h0.2.2.2.1 _ (getD_mem (show k < w.attrs.length by omega) [])) (by assumption)
               | (have h3 := h0.2.2.2.2 _ (getD_mem (show k < w.objs.length by omega) ⟨0, []⟩)
                  unfold okObj at h3
                  have h4 := h3.2.1
                  first
                    | omega
                    | exact absurd h3.2.2 (by assumption)
                    | exact absurd h3.2.2.2 (by assumption)
                    | exact absurd (⟨by omega, h3.2.2.1⟩ : (w.objs.getD k ⟨0, []⟩).pairs.length ≤ 40 ∧ (nms (w.objs.getD k ⟨0, []⟩).pairs).Nodup) (by assumption)))
          | (rw [take_all (by omega)] at hf2
             rw [take_all (by omega)] at hf
             exact bT ⟨by first | assumption | exact ⟨hg1, hg2⟩, by omega, by omega, hf, hf2⟩)
      · try simp only [decide_eq_true_eq, decide_eq_false_iff_not, beq_iff_eq, bne_iff_ne, beq_eq_false_iff_ne, bne_eq_false_iff_eq, Bool.not_eq_true, Bool.not_eq_false, Bool.not_eq_eq_eq_not, Bool.not_true, Bool.not_false, List.length_map, Int.not_lt, Int.not_le, ne_eq, Decidable.not_not] at hg3
        refine vo_guard_on rfl rfl rfl ?_
        refine vo_fieldAddr_ptr rfl rfl Try.underlying32 rfl inf30 (by rw [sz30]; decide) ?_
        try simp only [Nat.zero_add]
        refine vo_guard_on rfl rfl rfl ?_
        refine vo_load_var rfl rfl rfl Try.underlying30 rfl rfl ?_
        refine vo_guard_on rfl rfl rfl ?_
        refine vo_len_pv rfl rfl Try.underlying30 ?_
        refine vo_guard_on rfl rfl rfl ?_
        refine vo_binI rfl rfl rfl rfl trivial ?_
        refine vo_pick_f rfl rfl ?_
        refine vo_nil ?_
        refine hK3 _ ?_
        refine vc_cond rfl (fun hc4 => ?_) (fun hc4 => ?_)
        · try simp only [decide_eq_true_eq, decide_eq_false_iff_not, beq_iff_eq, bne_iff_ne, beq_eq_false_iff_ne, bne_eq_false_iff_eq, Bool.not_eq_true, Bool.not_eq_false, Bool.not_eq_eq_eq_not, Bool.not_true, Bool.not_false, List.length_map, Int.not_lt, Int.not_le, ne_eq, Decidable.not_not] at hc4
          refine vc_seq fun K7 hK7 => ?_
          refine vc_region ?_
          refine vo_assign_pv rfl rfl ?_
          refine vo_nil ?_
          refine hK7 _ ?_
          refine vc_ret ?_
          change retQ _ _ _ _ _
          refine retQ_sel [] (srows := []) (.inr rfl) hC rfl rfl rfl rfl rfl rfl rfl ?_
          refine ⟨?_, rfl⟩
          refine (congrArg (fun b => [bo b]) (?_ : _ = _) : [bo _] = [bo _])
          first
            | (refine bF fun h0 => ?_
               have h1 := h0.2.1; have h2 := h0.2.2.1
               first
                 | omega
                 | exact absurd h0.1 (by assumption)
                 | exact absurd h0.1.1 (by assumption)
                 | exact absurd h0.1.2 (by assumption)
                 | exact absurd (h0.2.2.2.1 _ (getD_mem (show k < w.attrs.length by omega) [])) (by assumption)
                 | (have h3 := h0.2.2.2.2 _ (getD_mem (show k < w.objs.length by omega) ⟨0, []⟩)
                    unfold okObj at h3
                    have h4 := h3.2.1
                    first
                      | omega
                      | exact absurd h3.2.2 (by assumption)
                      | exact absurd h3.2.2.2 (by assumption)
                      | exact absurd (⟨by omega, h3.2.2.1⟩ : (w.objs.getD k ⟨0, []⟩).pairs.length ≤ 40 ∧ (nms (w.objs.getD k ⟨0, []⟩).pairs).Nodup) (by assumption)))
            | (rw [take_all (by omega)] at hf2
               rw [take_all (by omega)] at hf
               exact bT ⟨by first | assumption | exact ⟨hg1, hg2⟩, by omega, by omega, hf, hf2⟩)
        · try simp only [decide_eq_true_eq, decide_eq_false_iff_not, beq_iff_eq, bne_iff_ne, beq_eq_false_iff_ne, bne_eq_false_iff_eq, Bool.not_eq_true, Bool.not_eq_false, Bool.not_eq_eq_eq_not, Bool.not_true, Bool.not_false, List.length_map, Int.not_lt, Int.not_le, ne_eq, Decidable.not_not] at hc4
          refine vc_skip ?_
          refine hK2 _ ?_
          refine vc_seq fun K8 hK8 => ?_
          refine vc_seq fun K9 hK9 => ?_
          refine vc_region ?_
          refine vo_assign_pv rfl rfl ?_
          refine vo_nil ?_
          refine hK9 _ ?_
          refine vc_block ?_
          refine vc_stM ?_
          refine vc_loopE [1] [3] [] _ _ (fun mz vs rs => ∃ (k : Nat), mz = w.attrs.length - k ∧ (k ≤ w.attrs.length) ∧ (∀ l ∈ w.attrs.take k, AAttrs l) ∧ vs = [i64 k] ∧ rs = []) (w.attrs.length) rfl rfl (le_len hC rfl) ⟨rfl, rfl, rfl⟩ rfl ⟨0, rfl, Nat.zero_le _, (by simp), rfl, rfl⟩ ?_
          rintro mz vs rs - - ⟨k, rfl, hk, hf, rfl, rfl⟩
          refine vc_stM ?_
          have hak := (getD_all (p := fun l : List AttrM => l.length ≤ 2000000) a2 [] (by simp) k)
          refine vc_seq fun K10 hK10 => ?_
          refine vc_seq fun K11 hK11 => ?_
          refine vc_region ?_
          refine vo_move_pv rfl rfl ?_
          refine vo_fieldAddr_ptr rfl rfl Try.underlying32 rfl inf29 (by rw [sz29]; decide) ?_
          try simp only [Nat.zero_add]
          refine vo_load_var rfl rfl rfl Try.underlying29 rfl rfl ?_
          refine vo_len_pv rfl rfl Try.underlying29 ?_
          refine vo_binI rfl rfl rfl rfl trivial ?_
          refine vo_nil ?_
          refine hK11 _ ?_
          refine vc_cond rfl (fun hc5 => ?_) (fun hc5 => ?_)
          · try simp only [decide_eq_true_eq, decide_eq_false_iff_not, beq_iff_eq, bne_iff_ne, beq_eq_false_iff_ne, bne_eq_false_iff_eq, Bool.not_eq_true, Bool.not_eq_false, Bool.not_eq_eq_eq_not, Bool.not_true, Bool.not_false, List.length_map, Int.not_lt, Int.not_le, ne_eq, Decidable.not_not] at hc5
            refine vc_skip ?_
            refine hK10 _ ?_
            refine vc_seq fun K12 hK12 => ?_
            refine vc_block ?_
            refine vc_seq fun K13 hK13 => ?_
            refine vc_region ?_
            refine vo_fieldAddr_ptr rfl rfl Try.underlying32 rfl inf29 (by rw [sz29]; decide) ?_
            try simp only [Nat.zero_add]
            refine vo_load_var rfl rfl rfl Try.underlying29 rfl rfl ?_
            refine vo_move_pv rfl rfl ?_
            refine vo_index_pv (.sl none 3 []) rfl rfl rfl E29.und inf52 sz52 sd sd ?_
            simp only [Int.toNat_natCast, Int.toNat_zero, getD_ints, getD_intss, getD_bools, getD_bytes, PV.cells, getD_ops, getD_pairs, getD_insts, getD_attrs, getD_attrss, getD_objs]
            refine vo_load_adr rfl rfl Try.underlying52 rfl ?_
            refine vo_call0 Try.func42 rfl rfl rfl rfl (validAttrs_sat (by omega)) ?_
            rintro _ _ ⟨rfl, rfl⟩
            refine ⟨rfl, rfl, .inl rfl, ?_⟩
            refine vo_stM ?_
            refine vo_not rfl rfl ?_
            refine vo_nil ?_
            refine hK13 _ ?_
            refine vc_cond rfl (fun hc6 => ?_) (fun hc6 => ?_)
            · try simp only [decide_eq_true_eq, decide_eq_false_iff_not, beq_iff_eq, bne_iff_ne, beq_eq_false_iff_ne, bne_eq_false_iff_eq, Bool.not_eq_true, Bool.not_eq_false, Bool.not_eq_eq_eq_not, Bool.not_true, Bool.not_false, List.length_map, Int.not_lt, Int.not_le, ne_eq, Decidable.not_not] at hc6
              refine vc_seq fun K14 hK14 => ?_
              refine vc_region ?_
              refine vo_assign_pv rfl rfl ?_
              refine vo_nil ?_
              refine hK14 _ ?_
              refine vc_ret ?_
              change retQ _ _ _ _ _
              refine retQ_sel [] (srows := []) (.inr rfl) hC rfl rfl rfl rfl rfl rfl rfl ?_
              refine ⟨?_, rfl⟩
              refine (congrArg (fun b => [bo b]) (?_ : _ = _) : [bo _] = [bo _])
              first
                | (refine bF fun h0 => ?_
                   have h1 := h0.2.1; have h2 := h0.2.2.1
                   first
                     | omega
                     | exact absurd h0.1 (by assumption)
                     | exact absurd h0.1.1 (by assumption)
                     | exact absurd h0.1.2 (by assumption)
                     | exact absurd (h0.2.2.2.1 _ (getD_mem (show k < w.attrs.length by omega) [])) (by assumption)
                     | (have h3 := h0.2.2.2.2 _ (getD_mem (show k < w.objs.length by omega) ⟨0, []⟩)
                        unfold okObj at h3
                        have h4 := h3.2.1
                        first
                          | omega
                          | exact absurd h3.2.2 (by assumption)
                          | exact absurd h3.2.2.2 (by assumption)
                          | exact absurd (⟨by omega, h3.2.2.1⟩ : (w.objs.getD k ⟨0, []⟩).pairs.length ≤ 40 ∧ (nms (w.objs.getD k ⟨0, []⟩).pairs).Nodup) (by assumption)))
                | (rw [take_all (by omega)] at hf2
                   rw [take_all (by omega)] at hf
                   exact bT ⟨by first | assumption | exact ⟨hg1, hg2⟩, by omega, by omega, hf, hf2⟩)
            · try simp only [decide_eq_true_eq, decide_eq_false_iff_not, beq_iff_eq, bne_iff_ne, beq_eq_false_iff_ne, bne_eq_false_iff_eq, Bool.not_eq_true, Bool.not_eq_false, Bool.not_eq_eq_eq_not, Bool.not_true, Bool.not_false, List.length_map, Int.not_lt, Int.not_le, ne_eq, Decidable.not_not] at hc6
              refine vc_skip ?_
              refine hK12 _ ?_
              refine vc_region ?_
              refine vo_move_pv rfl rfl ?_
              refine vo_binI rfl rfl rfl rfl sd ?_
              refine vo_assign_pv rfl rfl ?_
              refine vo_nil ?_
              change againE _ _ _ _ _ _ _ _ _ _
              refine againE_mk rfl rfl rfl rfl rfl rfl ⟨_, ?_, k + 1, rfl, ?_, ?_, rfl, rfl⟩
              · omega
              · omega
              · exact (all_take_succ (by omega) []).2 ⟨hf, by assumption⟩
          · try simp only [decide_eq_true_eq, decide_eq_false_iff_not, beq_iff_eq, bne_iff_ne, beq_eq_false_iff_ne, bne_eq_false_iff_eq, Bool.not_eq_true, Bool.not_eq_false, Bool.not_eq_eq_eq_not, Bool.not_true, Bool.not_false, List.length_map, Int.not_lt, Int.not_le, ne_eq, Decidable.not_not] at hc5
            refine vc_exit ?_
            refine hK8 _ ?_
            refine vc_seq fun K15 hK15 => ?_
            refine vc_seq fun K16 hK16 => ?_
            refine vc_region ?_
            refine vo_assign_pv rfl rfl ?_
            refine vo_nil ?_
            refine hK16 _ ?_
            refine vc_block ?_
            refine vc_stM ?_
            refine vc_loopE [1] [4] [] _ _ (fun mz vs rs => ∃ (k : Nat), mz = w.objs.length - k ∧ (k ≤ w.objs.length) ∧ (∀ o ∈ w.objs.take k, okObj w.bases.length o) ∧ vs = [i64 k] ∧ rs = []) (w.objs.length) rfl rfl (le_len hC rfl) ⟨rfl, rfl, rfl⟩ rfl ⟨0, rfl, Nat.zero_le _, (by simp), rfl, rfl⟩ ?_
            rintro mz vs rs - - ⟨k, rfl, hk, hf2, rfl, rfl⟩
            refine vc_stM ?_
            have hok := getD_all o2 ⟨0, []⟩ SO_zero k
            unfold SO at hok
            refine vc_seq fun K17 hK17 => ?_
            refine vc_seq fun K18 hK18 => ?_
            refine vc_region ?_
            refine vo_move_pv rfl rfl ?_
            refine vo_fieldAddr_ptr rfl rfl Try.underlying32 rfl inf30 (by rw [sz30]; decide) ?_
            try simp only [Nat.zero_add]
            refine vo_load_var rfl rfl rfl Try.underlying30 rfl rfl ?_
            refine vo_len_pv rfl rfl Try.underlying30 ?_
            refine vo_binI rfl rfl rfl rfl trivial ?_
            refine vo_nil ?_
            refine hK18 _ ?_
            refine vc_cond rfl (fun hc7 => ?_) (fun hc7 => ?_)
            · try simp only [decide_eq_true_eq, decide_eq_false_iff_not, beq_iff_eq, bne_iff_ne, beq_eq_false_iff_ne, bne_eq_false_iff_eq, Bool.not_eq_true, Bool.not_eq_false, Bool.not_eq_eq_eq_not, Bool.not_true, Bool.not_false, List.length_map, Int.not_lt, Int.not_le, ne_eq, Decidable.not_not] at hc7
              refine vc_skip ?_
              refine hK17 _ ?_
              refine vc_seq fun K19 hK19 => ?_
              refine vc_block ?_
              refine vc_seq fun K20 hK20 => ?_
              refine vc_region ?_
              refine vo_fieldAddr_ptr rfl rfl Try.underlying32 rfl inf30 (by rw [sz30]; decide) ?_
              try simp only [Nat.zero_add]
              refine vo_load_var rfl rfl rfl Try.underlying30 rfl rfl ?_
              refine vo_move_pv rfl rfl ?_
              refine vo_index_pv (.agg [(.int .i64 0), (.sl none 2 [])]) rfl rfl rfl E30.und inf56 sz56 sd sd ?_
              simp only [Int.toNat_natCast, Int.toNat_zero, getD_ints, getD_intss, getD_bools, getD_bytes, PV.cells, getD_ops, getD_pairs, getD_insts, getD_attrs, getD_attrss, getD_objs]
              refine vo_load_adrS rfl rfl Try.underlying56 rfl inf56 sz56 rfl ?_
              refine vo_st (by (try simp only [St.put, PV.cells, PV.scal, List.drop_succ_cons, List.drop_zero, List.take_succ_cons, List.take_zero, List.map_cons, List.map_nil, Bool.or_true, Bool.or_false, Bool.false_or, Bool.true_or, opP, pairP, instP, heapP]); exact eq_refl _) ?_
              refine vo_alloc Z56 rfl ?_
              refine vo_stM ?_
              refine vo_store_varS rfl rfl rfl inf56 sz56 rfl ?_
              refine vo_stM ?_
              refine vo_nil ?_
              refine hK20 _ ?_
              refine vc_seq fun K21 hK21 => ?_
              refine vc_region ?_
              refine vo_fieldAddr_ptr rfl rfl Try.underlying56 rfl inf3 (by rw [sz3]; decide) ?_
              try simp only [Nat.zero_add]
              refine vo_load_var rfl rfl rfl Try.underlying3 rfl rfl ?_
              refine vo_fieldAddr_ptr rfl rfl Try.underlying32 rfl inf22 (by rw [sz22]; decide) ?_
              try simp only [Nat.zero_add]
              refine vo_load_var rfl rfl rfl Try.underlying22 rfl rfl ?_
              refine vo_len_pv rfl rfl Try.underlying22 ?_
              refine vo_binI rfl rfl rfl rfl sd ?_
              refine vo_call0 Try.func29 rfl rfl rfl rfl inRange_sat ?_
              rintro _ _ ⟨rfl, rfl⟩
              refine ⟨rfl, rfl, .inl rfl, ?_⟩
              refine vo_stM ?_
              refine vo_not rfl rfl ?_
              refine vo_move_pv rfl rfl ?_
              refine vo_split 65 rfl (fun hg8 => ?_) (fun hg8 => ?_)
              · try simp only [decide_eq_true_eq, decide_eq_false_iff_not, beq_iff_eq, bne_iff_ne, beq_eq_false_iff_ne, bne_eq_false_iff_eq, Bool.not_eq_true, Bool.not_eq_false, Bool.not_eq_eq_eq_not, Bool.not_true, Bool.not_false, List.length_map, Int.not_lt, Int.not_le, ne_eq, Decidable.not_not] at hg8
                refine vo_guard_off rfl rfl rfl rfl rfl ?_
                refine vo_guard_off rfl rfl rfl rfl rfl ?_
                refine vo_guard_off rfl rfl rfl rfl rfl ?_
                refine vo_guard_off rfl rfl rfl rfl rfl ?_
                refine vo_pick_t rfl rfl ?_
                refine vo_move_pv rfl rfl ?_
                refine vo_guard_off rfl rfl rfl rfl rfl ?_
                refine vo_guard_off rfl rfl rfl rfl rfl ?_
                refine vo_guard_off rfl rfl rfl rfl rfl ?_
                refine vo_guard_off rfl rfl rfl rfl rfl ?_
                refine vo_pick_t rfl rfl ?_
                refine vo_move_pv rfl rfl ?_
                refine vo_guard_off rfl rfl rfl rfl rfl ?_
                refine vo_guard_off rfl rfl rfl rfl rfl ?_
                refine vo_guard_off rfl rfl rfl rfl rfl ?_
                refine vo_guard_off rfl rfl rfl rfl rfl ?_
                refine vo_pick_t rfl rfl ?_
                refine vo_nil ?_
                refine hK21 _ ?_
                refine vc_cond_t rfl ?_
                refine vc_seq fun K22 hK22 => ?_
                refine vc_region ?_
                refine vo_assign_pv rfl rfl ?_
                refine vo_nil ?_
                refine hK22 _ ?_
                refine vc_ret ?_
                change retQ _ _ _ _ _
                refine retQ_sel [] (srows := []) (.inr rfl) hC rfl rfl rfl rfl rfl rfl rfl ?_
                refine ⟨?_, rfl⟩
                refine (congrArg (fun b => [bo b]) (?_ : _ = _) : [bo _] = [bo _])
                first
                  | (refine bF fun h0 => ?_
                     have h1 := h0.2.1; have h2 := h0.2.2.1
                     first
                       | omega
                       | exact absurd h0.1 (by assumption)
                       | exact absurd h0.1.1 (by assumption)
                       | exact absurd h0.1.2 (by assumption)
                       | exact absurd (h0.2.2.2.1 _ (getD_mem (show k < w.attrs.length by omega) [])) (by assumption)
                       | (have h3 := h0.2.2.2.2 _ (getD_mem (show k < w.objs.length by omega) ⟨0, []⟩)
                          unfold okObj at h3
                          have h4 := h3.2.1
                          first
                            | omega
                            | exact absurd h3.2.2 (by assumption)
                            | exact absurd h3.2.2.2 (by assumption)
                            | exact absurd (⟨by omega, h3.2.2.1⟩ : (w.objs.getD k ⟨0, []⟩).pairs.length ≤ 40 ∧ (nms (w.objs.getD k ⟨0, []⟩).pairs).Nodup) (by assumption)))
                  | (rw [take_all (by omega)] at hf2
                     rw [take_all (by omega)] at hf
                     exact bT ⟨by first | assumption | exact ⟨hg1, hg2⟩, by omega, by omega, hf, hf2⟩)
              · try simp only [decide_eq_true_eq, decide_eq_false_iff_not, beq_iff_eq, bne_iff_ne, beq_eq_false_iff_ne, bne_eq_false_iff_eq, Bool.not_eq_true, Bool.not_eq_false, Bool.not_eq_eq_eq_not, Bool.not_true, Bool.not_false, List.length_map, Int.not_lt, Int.not_le, ne_eq, Decidable.not_not] at hg8
                refine vo_guard_on rfl rfl rfl ?_
                refine vo_fieldAddr_ptr rfl rfl Try.underlying56 rfl inf54 (by rw [sz54]; decide) ?_
                try simp only [Nat.zero_add]
                refine vo_guard_on rfl rfl rfl ?_
                refine vo_load_var rfl rfl rfl Try.underlying54 rfl rfl ?_
                refine vo_guard_on rfl rfl rfl ?_
                refine vo_call0 Try.func43 rfl rfl rfl rfl (goodPairs_sat (by omega)) ?_
                rintro _ _ ⟨rfl, rfl⟩
                refine ⟨rfl, rfl, .inl rfl, ?_⟩
                refine vo_stM ?_
                refine vo_guard_on rfl rfl rfl ?_
                refine vo_not rfl rfl ?_
                refine vo_pick_f rfl rfl ?_
                refine vo_move_pv rfl rfl ?_
                refine vo_split 71 rfl (fun hg9 => ?_) (fun hg9 => ?_)
                · try simp only [decide_eq_true_eq, decide_eq_false_iff_not, beq_iff_eq, bne_iff_ne, beq_eq_false_iff_ne, bne_eq_false_iff_eq, Bool.not_eq_true, Bool.not_eq_false, Bool.not_eq_eq_eq_not, Bool.not_true, Bool.not_false, List.length_map, Int.not_lt, Int.not_le, ne_eq, Decidable.not_not] at hg9
                  refine vo_guard_off rfl rfl rfl rfl rfl ?_
                  refine vo_guard_off rfl rfl rfl rfl rfl ?_
                  refine vo_guard_off rfl rfl rfl rfl rfl ?_
                  refine vo_guard_off rfl rfl rfl rfl rfl ?_
                  refine vo_pick_t rfl rfl ?_
                  refine vo_move_pv rfl rfl ?_
                  refine vo_guard_off rfl rfl rfl rfl rfl ?_
                  refine vo_guard_off rfl rfl rfl rfl rfl ?_
                  refine vo_guard_off rfl rfl rfl rfl rfl ?_
                  refine vo_guard_off rfl rfl rfl rfl rfl ?_
                  refine vo_pick_t rfl rfl ?_
                  refine vo_nil ?_
                  refine hK21 _ ?_
                  refine vc_cond_t rfl ?_
                  refine vc_seq fun K23 hK23 => ?_
                  refine vc_region ?_
                  refine vo_assign_pv rfl rfl ?_
                  refine vo_nil ?_
                  refine hK23 _ ?_
                  refine vc_ret ?_
                  change retQ _ _ _ _ _
                  refine retQ_sel [] (srows := []) (.inr rfl) hC rfl rfl rfl rfl rfl rfl rfl ?_
                  refine ⟨?_, rfl⟩
                  refine (congrArg (fun b => [bo b]) (?_ : _ = _) : [bo _] = [bo _])
                  first
                    | (refine bF fun h0 => ?_
                       have h1 := h0.2.1; have h2 := h0.2.2.1
                       first
                         | omega
                         | exact absurd h0.1 (by assumption)
                         | exact absurd h0.1.1 (by assumption)
                         | exact absurd h0.1.2 (by assumption)
                         | exact absurd (h0.2.2.2.1 _ (getD_mem (show k < w.attrs.length by omega) [])) (by assumption)
                         | (have h3 := h0.2.2.2.2 _ (getD_mem (show k < w.objs.length by omega) ⟨0, []⟩)
                            unfold okObj at h3
                            have h4 := h3.2.1
                            first
                              | omega
                              | exact absurd h3.2.2 (by assumption)
                              | exact absurd h3.2.2.2 (by assumption)
                              | exact absurd (⟨by omega, h3.2.2.1⟩ : (w.objs.getD k ⟨0, []⟩).pairs.length ≤ 40 ∧ (nms (w.objs.getD k ⟨0, []⟩).pairs).Nodup) (by assumption)))
                    | (rw [take_all (by omega)] at hf2
                       rw [take_all (by omega)] at hf
                       exact bT ⟨by first | assumption | exact ⟨hg1, hg2⟩, by omega, by omega, hf, hf2⟩)
                · try simp only [decide_eq_true_eq, decide_eq_false_iff_not, beq_iff_eq, bne_iff_ne, beq_eq_false_iff_ne, bne_eq_false_iff_eq, Bool.not_eq_true, Bool.not_eq_false, Bool.not_eq_eq_eq_not, Bool.not_true, Bool.not_false, List.length_map, Int.not_lt, Int.not_le, ne_eq, Decidable.not_not] at hg9
                  refine vo_guard_on rfl rfl rfl ?_
                  refine vo_fieldAddr_ptr rfl rfl Try.underlying56 rfl inf54 (by rw [sz54]; decide) ?_
                  try simp only [Nat.zero_add]
                  refine vo_guard_on rfl rfl rfl ?_
                  refine vo_load_var rfl rfl rfl Try.underlying54 rfl rfl ?_
                  refine vo_guard_on rfl rfl rfl ?_
                  refine vo_call0 Try.func44 rfl rfl rfl rfl (validPairs_sat (by omega)) ?_
                  rintro _ _ ⟨rfl, rfl⟩
                  refine ⟨rfl, rfl, .inl rfl, ?_⟩
                  refine vo_stM ?_
                  refine vo_guard_on rfl rfl rfl ?_
                  refine vo_not rfl rfl ?_
                  refine vo_pick_f rfl rfl ?_
                  refine vo_move_pv rfl rfl ?_
                  refine vo_split 77 rfl (fun hg10 => ?_) (fun hg10 => ?_)
                  · try simp only [decide_eq_true_eq, decide_eq_false_iff_not, beq_iff_eq, bne_iff_ne, beq_eq_false_iff_ne, bne_eq_false_iff_eq, Bool.not_eq_true, Bool.not_eq_false, Bool.not_eq_eq_eq_not, Bool.not_true, Bool.not_false, List.length_map, Int.not_lt, Int.not_le, ne_eq, Decidable.not_not] at hg10
                    refine vo_guard_off rfl rfl rfl rfl rfl ?_
                    refine vo_guard_off rfl rfl rfl rfl rfl ?_
                    refine vo_guard_off rfl rfl rfl rfl rfl ?_
                    refine vo_guard_off rfl rfl rfl rfl rfl ?_
                    refine vo_pick_t rfl rfl ?_
                    refine vo_nil ?_
                    refine hK21 _ ?_
                    refine vc_cond_t rfl ?_
                    refine vc_seq fun K24 hK24 => ?_
                    refine vc_region ?_
                    refine vo_assign_pv rfl rfl ?_
                    refine vo_nil ?_
                    refine hK24 _ ?_
                    refine vc_ret ?_
                    change retQ _ _ _ _ _
                    refine retQ_sel [] (srows := []) (.inr rfl) hC rfl rfl rfl rfl rfl rfl rfl ?_
                    refine ⟨?_, rfl⟩
                    refine (congrArg (fun b => [bo b]) (?_ : _ = _) : [bo _] = [bo _])
                    first
                      | (refine bF fun h0 => ?_
                         have h1 := h0.2.1; have h2 := h0.2.2.1
                         first
                           | omega
                           | exact absurd h0.1 (by assumption)
                           | exact absurd h0.1.1 (by assumption)
                           | exact absurd h0.1.2 (by assumption)
                           | exact absurd (h0.2.2.2.1 _ (getD_mem (show k < w.attrs.length by omega) [])) (by assumption)
                           | (have h3 := h0.2.2.2.2 _ (getD_mem (show k < w.objs.length by omega) ⟨0, []⟩)
                              unfold okObj at h3
                              have h4 := h3.2.1
                              first
                                | omega
                                | exact absurd h3.2.2 (by assumption)
                                | exact absurd h3.2.2.2 (by assumption)
                                | exact absurd (⟨by omega, h3.2.2.1⟩ : (w.objs.getD k ⟨0, []⟩).pairs.length ≤ 40 ∧ (nms (w.objs.getD k ⟨0, []⟩).pairs).Nodup) (by assumption)))
                      | (rw [take_all (by omega)] at hf2
                         rw [take_all (by omega)] at hf
                         exact bT ⟨by first | assumption | exact ⟨hg1, hg2⟩, by omega, by omega, hf, hf2⟩)
                  · try simp only [decide_eq_true_eq, decide_eq_false_iff_not, beq_iff_eq, bne_iff_ne, beq_eq_false_iff_ne, bne_eq_false_iff_eq, Bool.not_eq_true, Bool.not_eq_false, Bool.not_eq_eq_eq_not, Bool.not_true, Bool.not_false, List.length_map, Int.not_lt, Int.not_le, ne_eq, Decidable.not_not] at hg10
                    refine vo_guard_on rfl rfl rfl ?_
                    refine vo_fieldAddr_ptr rfl rfl Try.underlying56 rfl inf54 (by rw [sz54]; decide) ?_
                    try simp only [Nat.zero_add]
                    refine vo_guard_on rfl rfl rfl ?_
                    refine vo_load_var rfl rfl rfl Try.underlying54 rfl rfl ?_
                    refine vo_guard_on rfl rfl rfl ?_
                    refine vo_len_pv rfl rfl Try.underlying54 ?_
                    refine vo_guard_on rfl rfl rfl ?_
                    refine vo_binI rfl rfl rfl rfl trivial ?_
                    refine vo_pick_f rfl rfl ?_
                    refine vo_nil ?_
                    refine hK21 _ ?_
                    refine vc_cond rfl (fun hc11 => ?_) (fun hc11 => ?_)
                    · try simp only [decide_eq_true_eq, decide_eq_false_iff_not, beq_iff_eq, bne_iff_ne, beq_eq_false_iff_ne, bne_eq_false_iff_eq, Bool.not_eq_true, Bool.not_eq_false, Bool.not_eq_eq_eq_not, Bool.not_true, Bool.not_false, List.length_map, Int.not_lt, Int.not_le, ne_eq, Decidable.not_not] at hc11
                      refine vc_seq fun K25 hK25 => ?_
                      refine vc_region ?_
                      refine vo_assign_pv rfl rfl ?_
                      refine vo_nil ?_
                      refine hK25 _ ?_
                      refine vc_ret ?_
                      change retQ _ _ _ _ _
                      refine retQ_sel [] (srows := []) (.inr rfl) hC rfl rfl rfl rfl rfl rfl rfl ?_
                      refine ⟨?_, rfl⟩
                      refine (congrArg (fun b => [bo b]) (?_ : _ = _) : [bo _] = [bo _])
                      first
                        | (refine bF fun h0 => ?_
                           have h1 := h0.2.1; have h2 := h0.2.2.1
                           first
                             | omega
                             | exact absurd h0.1 (by assumption)
                             | exact absurd h0.1.1 (by assumption)
                             | exact absurd h0.1.2 (by assumption)
                             | exact absurd (h0.2.2.2.1 _ (getD_mem (show k < w.attrs.length by omega) [])) (by assumption)
                             | (have h3 := h0.2.2.2.2 _ (getD_mem (show k < w.objs.length by omega) ⟨0, []⟩)
                                unfold okObj at h3
                                have h4 := h3.2.1
                                first
                                  | omega
                                  | exact absurd h3.2.2 (by assumption)
                                  | exact absurd h3.2.2.2 (by assumption)
                                  | exact absurd (⟨by omega, h3.2.2.1⟩ : (w.objs.getD k ⟨0, []⟩).pairs.length ≤ 40 ∧ (nms (w.objs.getD k ⟨0, []⟩).pairs).Nodup) (by assumption)))
                        | (rw [take_all (by omega)] at hf2
                           rw [take_all (by omega)] at hf
                           exact bT ⟨by first | assumption | exact ⟨hg1, hg2⟩, by omega, by omega, hf, hf2⟩)
                    · try simp only [decide_eq_true_eq, decide_eq_false_iff_not, beq_iff_eq, bne_iff_ne, beq_eq_false_iff_ne, bne_eq_false_iff_eq, Bool.not_eq_true, Bool.not_eq_false, Bool.not_eq_eq_eq_not, Bool.not_true, Bool.not_false, List.length_map, Int.not_lt, Int.not_le, ne_eq, Decidable.not_not] at hc11
                      refine vc_skip ?_
                      refine hK19 _ ?_
                      refine vc_region ?_
                      refine vo_move_pv rfl rfl ?_
                      refine vo_binI rfl rfl rfl rfl sd ?_
                      refine vo_assign_pv rfl rfl ?_
                      refine vo_nil ?_
                      change againE _ _ _ _ _ _ _ _ _ _
                      refine againE_mk rfl rfl rfl rfl rfl rfl ⟨_, ?_, k + 1, rfl, ?_, ?_, rfl, rfl⟩
                      · omega
                      · omega
                      · refine (all_take_succ (by omega) ⟨0, []⟩).2 ⟨hf2, ?_⟩
                        unfold okObj; exact ⟨by omega, by omega, by first | assumption | exact ⟨by first | assumption | exact (And.right ‹_ ∧ (nms _).Nodup›), by assumption⟩⟩
            · try simp only [decide_eq_true_eq, decide_eq_false_iff_not, beq_iff_eq, bne_iff_ne, beq_eq_false_iff_ne, bne_eq_false_iff_eq, Bool.not_eq_true, Bool.not_eq_false, Bool.not_eq_eq_eq_not, Bool.not_true, Bool.not_false, List.length_map, Int.not_lt, Int.not_le, ne_eq, Decidable.not_not] at hc7
              refine vc_exit ?_
              refine hK15 _ ?_
              refine vc_seq fun K26 hK26 => ?_
              refine vc_region ?_
              refine vo_assign_pv rfl rfl ?_
              refine vo_nil ?_
              refine hK26 _ ?_
              refine vc_ret ?_
              change retQ _ _ _ _ _
              refine retQ_sel [] (srows := []) (.inr rfl) hC rfl rfl rfl rfl rfl rfl rfl ?_
              refine ⟨?_, rfl⟩
              refine (congrArg (fun b => [bo b]) (?_ : _ = _) : [bo _] = [bo _])
              first
                | (refine bF fun h0 => ?_
                   have h1 := h0.2.1; have h2 := h0.2.2.1
                   first
                     | omega
                     | exact absurd h0.1 (by assumption)
                     | exact absurd h0.1.1 (by assumption)
                     | exact absurd h0.1.2 (by assumption)
                     | exact absurd (h0.2.2.2.1 _ (getD_mem (show k < w.attrs.length by omega) [])) (by assumption)
                     | (have h3 := h0.2.2.2.2 _ (getD_mem (show k < w.objs.length by omega) ⟨0, []⟩)
                        unfold okObj at h3
                        have h4 := h3.2.1
                        first
                          | omega
                          | exact absurd h3.2.2 (by assumption)
                          | exact absurd h3.2.2.2 (by assumption)
                          | exact absurd (⟨by omega, h3.2.2.1⟩ : (w.objs.getD k ⟨0, []⟩).pairs.length ≤ 40 ∧ (nms (w.objs.getD k ⟨0, []⟩).pairs).Nodup) (by assumption)))
                | (rw [take_all (by omega)] at hf2
                   rw [take_all (by omega)] at hf
                   exact bT ⟨by first | assumption | exact ⟨hg1, hg2⟩, by omega, by omega, hf, hf2⟩)


theorem specValidWorld_sat {w : WorldM}  (hw : SW w) : SatAt Try.prog 7 [.pv false (worldP w)] [] (fun res rows => res = [bo (decide (VWorld w))] ∧ rows = []) := by
  refine sat_entry_G (rs := [(2, none)]) Try.func7 rfl rfl (Nat.le_of_ble_eq_true rfl) (Nat.le_of_ble_eq_true rfl) (resTs1 trivial) fun C hC => ?_
  rw [Try.ntmps7]
  replace hC : C.nb = 0 := hC
  refine vc_seq fun K1 hK1 => ?_
  refine vc_region ?_
  refine vo_box rfl rfl ?_
  refine vo_stM ?_
  refine vo_assign_pv rfl rfl ?_
  refine vo_nil ?_
  refine hK1 _ ?_
  refine vc_seq fun K2 hK2 => ?_
  refine vc_region ?_
  refine vo_load_varS rfl rfl rfl Try.underlying32 rfl inf32 sz32 rfl rfl ?_
  refine vo_call0 Try.func19 rfl rfl rfl rfl (specValidWorld0_sat hw) ?_
  rintro _ _ ⟨rfl, rfl⟩
  refine ⟨rfl, rfl, .inl rfl, ?_⟩
  refine vo_stM ?_
  refine vo_assign_pv rfl rfl ?_
  refine vo_nil ?_
  refine hK2 _ ?_
  refine vc_ret ?_
  change retQ _ _ _ _ _
  refine retQ_sel [] (srows := []) (.inr rfl) hC rfl rfl rfl rfl rfl rfl rfl ?_
  refine ⟨?_, rfl⟩
  refine (congrArg (fun b => [bo b]) (?_ : _ = _) : [bo _] = [bo _])
  rfl


theorem FnExactValidWorld_sat {a : WorldM}  (ha : GW63 a) : SatAt Try.prog 3 [.pv false (worldP a)] [] (fun res rows => res = [bo true] ∧ rows = []) := by
  refine sat_entry_G (rs := [(2, none)]) Try.func3 rfl rfl (Nat.le_of_ble_eq_true rfl) (Nat.le_of_ble_eq_true rfl) (resTs1 trivial) fun C hC => ?_
  rw [Try.ntmps3]
  replace hC : C.nb = 0 := hC
  refine vc_seq fun K1 hK1 => ?_
  refine vc_region ?_
  refine vo_box rfl rfl ?_
  refine vo_stM ?_
  refine vo_assign_pv rfl rfl ?_
  refine vo_nil ?_
  refine hK1 _ ?_
  refine vc_seq fun K2 hK2 => ?_
  refine vc_region ?_
  refine vo_assign_pv rfl rfl ?_
  refine vo_nil ?_
  refine hK2 _ ?_
  refine vc_seq fun K3 hK3 => ?_
  refine vc_region ?_
  refine vo_load_varS rfl rfl rfl Try.underlying26 rfl inf26 sz26 rfl rfl ?_
  refine vo_move_pv rfl rfl ?_
  refine vo_call0 Try.func6 rfl rfl rfl rfl (szWorld_sat ha (by omega) (by omega)) ?_
  rintro _ _ ⟨v, hv, rfl, rfl⟩
  refine ⟨rfl, rfl, .inl rfl, ?_⟩
  refine vo_stM ?_
  refine vo_assign_pv rfl rfl ?_
  refine vo_nil ?_
  refine hK3 _ ?_
  refine vc_seq fun K4 hK4 => ?_
  refine vc_seq fun K5 hK5 => ?_
  refine vc_region ?_
  refine vo_move_pv rfl rfl ?_
  refine vo_binI rfl rfl rfl rfl trivial ?_
  refine vo_nil ?_
  refine hK5 _ ?_
  refine vc_cond rfl (fun hc1 => ?_) (fun hc1 => ?_)
  · try simp only [decide_eq_true_eq, decide_eq_false_iff_not, beq_iff_eq, bne_iff_ne, beq_eq_false_iff_ne, bne_eq_false_iff_eq, Bool.not_eq_true, Bool.not_eq_false, Bool.not_eq_eq_eq_not, Bool.not_true, Bool.not_false, List.length_map, Int.not_lt, Int.not_le, ne_eq, Decidable.not_not] at hc1
    refine vc_seq fun K6 hK6 => ?_
    refine vc_region ?_
    refine vo_assign_pv rfl rfl ?_
    refine vo_nil ?_
    refine hK6 _ ?_
    refine vc_ret ?_
    change retQ _ _ _ _ _
    refine retQ_sel [] (srows := []) (.inr rfl) hC rfl rfl rfl rfl rfl rfl rfl ?_
    exact ⟨rfl, rfl⟩
  · try simp only [decide_eq_true_eq, decide_eq_false_iff_not, beq_iff_eq, bne_iff_ne, beq_eq_false_iff_ne, bne_eq_false_iff_eq, Bool.not_eq_true, Bool.not_eq_false, Bool.not_eq_eq_eq_not, Bool.not_true, Bool.not_false, List.length_map, Int.not_lt, Int.not_le, ne_eq, Decidable.not_not] at hc1
    rcases hv with hv | hv
    · omega
    have hs := hv.2.2
    refine vc_skip ?_
    refine hK4 _ ?_
    refine vc_seq fun K7 hK7 => ?_
    refine vc_region ?_
    refine vo_load_varS rfl rfl rfl Try.underlying26 rfl inf26 sz26 rfl rfl ?_
    refine vo_call0 Try.func8 rfl rfl rfl rfl (toWorld_sat hs) ?_
    rintro _ _ ⟨rfl, rfl⟩
    refine ⟨rfl, rfl, .inl rfl, ?_⟩
    refine vo_stM ?_
    refine vo_call0 Try.func7 rfl rfl rfl rfl (specValidWorld_sat hs) ?_
    rintro _ _ ⟨rfl, rfl⟩
    refine ⟨rfl, rfl, .inl rfl, ?_⟩
    refine vo_stM ?_
    refine vo_assign_pv rfl rfl ?_
    refine vo_nil ?_
    refine hK7 _ ?_
    refine vc_seq fun K8 hK8 => ?_
    refine vc_region ?_
    refine vo_load_varS rfl rfl rfl Try.underlying26 rfl inf26 sz26 rfl rfl ?_
    refine vo_call0 Try.func8 rfl rfl rfl rfl (toWorld_sat hs) ?_
    rintro _ _ ⟨rfl, rfl⟩
    refine ⟨rfl, rfl, .inl rfl, ?_⟩
    refine vo_stM ?_
    refine vo_alloc Z32 rfl ?_
    refine vo_stM ?_
    refine vo_store_varS rfl rfl rfl inf32 sz32 rfl ?_
    refine vo_stM ?_
    refine vo_nil ?_
    refine hK8 _ ?_
    refine vc_seq fun K9 hK9 => ?_
    refine vc_region ?_
    refine vo_load_varS rfl rfl rfl Try.underlying32 rfl inf32 sz32 rfl rfl ?_
    refine vo_call0 Try.func9 rfl rfl rfl rfl (implValidWorld_sat hs) ?_
    rintro _ _ ⟨rfl, rfl⟩
    refine ⟨rfl, rfl, .inl rfl, ?_⟩
    refine vo_stM ?_
    refine vo_assign_pv rfl rfl ?_
    refine vo_nil ?_
    refine hK9 _ ?_
    refine vc_seq fun K10 hK10 => ?_
    refine vc_seq fun K11 hK11 => ?_
    refine vc_region ?_
    refine vo_move_pv rfl rfl ?_
    refine vo_move_pv rfl rfl ?_
    refine vo_binB rfl rfl rfl rfl Try.underlying4 ?_
    refine vo_nil ?_
    refine hK11 _ ?_
    refine vc_cond rfl (fun hc2 => ?_) (fun hc2 => ?_)
    · try simp only [decide_eq_true_eq, decide_eq_false_iff_not, beq_iff_eq, bne_iff_ne, beq_eq_false_iff_ne, bne_eq_false_iff_eq, Bool.not_eq_true, Bool.not_eq_false, Bool.not_eq_eq_eq_not, Bool.not_true, Bool.not_false, List.length_map, Int.not_lt, Int.not_le, ne_eq, Decidable.not_not] at hc2
      refine vc_seq fun K12 hK12 => ?_
      refine vc_region ?_
      refine vo_assign_pv rfl rfl ?_
      refine vo_nil ?_
      refine hK12 _ ?_
      refine vc_ret ?_
      change retQ _ _ _ _ _
      refine retQ_sel [] (srows := []) (.inr rfl) hC rfl rfl rfl rfl rfl rfl rfl ?_
      first | exact ⟨rfl, rfl⟩ | exact absurd trivial hc2 | exact absurd trivial hc3
    · try simp only [decide_eq_true_eq, decide_eq_false_iff_not, beq_iff_eq, bne_iff_ne, beq_eq_false_iff_ne, bne_eq_false_iff_eq, Bool.not_eq_true, Bool.not_eq_false, Bool.not_eq_eq_eq_not, Bool.not_true, Bool.not_false, List.length_map, Int.not_lt, Int.not_le, ne_eq, Decidable.not_not] at hc2
      refine vc_skip ?_
      refine hK10 _ ?_
      refine vc_seq fun K13 hK13 => ?_
      refine vc_seq fun K14 hK14 => ?_
      refine vc_draw (by kernel_rfl) ?_
      change VD _ _ _ 5 _ _ _
      refine vd_light 0 rfl rfl rfl (by kernel_rfl) (by kernel_rfl) (by kernel_rfl) (wnt_none rfl) (lt_load_varS rfl rfl Try.underlying32 rfl inf32 sz32 rfl rfl) ?_
      refine vd_light 1 rfl rfl rfl (by kernel_rfl) (by kernel_rfl) (by kernel_rfl) (wnt_none rfl) (lt_load_varS rfl rfl Try.underlying26 rfl inf26 sz26 rfl rfl) ?_
      refine vd_call 2 rfl (by kernel_rfl) (wnt_none rfl) Try.func8 rfl rfl rfl rfl (toWorld_sat hs) ?_
      rintro _ _ ⟨rfl, rfl⟩
      refine ⟨rfl, rfl, .inl rfl, ?_⟩
      refine vd_stM ?_
      refine vd_call 3 rfl (by kernel_rfl) (wnt_none rfl) Try.func10 rfl rfl rfl rfl (eqWorld_sat hs hs) ?_
      rintro _ _ ⟨rfl, rfl⟩
      refine ⟨rfl, rfl, .inl rfl, ?_⟩
      refine vd_stM ?_
      refine vd_light 4 rfl rfl rfl (by kernel_rfl) (by kernel_rfl) (by kernel_rfl) (wnt_none rfl) (lt_not rfl) ?_
      refine vd_nil (by kernel_rfl) ?_
      refine hK14 _ ?_
      refine vc_cond rfl (fun hc3 => ?_) (fun hc3 => ?_)
      · try simp only [decide_eq_true_eq, decide_eq_false_iff_not, beq_iff_eq, bne_iff_ne, beq_eq_false_iff_ne, bne_eq_false_iff_eq, Bool.not_eq_true, Bool.not_eq_false, Bool.not_eq_eq_eq_not, Bool.not_true, Bool.not_false, List.length_map, Int.not_lt, Int.not_le, ne_eq, Decidable.not_not] at hc3
        refine vc_seq fun K15 hK15 => ?_
        refine vc_region ?_
        refine vo_assign_pv rfl rfl ?_
        refine vo_nil ?_
        refine hK15 _ ?_
        refine vc_ret ?_
        change retQ _ _ _ _ _
        refine retQ_sel [] (srows := []) (.inr rfl) hC rfl rfl rfl rfl rfl rfl rfl ?_
        first | exact ⟨rfl, rfl⟩ | exact absurd trivial hc2 | exact absurd trivial hc3
      · try simp only [decide_eq_true_eq, decide_eq_false_iff_not, beq_iff_eq, bne_iff_ne, beq_eq_false_iff_ne, bne_eq_false_iff_eq, Bool.not_eq_true, Bool.not_eq_false, Bool.not_eq_eq_eq_not, Bool.not_true, Bool.not_false, List.length_map, Int.not_lt, Int.not_le, ne_eq, Decidable.not_not] at hc3
        refine vc_skip ?_
        refine hK13 _ ?_
        refine vc_seq fun K16 hK16 => ?_
        refine vc_region ?_
        refine vo_assign_pv rfl rfl ?_
        refine vo_nil ?_
        refine hK16 _ ?_
        refine vc_ret ?_
        change retQ _ _ _ _ _
        refine retQ_sel [] (srows := []) (.inr rfl) hC rfl rfl rfl rfl rfl rfl rfl ?_
        first | exact ⟨rfl, rfl⟩ | exact absurd trivial hc2 | exact absurd trivial hc3

end Go.Vl


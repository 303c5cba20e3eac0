/- Part 7 of the texts that the proof of FnNamesOf is built on. -/
import Derived.Test.YtdkgldahahggfaaVl6
namespace Go.Vl
set_option linter.unusedVariables false
set_option linter.unusedSimpArgs false
open Go.Proofs

def selN (p : Int → Bool) (k : Nat) : List Int := ((List.range k).map fun i : Nat => (i : Int)).filter p
theorem selN_yes {p : Int → Bool} {k : Nat} (h : p k = true) : selN p (k + 1) = selN p k ++ [(k : Int)] := by
  unfold selN; rw [List.range_succ, List.map_append, List.filter_append]; simp [h]
theorem selN_no {p : Int → Bool} {k : Nat} (h : ¬ p k = true) : selN p (k + 1) = selN p k := by
  unfold selN; rw [List.range_succ, List.map_append, List.filter_append]; simp [h]
theorem selN_len (p : Int → Bool) (k : Nat) : (selN p k).length ≤ k := by
  unfold selN; refine Nat.le_trans (List.length_filter_le _ _) (by simp)
theorem selN_congr {p q : Int → Bool} (h : ∀ n, p n = q n) (k : Nat) : selN p k = selN q k := by
  unfold selN; exact List.filter_congr fun x _ => h x
def namP (w : WorldM) (x n : Int) : Bool := decide ((getAttrM w x n).how ≠ 0)
def namM (w : WorldM) (x : Int) : List Int := selN (namP w x) 10
theorem namM_no {w : WorldM} {x : Int} (h : ¬ hasO w x) : namM w x = [] := by
  unfold namM selN
  rw [List.filter_eq_nil_iff]
  intro n _
  unfold namP getAttrM
  rw [if_neg h]
  simp [none0]
theorem how_iff {w : WorldM} {x n : Int} (hO : hasO w x) : namP w x n = true ↔ n ∈ nms (w.objs.getD x.toNat ⟨0, []⟩).pairs ∨ ∃ c ∈ ordM w.bases (w.objs.getD x.toNat ⟨0, []⟩).cls.toNat, n ∈ anms (w.attrs.getD c.toNat []) := by
  have h2 := hasO_cls hO
  have hok := ordM_ok hO.1.1.1 (w.objs.getD x.toNat ⟨0, []⟩).cls.toNat (by omega)
  have e1 : n ∈ nms (w.objs.getD x.toNat ⟨0, []⟩).pairs ↔ 0 ≤ findM n (nms (w.objs.getD x.toNat ⟨0, []⟩).pairs) 0 := (findM_mem n _ 0 (by omega)).symm
  have e2 : (∃ c ∈ ordM w.bases (w.objs.getD x.toNat ⟨0, []⟩).cls.toNat, n ∈ anms (w.attrs.getD c.toNat [])) ↔ 0 ≤ (fnd w.attrs n (ordM w.bases (w.objs.getD x.toNat ⟨0, []⟩).cls.toNat)).1 := by
    constructor
    · rintro ⟨c, hc, hn⟩
      cases ho : ownrs w.attrs n (ordM w.bases (w.objs.getD x.toNat ⟨0, []⟩).cls.toNat) with
      | nil =>
        unfold ownrs at ho
        rw [List.filter_eq_nil_iff] at ho
        exact absurd (decide_eq_true ((findM_mem n _ 0 (by omega)).2 hn)) (ho c hc)
      | cons y r =>
        have h3 := (fnd_ownrs _ _ _).2 y r ho
        rw [h3.1]
        exact (hok.2 y h3.2.2).1
    · intro h
      have h3 := fnd_own h
      exact ⟨_, h3.2, (findM_mem n _ 0 (by omega)).1 h3.1⟩
  rw [e1, e2]
  unfold namP
  rw [getAttrM_yes hO, fndM_obj hO, decide_eq_true_iff]
  generalize fnd w.attrs n (ordM w.bases (w.objs.getD x.toNat ⟨0, []⟩).cls.toNat) = R
  generalize ((w.objs.getD x.toNat ⟨0, []⟩).pairs.getD (findM n (nms (w.objs.getD x.toNat ⟨0, []⟩).pairs) 0).toNat (0, 0)).2 = pv
  generalize findM n (nms (w.objs.getD x.toNat ⟨0, []⟩).pairs) 0 = zz
  generalize (w.objs.getD x.toNat ⟨0, []⟩).cls = cl
  have hx := hO.2.1
  have hb : (bindM R.1 R.2 x cl).how ≠ 0 := by
    unfold bindM
    split
    · simp [hx]
    · split
      · simp
      · split <;> simp
  unfold getR
  by_cases h1 : 0 ≤ R.1
  · by_cases hk : R.2.kind = 2 ∨ R.2.kind = 3
    · rw [if_pos ⟨h1, hk⟩]; exact ⟨fun _ => .inr h1, fun _ => hb⟩
    · rw [if_neg (fun h => hk h.2)]
      by_cases hz : 0 ≤ zz
      · rw [if_pos hz]; exact ⟨fun _ => .inl hz, fun _ => by simp⟩
      · rw [if_neg hz, if_pos h1]; exact ⟨fun _ => .inr h1, fun _ => hb⟩
  · rw [if_neg (fun h => h1 h.1)]
    by_cases hz : 0 ≤ zz
    · rw [if_pos hz]; exact ⟨fun _ => .inl hz, fun _ => by simp⟩
    · rw [if_neg hz, if_neg h1]
      exact ⟨fun h => absurd rfl h, fun h => by rcases h with h | h; exact absurd h hz; exact absurd h h1⟩

theorem nam_step {X Y : List Int} {P : List (Int × Int)} {A : Nat → List AttrM} {i : Nat} (hX : ∀ n, n ∈ X ↔ n ∈ nms P ∨ ∃ j, j < i ∧ n ∈ anms (A j)) (hY : ∀ n, n ∈ Y ↔ n ∈ X ∨ n ∈ anms (A i)) : ∀ n, n ∈ Y ↔ n ∈ nms P ∨ ∃ j, j < i + 1 ∧ n ∈ anms (A j) := by
  intro n
  rw [hY n, hX n]
  constructor
  · rintro ((h | ⟨j, hj, h⟩) | h)
    · exact .inl h
    · exact .inr ⟨j, by omega, h⟩
    · exact .inr ⟨i, by omega, h⟩
  · rintro (h | ⟨j, hj, h⟩)
    · exact .inl (.inl h)
    · rcases Nat.lt_or_ge j i with h2 | h2
      · exact .inl (.inr ⟨j, h2, h⟩)
      · rw [show j = i by omega] at h; exact .inr h
theorem nam_fin {w : WorldM} {x : Int} {X : List Int} (hO : hasO w x) (hX : ∀ n, n ∈ X ↔ n ∈ nms (w.objs.getD x.toNat ⟨0, []⟩).pairs ∨ ∃ j, j < (ordM w.bases (w.objs.getD x.toNat ⟨0, []⟩).cls.toNat).length ∧ n ∈ anms (w.attrs.getD ((ordM w.bases (w.objs.getD x.toNat ⟨0, []⟩).cls.toNat).getD j 0).toNat [])) :
    namM w x = selN (fun i => decide (i ∈ X)) 10 := by
  unfold namM
  refine selN_congr (fun n => ?_) 10
  rw [Bool.eq_iff_iff, how_iff hO, decide_eq_true_iff, hX n]
  constructor
  · rintro (h | ⟨c, hc, h⟩)
    · exact .inl h
    · obtain ⟨j, hj, e⟩ := List.getElem_of_mem hc
      refine .inr ⟨j, hj, ?_⟩
      have e2 : (ordM w.bases (w.objs.getD x.toNat ⟨0, []⟩).cls.toNat).getD j 0 = c := by rw [List.getD_eq_getElem?_getD, List.getElem?_eq_getElem hj]; exact e
      rw [e2]; exact h
  · rintro (h | ⟨j, hj, h⟩)
    · exact .inl h
    · exact .inr ⟨_, getD_mem hj 0, h⟩

theorem implNamesOf_sat {w : WorldM} {x : Int}  (hw : SW w) : SatAt Try.prog 30 [.pv false (worldP w), i64 x] [] (fun res rows => ∃ nl, res = [.pv true (.sl nl 1 ((namM w x).map intP))] ∧ rows = []) := by
 refine sat_entry_G (rs := [(4, none)]) Try.func30 rfl rfl (Nat.le_of_ble_eq_true rfl) (Nat.le_of_ble_eq_true rfl) (resTs1 trivial) fun C hC => ?_
 rw [Try.ntmps30]
 replace hC : C.nb = 0 := hC
 refine vc_seq fun K1 hK1 => ?_
 refine vc_region ?_
 refine vo_box rfl rfl ?_
 refine vo_stM ?_
 refine vo_assign_pv rfl rfl ?_
 refine vo_nil ?_
 refine hK1 _ ?_
 refine vc_seq fun K2 hK2 => ?_
 refine vc_region ?_
 refine vo_assign_pv rfl rfl ?_
 refine vo_nil ?_
 refine hK2 _ ?_
 refine vc_seq fun K3 hK3 => ?_
 refine vc_seq fun K4 hK4 => ?_
 refine vc_region ?_
 refine vo_move_pv rfl rfl ?_
 refine vo_nil ?_
 refine hK4 _ ?_
 refine vc_block ?_
 refine vc_own_nil 5 E34 rfl ?_
 refine vc_stM ?_
 refine vc_loopE [1, 2] [5, 7] [1] _ _ (fun mz vs rs => ∃ (k : Nat), mz = 10 - k ∧ (k ≤ 10) ∧ vs = [.ref 1, i64 k] ∧ rs = [Row.own 3 1 none true ((selN (namP w x) (k)).map intP)]) (10) rfl rfl (le_len hC rfl) ⟨rfl, rfl, rfl⟩ rfl ⟨0, rfl, Nat.zero_le _, rfl, rfl⟩ ?_
 rintro mz vs rs - - ⟨k, rfl, hk, rfl, rfl⟩
 refine vc_stM ?_
 have hsl := selN_len (namP w x) k
 refine vc_seq fun K5 hK5 => ?_
 refine vc_region ?_
 refine vo_binI rfl rfl rfl rfl trivial ?_
 refine vo_nil ?_
 refine hK5 _ ?_
 refine vc_seq fun K6 hK6 => ?_
 refine vc_cond rfl (fun hc1 => ?_) (fun hc1 => ?_)
 ·try simp only [zq0, zq1, zq2, zq3, zq4, zq5, zq6, zq7, zq8, zq9, zqa, zqb, zqc, zqd, zqe, zqf] at hc1
  refine vc_skip ?_
  refine hK6 _ ?_
  refine vc_seq fun K7 hK7 => ?_
  refine vc_block ?_
  refine vc_seq fun K8 hK8 => ?_
  refine vc_region ?_
  refine vo_move_pv rfl rfl ?_
  refine vo_assign_pv rfl rfl ?_
  refine vo_nil ?_
  refine hK8 _ ?_
  refine vc_seq fun K9 hK9 => ?_
  refine vc_region ?_
  refine vo_load_varS rfl rfl rfl Try.underlying27 rfl inf27 sz27 rfl rfl ?_
  refine vo_move_pv rfl rfl ?_
  refine vo_move_pv rfl rfl ?_
  refine vo_call0 Try.func17 rfl rfl rfl rfl (implGetAttr_sat hw) ?_
  rintro _ _ ⟨rfl, rfl⟩
  refine ⟨rfl, rfl, .inl rfl, ?_⟩
  refine vo_stM ?_
  refine vo_field1 rfl rfl Try.underlying37 rfl Try.underlying3 rfl rfl ?_
  refine vo_binI rfl rfl rfl rfl trivial ?_
  refine vo_nil ?_
  refine hK9 _ ?_
  refine vc_cond rfl (fun hc2 => ?_) (fun hc2 => ?_)
  ·try simp only [zq0, zq1, zq2, zq3, zq4, zq5, zq6, zq7, zq8, zq9, zqa, zqb, zqc, zqd, zqe, zqf] at hc2
   refine vc_region ?_
   refine vo_move_ref rfl rfl ?_
   refine vo_move_pv rfl rfl ?_
   refine vo_buildSlice E34 rfl rfl rfl rfl rfl ?_
   refine vo_stM ?_
   refine vo_append E34 rfl (by omega) rfl rfl rfl sd sd ?_
   refine vo_stM ?_
   try simp only [app_ints, app_intss, app_bools]
   refine vo_assign_ref rfl rfl ?_
   refine vo_nil ?_
   refine hK7 _ ?_
   refine vc_region ?_
   refine vo_binI rfl rfl rfl rfl sd ?_
   refine vo_move_pv rfl rfl ?_
   refine vo_nil ?_
   change againE _ _ _ _ _ _ _ _ _ _
   refine againE_mk rfl rfl rfl rfl rfl rfl ⟨_, ?_, k + 1, rfl, ?_, rfl, (congrArg (fun l => [Row.own 3 1 none true (List.map intP l)]) (show selN (namP w x) k ++ [(k : Int)] = selN (namP w x) (k + 1) by rw [selN_yes (by unfold namP; exact decide_eq_true (by assumption))]))⟩
   ·omega
   ·omega
  ·try simp only [zq0, zq1, zq2, zq3, zq4, zq5, zq6, zq7, zq8, zq9, zqa, zqb, zqc, zqd, zqe, zqf] at hc2
   refine vc_skip ?_
   refine hK7 _ ?_
   refine vc_region ?_
   refine vo_binI rfl rfl rfl rfl sd ?_
   refine vo_move_pv rfl rfl ?_
   refine vo_nil ?_
   change againE _ _ _ _ _ _ _ _ _ _
   refine againE_mk rfl rfl rfl rfl rfl rfl ⟨_, ?_, k + 1, rfl, ?_, rfl, (congrArg (fun l => [Row.own 3 1 none true (List.map intP l)]) (show selN (namP w x) k = selN (namP w x) (k + 1) by rw [selN_no (by unfold namP; intro h; exact absurd (by assumption) (of_decide_eq_true h))]))⟩
   ·omega
   ·omega
 ·try simp only [zq0, zq1, zq2, zq3, zq4, zq5, zq6, zq7, zq8, zq9, zqa, zqb, zqc, zqd, zqe, zqf] at hc1
  refine vc_exit ?_
  refine hK3 _ ?_
  refine vc_seq fun K10 hK10 => ?_
  refine vc_region ?_
  refine vo_move_ref rfl rfl ?_
  refine vo_assign_ref rfl rfl ?_
  refine vo_nil ?_
  refine hK10 _ ?_
  refine vc_expose 1 (by omega) rfl ?_
  refine vc_stM ?_
  refine vc_ret ?_
  change retQ _ _ _ _ _
  refine retQ_sel [] (srows := []) (.inr rfl) hC rfl rfl rfl rfl rfl rfl rfl ?_
  rw [show k = 10 by omega]; exact ⟨_, rfl, rfl⟩


theorem specNamesOf_sat {w : WorldM} {x : Int}  (hw : SW w) : SatAt Try.prog 31 [.pv false (worldP w), i64 x] [] (fun res rows => ∃ nl, res = [.pv true (.sl nl 1 ((namM w x).map intP))] ∧ rows = []) := by
 refine sat_entry_G (rs := [(4, none)]) Try.func31 rfl rfl (Nat.le_of_ble_eq_true rfl) (Nat.le_of_ble_eq_true rfl) (resTs1 trivial) fun C hC => ?_
 rw [Try.ntmps31]
 replace hC : C.nb = 0 := hC
 refine vc_seq fun K1 hK1 => ?_
 refine vc_region ?_
 refine vo_box rfl rfl ?_
 refine vo_stM ?_
 refine vo_assign_pv rfl rfl ?_
 refine vo_own_nil 4 E34 rfl ?_
 refine vo_nil ?_
 refine hK1 _ ?_
 refine vc_seq fun K2 hK2 => ?_
 refine vc_seq fun K3 hK3 => ?_
 refine vc_region ?_
 refine vo_load_varS rfl rfl rfl Try.underlying27 rfl inf27 sz27 rfl rfl ?_
 refine vo_move_pv rfl rfl ?_
 refine vo_call0 Try.func58 rfl rfl rfl rfl (validObject_sat hw) ?_
 rintro _ _ ⟨rfl, rfl⟩
 refine ⟨rfl, rfl, .inl rfl, ?_⟩
 refine vo_stM ?_
 refine vo_not rfl rfl ?_
 refine vo_nil ?_
 refine hK3 _ ?_
 refine vc_cond rfl (fun hc1 => ?_) (fun hc1 => ?_)
 ·try simp only [zq0, zq1, zq2, zq3, zq4, zq5, zq6, zq7, zq8, zq9, zqa, zqb, zqc, zqd, zqe, zqf] at hc1
  refine vc_seq fun K4 hK4 => ?_
  refine vc_region ?_
  refine vo_assign_pv rfl rfl ?_
  refine vo_own_nil 4 E34 rfl ?_
  refine vo_nil ?_
  refine hK4 _ ?_
  refine vc_expose 2 (by omega) rfl ?_
  refine vc_stM ?_
  refine vc_ret ?_
  change retQ _ _ _ _ _
  refine retQ_sel [] (srows := []) (.inr rfl) hC rfl rfl rfl rfl rfl rfl rfl ?_
  rw [namM_no (by assumption)]; exact ⟨_, rfl, rfl⟩
 ·try simp only [zq0, zq1, zq2, zq3, zq4, zq5, zq6, zq7, zq8, zq9, zqa, zqb, zqc, zqd, zqe, zqf] at hc1
  have hge : ∀ n, getAttrM w x n = getM w x.toNat n := fun n => by unfold getAttrM; rw [if_pos hc1]
  refine vc_skip ?_
  refine hK2 _ ?_
  refine vc_seq fun K5 hK5 => ?_
  refine vc_region ?_
  refine vo_buildSlice E34 rfl rfl rfl rfl rfl ?_
  refine vo_stM ?_
  refine vo_assign_ref rfl rfl ?_
  refine vo_nil ?_
  refine hK5 _ ?_
  refine vc_seq fun K6 hK6 => ?_
  refine vc_seq fun K7 hK7 => ?_
  refine vc_region ?_
  refine vo_assign_pv rfl rfl ?_
  refine vo_nil ?_
  refine hK7 _ ?_
  refine vc_block ?_
  refine vc_stM ?_
  refine vc_loopE [1, 2] [5, 6] [2] _ _ (fun mz vs rs => ∃ (k : Nat), mz = 10 - k ∧ (k ≤ 10) ∧ vs = [.ref 2, i64 k] ∧ rs = [Row.own 3 1 (some false) true ((selN (namP w x) (k)).map intP)]) (10) rfl rfl (le_len hC rfl) ⟨rfl, rfl, rfl⟩ rfl ⟨0, rfl, Nat.zero_le _, rfl, rfl⟩ ?_
  rintro mz vs rs - - ⟨k, rfl, hk, rfl, rfl⟩
  refine vc_stM ?_
  have hsl := selN_len (namP w x) k
  refine vc_seq fun K8 hK8 => ?_
  refine vc_seq fun K9 hK9 => ?_
  refine vc_region ?_
  refine vo_move_pv rfl rfl ?_
  refine vo_binI rfl rfl rfl rfl trivial ?_
  refine vo_nil ?_
  refine hK9 _ ?_
  refine vc_cond rfl (fun hc2 => ?_) (fun hc2 => ?_)
  ·try simp only [zq0, zq1, zq2, zq3, zq4, zq5, zq6, zq7, zq8, zq9, zqa, zqb, zqc, zqd, zqe, zqf] at hc2
   refine vc_skip ?_
   refine hK8 _ ?_
   refine vc_seq fun K10 hK10 => ?_
   refine vc_block ?_
   refine vc_seq fun K11 hK11 => ?_
   refine vc_region ?_
   refine vo_load_varS rfl rfl rfl Try.underlying27 rfl inf27 sz27 rfl rfl ?_
   refine vo_move_pv rfl rfl ?_
   refine vo_move_pv rfl rfl ?_
   refine vo_call0 Try.func59 rfl rfl rfl rfl (get_sat hw hc1) ?_
   rintro _ _ ⟨rfl, rfl⟩
   refine ⟨rfl, rfl, .inl rfl, ?_⟩
   refine vo_stM ?_
   refine vo_field1 rfl rfl Try.underlying37 rfl Try.underlying3 rfl rfl ?_
   refine vo_binI rfl rfl rfl rfl trivial ?_
   refine vo_nil ?_
   refine hK11 _ ?_
   refine vc_cond rfl (fun hc3 => ?_) (fun hc3 => ?_)
   ·try simp only [zq0, zq1, zq2, zq3, zq4, zq5, zq6, zq7, zq8, zq9, zqa, zqb, zqc, zqd, zqe, zqf] at hc3
    refine vc_region ?_
    refine vo_move_ref rfl rfl ?_
    refine vo_move_pv rfl rfl ?_
    refine vo_buildSlice E34 rfl rfl rfl rfl rfl ?_
    refine vo_stM ?_
    refine vo_append E34 rfl (by omega) rfl rfl rfl sd sd ?_
    refine vo_stM ?_
    try simp only [app_ints, app_intss, app_bools]
    refine vo_assign_ref rfl rfl ?_
    refine vo_nil ?_
    refine hK10 _ ?_
    refine vc_region ?_
    refine vo_move_pv rfl rfl ?_
    refine vo_binI rfl rfl rfl rfl sd ?_
    refine vo_assign_pv rfl rfl ?_
    refine vo_nil ?_
    change againE _ _ _ _ _ _ _ _ _ _
    refine againE_mk rfl rfl rfl rfl rfl rfl ⟨_, ?_, k + 1, rfl, ?_, rfl, (congrArg (fun l => [Row.own 3 1 (some false) true (List.map intP l)]) (show selN (namP w x) k ++ [(k : Int)] = selN (namP w x) (k + 1) by rw [selN_yes (by unfold namP; rw [hge]; exact decide_eq_true (by assumption))]))⟩
    ·omega
    ·omega
   ·try simp only [zq0, zq1, zq2, zq3, zq4, zq5, zq6, zq7, zq8, zq9, zqa, zqb, zqc, zqd, zqe, zqf] at hc3
    refine vc_skip ?_
    refine hK10 _ ?_
    refine vc_region ?_
    refine vo_move_pv rfl rfl ?_
    refine vo_binI rfl rfl rfl rfl sd ?_
    refine vo_assign_pv rfl rfl ?_
    refine vo_nil ?_
    change againE _ _ _ _ _ _ _ _ _ _
    refine againE_mk rfl rfl rfl rfl rfl rfl ⟨_, ?_, k + 1, rfl, ?_, rfl, (congrArg (fun l => [Row.own 3 1 (some false) true (List.map intP l)]) (show selN (namP w x) k = selN (namP w x) (k + 1) by rw [selN_no (by unfold namP; rw [hge]; intro h; exact absurd (by assumption) (of_decide_eq_true h))]))⟩
    ·omega
    ·omega
  ·try simp only [zq0, zq1, zq2, zq3, zq4, zq5, zq6, zq7, zq8, zq9, zqa, zqb, zqc, zqd, zqe, zqf] at hc2
   refine vc_exit ?_
   refine hK6 _ ?_
   refine vc_seq fun K12 hK12 => ?_
   refine vc_region ?_
   refine vo_move_ref rfl rfl ?_
   refine vo_assign_ref rfl rfl ?_
   refine vo_nil ?_
   refine hK12 _ ?_
   refine vc_expose 2 (by omega) rfl ?_
   refine vc_stM ?_
   refine vc_ret ?_
   change retQ _ _ _ _ _
   refine retQ_sel [] (srows := []) (.inr rfl) hC rfl rfl rfl rfl rfl rfl rfl ?_
   rw [show k = 10 by omega]; exact ⟨_, rfl, rfl⟩


theorem sortedS_sat {nl0 : Option Bool} {list : List Int} {n : Nat} (hlist : list.length < 1000000000) (hn : n < 1000000) : SatAt Try.prog 32 [.pv false (.sl nl0 1 (list.map intP)), i64 n] [] (fun res rows => res = [.ref 0] ∧ rows = [Row.own 3 1 (some false) true ((selN (fun i => decide (i ∈ list)) (n)).map intP)]) := by
 refine sat_entry_G (rs := [(4, none)]) Try.func32 rfl rfl (Nat.le_of_ble_eq_true rfl) (Nat.le_of_ble_eq_true rfl) (resTs1 trivial) fun C hC => ?_
 rw [Try.ntmps32]
 replace hC : C.nb = 0 := hC
 refine vc_seq fun K1 hK1 => ?_
 refine vc_region ?_
 refine vo_assign_pv rfl rfl ?_
 refine vo_nil ?_
 refine hK1 _ ?_
 refine vc_seq fun K2 hK2 => ?_
 refine vc_region ?_
 refine vo_buildSlice E34 rfl rfl rfl rfl rfl ?_
 refine vo_stM ?_
 refine vo_assign_ref rfl rfl ?_
 refine vo_nil ?_
 refine hK2 _ ?_
 refine vc_seq fun K3 hK3 => ?_
 refine vc_seq fun K4 hK4 => ?_
 refine vc_region ?_
 refine vo_assign_pv rfl rfl ?_
 refine vo_nil ?_
 refine hK4 _ ?_
 refine vc_block ?_
 refine vc_stM ?_
 refine vc_loopE [0, 1] [5, 6] [0] _ _ (fun mz vs rs => ∃ (k : Nat), mz = n - k ∧ (k ≤ n) ∧ vs = [.ref 0, i64 k] ∧ rs = [Row.own 3 1 (some false) true ((selN (fun i => decide (i ∈ list)) (k)).map intP)]) (n) rfl rfl (le_len hC rfl) ⟨rfl, rfl, rfl⟩ rfl ⟨0, rfl, Nat.zero_le _, rfl, rfl⟩ ?_
 rintro mz vs rs - - ⟨k, rfl, hk, rfl, rfl⟩
 refine vc_stM ?_
 have hsl := selN_len (fun i => decide (i ∈ list)) k
 refine vc_seq fun K5 hK5 => ?_
 refine vc_seq fun K6 hK6 => ?_
 refine vc_region ?_
 refine vo_move_pv rfl rfl ?_
 refine vo_move_pv rfl rfl ?_
 refine vo_binI rfl rfl rfl rfl trivial ?_
 refine vo_nil ?_
 refine hK6 _ ?_
 refine vc_cond rfl (fun hc1 => ?_) (fun hc1 => ?_)
 ·try simp only [zq0, zq1, zq2, zq3, zq4, zq5, zq6, zq7, zq8, zq9, zqa, zqb, zqc, zqd, zqe, zqf] at hc1
  refine vc_skip ?_
  refine hK5 _ ?_
  refine vc_seq fun K7 hK7 => ?_
  refine vc_block ?_
  refine vc_seq fun K8 hK8 => ?_
  refine vc_region ?_
  refine vo_move_pv rfl rfl ?_
  refine vo_move_pv rfl rfl ?_
  refine vo_call0 Try.func71 rfl rfl rfl rfl (isIn_sat hlist) ?_
  rintro _ _ ⟨rfl, rfl⟩
  refine ⟨rfl, rfl, .inl rfl, ?_⟩
  refine vo_stM ?_
  refine vo_nil ?_
  refine hK8 _ ?_
  refine vc_cond rfl (fun hc2 => ?_) (fun hc2 => ?_)
  ·try simp only [zq0, zq1, zq2, zq3, zq4, zq5, zq6, zq7, zq8, zq9, zqa, zqb, zqc, zqd, zqe, zqf] at hc2
   refine vc_region ?_
   refine vo_move_ref rfl rfl ?_
   refine vo_move_pv rfl rfl ?_
   refine vo_buildSlice E34 rfl rfl rfl rfl rfl ?_
   refine vo_stM ?_
   refine vo_append E34 rfl (by omega) rfl rfl rfl sd sd ?_
   refine vo_stM ?_
   try simp only [app_ints, app_intss, app_bools]
   refine vo_assign_ref rfl rfl ?_
   refine vo_nil ?_
   refine hK7 _ ?_
   refine vc_region ?_
   refine vo_move_pv rfl rfl ?_
   refine vo_binI rfl rfl rfl rfl sd ?_
   refine vo_assign_pv rfl rfl ?_
   refine vo_nil ?_
   change againE _ _ _ _ _ _ _ _ _ _
   refine againE_mk rfl rfl rfl rfl rfl rfl ⟨_, ?_, k + 1, rfl, ?_, rfl, (congrArg (fun l => [Row.own 3 1 (some false) true (List.map intP l)]) (show selN (fun i => decide (i ∈ list)) k ++ [(k : Int)] = selN (fun i => decide (i ∈ list)) (k + 1) by rw [selN_yes (decide_eq_true (by assumption))]))⟩
   ·omega
   ·omega
  ·try simp only [zq0, zq1, zq2, zq3, zq4, zq5, zq6, zq7, zq8, zq9, zqa, zqb, zqc, zqd, zqe, zqf] at hc2
   refine vc_skip ?_
   refine hK7 _ ?_
   refine vc_region ?_
   refine vo_move_pv rfl rfl ?_
   refine vo_binI rfl rfl rfl rfl sd ?_
   refine vo_assign_pv rfl rfl ?_
   refine vo_nil ?_
   change againE _ _ _ _ _ _ _ _ _ _
   refine againE_mk rfl rfl rfl rfl rfl rfl ⟨_, ?_, k + 1, rfl, ?_, rfl, (congrArg (fun l => [Row.own 3 1 (some false) true (List.map intP l)]) (show selN (fun i => decide (i ∈ list)) k = selN (fun i => decide (i ∈ list)) (k + 1) by rw [selN_no (fun h => absurd (of_decide_eq_true h) (by assumption))]))⟩
   ·omega
   ·omega
 ·try simp only [zq0, zq1, zq2, zq3, zq4, zq5, zq6, zq7, zq8, zq9, zqa, zqb, zqc, zqd, zqe, zqf] at hc1
  refine vc_exit ?_
  refine hK3 _ ?_
  refine vc_seq fun K9 hK9 => ?_
  refine vc_region ?_
  refine vo_move_ref rfl rfl ?_
  refine vo_assign_ref rfl rfl ?_
  refine vo_nil ?_
  refine hK9 _ ?_
  refine vc_ret ?_
  change retQ _ _ _ _ _
  refine retQ_sel [0] (srows := [_]) (.inr rfl) hC rfl rfl rfl rfl rfl rfl rfl ?_
  rw [show k = n by omega]; exact ⟨rfl, rfl⟩

set_option maxHeartbeats 4000000 in
theorem FnNamesOf_sat {nl : Option Bool} {code : List (Fin 256)} : SatAt Try.prog 8 [.pv false (.sl nl 1 (code.map byteP))] [] (fun res rows => res = [bo true] ∧ rows = []) := by
 refine sat_entry_G (rs := [(2, none)]) Try.func8 rfl rfl (Nat.le_of_ble_eq_true rfl) (Nat.le_of_ble_eq_true rfl) (resTs1 trivial) fun C hC => ?_
 rw [Try.ntmps8]
 replace hC : C.nb = 0 := hC
 refine vc_seq fun K1 hK1 => ?_
 refine vc_region ?_
 refine vo_assign_pv rfl rfl ?_
 refine vo_nil ?_
 refine hK1 _ ?_
 refine vc_seq fun K2 hK2 => ?_
 refine vc_seq fun K3 hK3 => ?_
 refine vc_region ?_
 refine vo_move_pv rfl rfl ?_
 refine vo_len_pv rfl rfl Try.underlying22 ?_
 refine vo_binI rfl rfl rfl rfl trivial ?_
 refine vo_nil ?_
 refine hK3 _ ?_
 refine vc_cond rfl (fun hc1 => ?_) (fun hc1 => ?_)
 ·try simp only [zq0, zq1, zq2, zq3, zq4, zq5, zq6, zq7, zq8, zq9, zqa, zqb, zqc, zqd, zqe, zqf] at hc1
  refine vc_seq fun K4 hK4 => ?_
  refine vc_region ?_
  refine vo_assign_pv rfl rfl ?_
  refine vo_nil ?_
  refine hK4 _ ?_
  refine vc_ret ?_
  change retQ _ _ _ _ _
  refine retQ_sel [] (srows := []) (.inr rfl) hC rfl rfl rfl rfl rfl rfl rfl ?_
  first | (refine ⟨gbt ?_, rfl⟩; exact decide_eq_true hfin) | exact ⟨rfl, rfl⟩ | (exfalso; simp_all; done) | (refine ⟨gbt ?_, rfl⟩; first | simp_all | (simp; omega))
 ·try simp only [zq0, zq1, zq2, zq3, zq4, zq5, zq6, zq7, zq8, zq9, zqa, zqb, zqc, zqd, zqe, zqf] at hc1
  refine vc_skip ?_
  refine hK2 _ ?_
  refine vc_seq fun K5 hK5 => ?_
  refine vc_region ?_
  refine vo_move_pv rfl rfl ?_
  refine vo_call0 Try.func29 rfl rfl rfl rfl (DrawNamesOf_sat (by omega)) ?_
  rintro _ _ ⟨W, f, z, hW, rfl, rfl⟩
  refine ⟨rfl, rfl, .inl rfl, ?_⟩
  refine vo_stM ?_
  have hW2 := hW
  obtain ⟨⟨hb1, hb2, hb3⟩, ⟨hb4, hb5⟩, hb6, hb7⟩ := hW2
  refine vo_move rfl ?_
  refine vo_stM ?_
  refine vo_extract rfl rfl rfl ?_
  refine vo_extract rfl rfl rfl ?_
  refine vo_alloc Z27 rfl ?_
  refine vo_stM ?_
  refine vo_store_varS rfl rfl rfl inf27 sz27 rfl ?_
  refine vo_stM ?_
  refine vo_assign_pv rfl rfl ?_
  refine vo_nil ?_
  refine hK5 _ ?_
  refine vc_seq fun K6 hK6 => ?_
  refine vc_region ?_
  refine vo_load_varS rfl rfl rfl Try.underlying27 rfl inf27 sz27 rfl rfl ?_
  refine vo_move_pv rfl rfl ?_
  refine vo_call0 Try.func30 rfl rfl rfl rfl (implNamesOf_sat hW.sw) ?_
  rintro _ _ ⟨nlo, rfl, rfl⟩
  refine ⟨rfl, rfl, .inl rfl, ?_⟩
  refine vo_stM ?_
  refine vo_assign_pv rfl rfl ?_
  refine vo_nil ?_
  refine hK6 _ ?_
  refine vc_seq fun K7 hK7 => ?_
  refine vc_seq fun K8 hK8 => ?_
  refine vc_region ?_
  refine vo_move_pv rfl rfl ?_
  refine vo_load_varS rfl rfl rfl Try.underlying27 rfl inf27 sz27 rfl rfl ?_
  refine vo_move_pv rfl rfl ?_
  refine vo_call0 Try.func31 rfl rfl rfl rfl (specNamesOf_sat hW.sw) ?_
  rintro _ _ ⟨nlp, rfl, rfl⟩
  refine ⟨rfl, rfl, .inl rfl, ?_⟩
  refine vo_stM ?_
  refine vo_call0 Try.func25 rfl rfl rfl rfl (equalInts_sat (a := namM W z) (b := namM W z) (by have := selN_len (namP W z) 10; unfold namM; omega) (by have := selN_len (namP W z) 10; unfold namM; omega)) ?_
  rintro _ _ ⟨rfl, rfl⟩
  refine ⟨rfl, rfl, .inl rfl, ?_⟩
  refine vo_stM ?_
  refine vo_not rfl rfl ?_
  refine vo_move_pv rfl rfl ?_
  refine vo_split 30 rfl (fun hg2 => ?_) (fun hg2 => ?_)
  ·try simp only [zq0, zq1, zq2, zq3, zq4, zq5, zq6, zq7, zq8, zq9, zqa, zqb, zqc, zqd, zqe, zqf] at hg2
   refine vo_guard_off rfl rfl rfl rfl rfl ?_
   refine vo_guard_off rfl rfl rfl rfl rfl ?_
   refine vo_guard_off rfl rfl rfl rfl rfl ?_
   refine vo_pick_t rfl rfl ?_
   refine vo_move_pv rfl rfl ?_
   refine vo_guard_off rfl rfl rfl rfl rfl ?_
   refine vo_guard_off rfl rfl rfl rfl rfl ?_
   refine vo_pick_t rfl rfl ?_
   refine vo_move_pv rfl rfl ?_
   refine vo_guard_off rfl rfl rfl rfl rfl ?_
   refine vo_guard_off rfl rfl rfl rfl rfl ?_
   refine vo_guard_off rfl rfl rfl rfl rfl ?_
   refine vo_guard_off rfl rfl rfl rfl rfl ?_
   refine vo_guard_off rfl rfl rfl rfl rfl ?_
   refine vo_pick_t rfl rfl ?_
   refine vo_nil ?_
   refine hK8 _ ?_
   refine vc_cond_t rfl ?_
   refine vc_seq fun K9 hK9 => ?_
   refine vc_region ?_
   refine vo_move_pv rfl rfl ?_
   refine vo_load_varS rfl rfl rfl Try.underlying27 rfl inf27 sz27 rfl rfl ?_
   refine vo_move_pv rfl rfl ?_
   refine vo_call0 Try.func31 rfl rfl rfl rfl (specNamesOf_sat hW.sw) ?_
   rintro _ _ ⟨nlp, rfl, rfl⟩
   refine ⟨rfl, rfl, .inl rfl, ?_⟩
   refine vo_stM ?_
   refine vo_call0 Try.func25 rfl rfl rfl rfl (equalInts_sat (a := namM W z) (b := namM W z) (by have := selN_len (namP W z) 10; unfold namM; omega) (by have := selN_len (namP W z) 10; unfold namM; omega)) ?_
   rintro _ _ ⟨rfl, rfl⟩
   refine ⟨rfl, rfl, .inl rfl, ?_⟩
   refine vo_stM ?_
   refine vo_assign_pv rfl rfl ?_
   refine vo_nil ?_
   refine hK9 _ ?_
   refine vc_ret ?_
   change retQ _ _ _ _ _
   refine retQ_sel [] (srows := []) (.inr rfl) hC rfl rfl rfl rfl rfl rfl rfl ?_
   first | (refine ⟨gbt ?_, rfl⟩; exact decide_eq_true hfin) | exact ⟨rfl, rfl⟩ | (exfalso; simp_all; done) | (refine ⟨gbt ?_, rfl⟩; first | simp_all | (simp; omega))
  ·try simp only [zq0, zq1, zq2, zq3, zq4, zq5, zq6, zq7, zq8, zq9, zqa, zqb, zqc, zqd, zqe, zqf] at hg2
   refine vo_guard_on rfl rfl rfl ?_
   refine vo_load_varS rfl rfl rfl Try.underlying27 rfl inf27 sz27 rfl rfl ?_
   refine vo_guard_on rfl rfl rfl ?_
   refine vo_call0 Try.func19 rfl rfl rfl rfl (implValidWorld_sat hW.sw) ?_
   rintro _ _ ⟨rfl, rfl⟩
   refine ⟨rfl, rfl, .inl rfl, ?_⟩
   refine vo_stM ?_
   refine vo_guard_on rfl rfl rfl ?_
   refine vo_not rfl rfl ?_
   refine vo_pick_f rfl rfl ?_
   refine vo_move_pv rfl rfl ?_
   refine vo_split 35 rfl (fun hg3 => ?_) (fun hg3 => ?_)
   ·try simp only [zq0, zq1, zq2, zq3, zq4, zq5, zq6, zq7, zq8, zq9, zqa, zqb, zqc, zqd, zqe, zqf] at hg3
    refine vo_guard_off rfl rfl rfl rfl rfl ?_
    refine vo_guard_off rfl rfl rfl rfl rfl ?_
    refine vo_pick_t rfl rfl ?_
    refine vo_move_pv rfl rfl ?_
    refine vo_guard_off rfl rfl rfl rfl rfl ?_
    refine vo_guard_off rfl rfl rfl rfl rfl ?_
    refine vo_guard_off rfl rfl rfl rfl rfl ?_
    refine vo_guard_off rfl rfl rfl rfl rfl ?_
    refine vo_guard_off rfl rfl rfl rfl rfl ?_
    refine vo_pick_t rfl rfl ?_
    refine vo_nil ?_
    refine hK8 _ ?_
    refine vc_cond_t rfl ?_
    refine vc_seq fun K10 hK10 => ?_
    refine vc_region ?_
    refine vo_move_pv rfl rfl ?_
    refine vo_load_varS rfl rfl rfl Try.underlying27 rfl inf27 sz27 rfl rfl ?_
    refine vo_move_pv rfl rfl ?_
    refine vo_call0 Try.func31 rfl rfl rfl rfl (specNamesOf_sat hW.sw) ?_
    rintro _ _ ⟨nlp, rfl, rfl⟩
    refine ⟨rfl, rfl, .inl rfl, ?_⟩
    refine vo_stM ?_
    refine vo_call0 Try.func25 rfl rfl rfl rfl (equalInts_sat (a := namM W z) (b := namM W z) (by have := selN_len (namP W z) 10; unfold namM; omega) (by have := selN_len (namP W z) 10; unfold namM; omega)) ?_
    rintro _ _ ⟨rfl, rfl⟩
    refine ⟨rfl, rfl, .inl rfl, ?_⟩
    refine vo_stM ?_
    refine vo_assign_pv rfl rfl ?_
    refine vo_nil ?_
    refine hK10 _ ?_
    refine vc_ret ?_
    change retQ _ _ _ _ _
    refine retQ_sel [] (srows := []) (.inr rfl) hC rfl rfl rfl rfl rfl rfl rfl ?_
    first | (refine ⟨gbt ?_, rfl⟩; exact decide_eq_true hfin) | exact ⟨rfl, rfl⟩ | (exfalso; simp_all; done) | (refine ⟨gbt ?_, rfl⟩; first | simp_all | (simp; omega))
   ·try simp only [zq0, zq1, zq2, zq3, zq4, zq5, zq6, zq7, zq8, zq9, zqa, zqb, zqc, zqd, zqe, zqf] at hg3
    refine vo_guard_on rfl rfl rfl ?_
    refine vo_move_pv rfl rfl ?_
    refine vo_guard_on rfl rfl rfl ?_
    refine vo_binI rfl rfl rfl rfl trivial ?_
    refine vo_pick_f rfl rfl ?_
    refine vo_move_pv rfl rfl ?_
    refine vo_split 39 rfl (fun hg4 => ?_) (fun hg4 => ?_)
    ·try simp only [zq0, zq1, zq2, zq3, zq4, zq5, zq6, zq7, zq8, zq9, zqa, zqb, zqc, zqd, zqe, zqf] at hg4
     refine vo_guard_off rfl rfl rfl rfl rfl ?_
     refine vo_guard_off rfl rfl rfl rfl rfl ?_
     refine vo_guard_off rfl rfl rfl rfl rfl ?_
     refine vo_guard_off rfl rfl rfl rfl rfl ?_
     refine vo_guard_off rfl rfl rfl rfl rfl ?_
     refine vo_pick_t rfl rfl ?_
     refine vo_nil ?_
     refine hK8 _ ?_
     refine vc_cond_t rfl ?_
     refine vc_seq fun K11 hK11 => ?_
     refine vc_region ?_
     refine vo_move_pv rfl rfl ?_
     refine vo_load_varS rfl rfl rfl Try.underlying27 rfl inf27 sz27 rfl rfl ?_
     refine vo_move_pv rfl rfl ?_
     refine vo_call0 Try.func31 rfl rfl rfl rfl (specNamesOf_sat hW.sw) ?_
     rintro _ _ ⟨nlp, rfl, rfl⟩
     refine ⟨rfl, rfl, .inl rfl, ?_⟩
     refine vo_stM ?_
     refine vo_call0 Try.func25 rfl rfl rfl rfl (equalInts_sat (a := namM W z) (b := namM W z) (by have := selN_len (namP W z) 10; unfold namM; omega) (by have := selN_len (namP W z) 10; unfold namM; omega)) ?_
     rintro _ _ ⟨rfl, rfl⟩
     refine ⟨rfl, rfl, .inl rfl, ?_⟩
     refine vo_stM ?_
     refine vo_assign_pv rfl rfl ?_
     refine vo_nil ?_
     refine hK11 _ ?_
     refine vc_ret ?_
     change retQ _ _ _ _ _
     refine retQ_sel [] (srows := []) (.inr rfl) hC rfl rfl rfl rfl rfl rfl rfl ?_
     first | (refine ⟨gbt ?_, rfl⟩; exact decide_eq_true hfin) | exact ⟨rfl, rfl⟩ | (exfalso; simp_all; done) | (refine ⟨gbt ?_, rfl⟩; first | simp_all | (simp; omega))
    ·try simp only [zq0, zq1, zq2, zq3, zq4, zq5, zq6, zq7, zq8, zq9, zqa, zqb, zqc, zqd, zqe, zqf] at hg4
     refine vo_guard_on rfl rfl rfl ?_
     refine vo_move_pv rfl rfl ?_
     refine vo_guard_on rfl rfl rfl ?_
     refine vo_fieldAddr_ptr rfl rfl Try.underlying27 rfl inf25 (by rw [sz25]; decide) ?_
     try simp only [Nat.zero_add]
     refine vo_guard_on rfl rfl rfl ?_
     refine vo_load_var rfl rfl rfl Try.underlying25 rfl rfl ?_
     refine vo_guard_on rfl rfl rfl ?_
     refine vo_len_pv rfl rfl Try.underlying25 ?_
     refine vo_guard_on rfl rfl rfl ?_
     refine vo_binI rfl rfl rfl rfl trivial ?_
     refine vo_pick_f rfl rfl ?_
     refine vo_nil ?_
     refine hK8 _ ?_
     refine vc_cond rfl (fun hc5 => ?_) (fun hc5 => ?_)
     ·try simp only [zq0, zq1, zq2, zq3, zq4, zq5, zq6, zq7, zq8, zq9, zqa, zqb, zqc, zqd, zqe, zqf] at hc5
      refine vc_seq fun K12 hK12 => ?_
      refine vc_region ?_
      refine vo_move_pv rfl rfl ?_
      refine vo_load_varS rfl rfl rfl Try.underlying27 rfl inf27 sz27 rfl rfl ?_
      refine vo_move_pv rfl rfl ?_
      refine vo_call0 Try.func31 rfl rfl rfl rfl (specNamesOf_sat hW.sw) ?_
      rintro _ _ ⟨nlp, rfl, rfl⟩
      refine ⟨rfl, rfl, .inl rfl, ?_⟩
      refine vo_stM ?_
      refine vo_call0 Try.func25 rfl rfl rfl rfl (equalInts_sat (a := namM W z) (b := namM W z) (by have := selN_len (namP W z) 10; unfold namM; omega) (by have := selN_len (namP W z) 10; unfold namM; omega)) ?_
      rintro _ _ ⟨rfl, rfl⟩
      refine ⟨rfl, rfl, .inl rfl, ?_⟩
      refine vo_stM ?_
      refine vo_assign_pv rfl rfl ?_
      refine vo_nil ?_
      refine hK12 _ ?_
      refine vc_ret ?_
      change retQ _ _ _ _ _
      refine retQ_sel [] (srows := []) (.inr rfl) hC rfl rfl rfl rfl rfl rfl rfl ?_
      first | (refine ⟨gbt ?_, rfl⟩; exact decide_eq_true hfin) | exact ⟨rfl, rfl⟩ | (exfalso; simp_all; done) | (refine ⟨gbt ?_, rfl⟩; first | simp_all | (simp; omega))
     ·try simp only [zq0, zq1, zq2, zq3, zq4, zq5, zq6, zq7, zq8, zq9, zqa, zqb, zqc, zqd, zqe, zqf] at hc5
      have hO : hasO W z := ⟨by assumption, by omega, by omega⟩
      have hcl := hasO_cls hO
      have hP3 : (W.objs.getD z.toNat ⟨0, []⟩).pairs.length ≤ 3 := hb7 _ (getD_mem (by omega) _)
      have ho := (keep_own (name := 0) ⟨hO.1, hcl⟩).1
      have hor : (orR W.bases (W.objs.getD z.toNat ⟨0, []⟩).cls).length ≤ 12 := by rw [orR_yes ho]; exact ordM_len hO.1.1.1 (by omega)
      refine vc_skip ?_
      refine hK7 _ ?_
      refine vc_seq fun K13 hK13 => ?_
      refine vc_region ?_
      refine vo_buildSlice E34 rfl rfl rfl rfl rfl ?_
      refine vo_stM ?_
      refine vo_assign_ref rfl rfl ?_
      refine vo_nil ?_
      refine hK13 _ ?_
      refine vc_seq fun K14 hK14 => ?_
      refine vc_region ?_
      refine vo_fieldAddr_ptr rfl rfl Try.underlying27 rfl inf25 (by rw [sz25]; decide) ?_
      try simp only [Nat.zero_add]
      refine vo_load_var rfl rfl rfl Try.underlying25 rfl rfl ?_
      refine vo_move_pv rfl rfl ?_
      refine vo_index_pv (.agg [(.int .i64 0), (.sl none 2 [])]) rfl rfl rfl E25.und inf42 sz42 sd sd ?_
      simp only [Int.toNat_natCast, Int.toNat_zero, getD_ints, getD_intss, getD_bools, getD_bytes, PV.cells, getD_ops, getD_pairs, getD_insts, getD_attrs, getD_attrss, getD_objs, getD_ordP]
      refine vo_load_adrS rfl rfl Try.underlying42 rfl inf42 sz42 rfl ?_
      refine vo_st (by (try simp only [St.put, PV.cells, PV.scal, List.drop_succ_cons, List.drop_zero, List.take_succ_cons, List.take_zero, List.map_cons, List.map_nil, Bool.or_true, Bool.or_false, Bool.false_or, Bool.true_or, opP, pairP, instP, heapP]); exact eq_refl _) ?_
      refine vo_alloc Z42 rfl ?_
      refine vo_stM ?_
      refine vo_store_varS rfl rfl rfl inf42 sz42 rfl ?_
      refine vo_stM ?_
      refine vo_nil ?_
      refine hK14 _ ?_
      refine vc_seq fun K15 hK15 => ?_
      refine vc_seq fun K16 hK16 => ?_
      refine vc_region ?_
      refine vo_assign_pv rfl rfl ?_
      refine vo_nil ?_
      refine hK16 _ ?_
      refine vc_block ?_
      refine vc_stM ?_
      refine vc_loopE [3, 5, 7] [6, 8] [1] _ _ (fun mz vs rs => ∃ (i : Nat), mz = (W.objs.getD z.toNat ⟨0, []⟩).pairs.length - i ∧ (i ≤ (W.objs.getD z.toNat ⟨0, []⟩).pairs.length) ∧ vs = [.ref 1, i64 i] ∧ rs = [Row.own 3 1 (some false) true ((nms ((W.objs.getD z.toNat ⟨0, []⟩).pairs.take i)).map intP)]) ((W.objs.getD z.toNat ⟨0, []⟩).pairs.length) rfl rfl (le_len hC rfl) ⟨rfl, rfl, rfl⟩ rfl ⟨0, rfl, Nat.zero_le _, rfl, rfl⟩ ?_
      rintro mz vs rs - - ⟨i, rfl, hi, rfl, rfl⟩
      refine vc_stM ?_
      have hl1 : (nms ((W.objs.getD z.toNat ⟨0, []⟩).pairs.take i)).length ≤ 3 := by unfold nms; rw [List.length_map, List.length_take]; omega
      refine vc_seq fun K17 hK17 => ?_
      refine vc_seq fun K18 hK18 => ?_
      refine vc_region ?_
      refine vo_move_pv rfl rfl ?_
      refine vo_fieldAddr_ptr rfl rfl Try.underlying42 rfl inf40 (by rw [sz40]; decide) ?_
      try simp only [Nat.zero_add]
      refine vo_load_var rfl rfl rfl Try.underlying40 rfl rfl ?_
      refine vo_len_pv rfl rfl Try.underlying40 ?_
      refine vo_binI rfl rfl rfl rfl trivial ?_
      refine vo_nil ?_
      refine hK18 _ ?_
      refine vc_cond rfl (fun hc6 => ?_) (fun hc6 => ?_)
      ·try simp only [zq0, zq1, zq2, zq3, zq4, zq5, zq6, zq7, zq8, zq9, zqa, zqb, zqc, zqd, zqe, zqf] at hc6
       refine vc_skip ?_
       refine hK17 _ ?_
       refine vc_seq fun K19 hK19 => ?_
       refine vc_block ?_
       refine vc_region ?_
       refine vo_move_ref rfl rfl ?_
       refine vo_fieldAddr_ptr rfl rfl Try.underlying42 rfl inf40 (by rw [sz40]; decide) ?_
       try simp only [Nat.zero_add]
       refine vo_load_var rfl rfl rfl Try.underlying40 rfl rfl ?_
       refine vo_move_pv rfl rfl ?_
       refine vo_index_pv (.agg [(.int .i64 0), (.int .i64 0)]) rfl rfl rfl E40.und inf44 sz44 sd sd ?_
       simp only [Int.toNat_natCast, Int.toNat_zero, getD_ints, getD_intss, getD_bools, getD_bytes, PV.cells, getD_ops, getD_pairs, getD_insts, getD_attrs, getD_attrss, getD_objs, getD_ordP]
       refine vo_fieldAddr_adr rfl rfl Try.underlying44 rfl inf3 (by rw [sz3]; decide) ?_
       refine vo_load_adr rfl rfl Try.underlying3 rfl ?_
       simp only [PV.scal, Bool.or_true]
       refine vo_buildSlice E34 rfl rfl rfl rfl rfl ?_
       refine vo_stM ?_
       refine vo_append E34 rfl (by omega) rfl rfl rfl sd sd ?_
       refine vo_stM ?_
       try simp only [app_ints, app_intss, app_bools]
       refine vo_assign_ref rfl rfl ?_
       refine vo_nil ?_
       refine hK19 _ ?_
       refine vc_region ?_
       refine vo_move_pv rfl rfl ?_
       refine vo_binI rfl rfl rfl rfl sd ?_
       refine vo_assign_pv rfl rfl ?_
       refine vo_nil ?_
       change againE _ _ _ _ _ _ _ _ _ _
       refine againE_mk rfl rfl rfl rfl rfl rfl ⟨_, ?_, i + 1, rfl, ?_, rfl, (congrArg (fun l => [Row.own 3 1 (some false) true (List.map intP l)]) (show nms ((W.objs.getD z.toNat ⟨0, []⟩).pairs.take i) ++ [((W.objs.getD z.toNat ⟨0, []⟩).pairs.getD i (0, 0)).1] = nms ((W.objs.getD z.toNat ⟨0, []⟩).pairs.take (i + 1)) by rw [app_nm1 _ _ (by omega)]))⟩
       ·omega
       ·omega
      ·try simp only [zq0, zq1, zq2, zq3, zq4, zq5, zq6, zq7, zq8, zq9, zqa, zqb, zqc, zqd, zqe, zqf] at hc6
       refine vc_exit ?_
       refine hK15 _ ?_
       refine vc_seq fun K20 hK20 => ?_
       refine vc_region ?_
       refine vo_fieldAddr_ptr rfl rfl Try.underlying27 rfl inf23 (by rw [sz23]; decide) ?_
       try simp only [Nat.zero_add]
       refine vo_load_var rfl rfl rfl Try.underlying23 rfl rfl ?_
       refine vo_fieldAddr_ptr rfl rfl Try.underlying42 rfl inf3 (by rw [sz3]; decide) ?_
       try simp only [Nat.zero_add]
       refine vo_load_var rfl rfl rfl Try.underlying3 rfl rfl ?_
       refine vo_call [] Try.func27 rfl rfl rfl rfl rfl rfl rfl (implOrderOf_sat (bases := W.bases) (c := (W.objs.getD z.toNat ⟨0, []⟩).cls) (by omega) (fun l hl => by have := hb3 l hl; omega)) ?_
       rintro _ _ ⟨R1, nlr, rfl, rfl⟩
       refine ⟨Nat.le_of_ble_eq_true rfl, ⟨rfl, rfl, rfl, rfl⟩, .inl rfl, ?_⟩
       refine vo_stM ?_
       refine vo_move rfl ?_
       refine vo_stM ?_
       refine vo_extract rfl rfl rfl ?_
       refine vo_extract rfl rfl rfl ?_
       refine vo_assign_ref rfl rfl ?_
       refine vo_assign_pv rfl rfl ?_
       refine vo_nil ?_
       refine hK20 _ ?_
       refine vc_seq fun K21 hK21 => ?_
       refine vc_seq fun K22 hK22 => ?_
       refine vc_region ?_
       refine vo_assign_pv rfl rfl ?_
       refine vo_nil ?_
       refine hK22 _ ?_
       refine vc_block ?_
       refine vc_stM ?_
       refine vc_loopE [3, 5, 9] [6, 11] [1] _ _ (fun mz vs rs => ∃ (i : Nat) (X : List Int), mz = (orR W.bases (W.objs.getD z.toNat ⟨0, []⟩).cls).length - i ∧ (i ≤ (orR W.bases (W.objs.getD z.toNat ⟨0, []⟩).cls).length) ∧ (X.length ≤ 3 + 4 * i) ∧ (∀ n, n ∈ X ↔ n ∈ nms (W.objs.getD z.toNat ⟨0, []⟩).pairs ∨ ∃ j, j < i ∧ n ∈ anms (W.attrs.getD ((orR W.bases (W.objs.getD z.toNat ⟨0, []⟩).cls).getD j 0).toNat [])) ∧ vs = [.ref 1, i64 i] ∧ rs = [Row.own 3 1 (some false) true ((X).map intP)]) ((orR W.bases (W.objs.getD z.toNat ⟨0, []⟩).cls).length) rfl rfl (le_len hC rfl) ⟨rfl, rfl, rfl⟩ rfl ⟨0, nms (W.objs.getD z.toNat ⟨0, []⟩).pairs, rfl, Nat.zero_le _, (by unfold nms; rw [List.length_map]; omega), (fun n => ⟨.inl, fun h => by rcases h with h | ⟨j, hj, _⟩; exact h; omega⟩), rfl, (congrArg (fun l => [Row.own 3 1 (some false) true (List.map intP l)]) (show nms ((W.objs.getD z.toNat ⟨0, []⟩).pairs.take i) = nms (W.objs.getD z.toNat ⟨0, []⟩).pairs by rw [take_all (by omega)]))⟩ ?_
       rintro mz vs rs - - ⟨i, X, rfl, hi, hXl, hX, rfl, rfl⟩
       refine vc_stM ?_
       refine vc_seq fun K23 hK23 => ?_
       refine vc_seq fun K24 hK24 => ?_
       refine vc_region ?_
       refine vo_move_pv rfl rfl ?_
       refine vo_move_ref rfl rfl ?_
       refine vo_len_ref rfl rfl rfl Try.underlying34 ?_
       refine vo_binI rfl rfl rfl rfl trivial ?_
       refine vo_nil ?_
       refine hK24 _ ?_
       refine vc_cond rfl (fun hc7 => ?_) (fun hc7 => ?_)
       ·try simp only [zq0, zq1, zq2, zq3, zq4, zq5, zq6, zq7, zq8, zq9, zqa, zqb, zqc, zqd, zqe, zqf] at hc7
        have hor2 : 0 ≤ (orR W.bases (W.objs.getD z.toNat ⟨0, []⟩).cls).getD i 0 ∧ (orR W.bases (W.objs.getD z.toNat ⟨0, []⟩).cls).getD i 0 < W.attrs.length := by
         have h := getD_mem (show i < (orR W.bases (W.objs.getD z.toNat ⟨0, []⟩).cls).length by omega) 0
         rw [orR_yes ho] at h ⊢
         exact (ordIn_of hO.1 hcl.1 hcl.2).2 _ h
        have hA4 : (W.attrs.getD ((orR W.bases (W.objs.getD z.toNat ⟨0, []⟩).cls).getD i 0).toNat []).length ≤ 4 := hb5 _ (getD_mem (by omega) _)
        refine vc_skip ?_
        refine hK23 _ ?_
        refine vc_seq fun K25 hK25 => ?_
        refine vc_block ?_
        refine vc_seq fun K26 hK26 => ?_
        refine vc_region ?_
        refine vo_assign_pv rfl rfl ?_
        refine vo_nil ?_
        refine hK26 _ ?_
        refine vc_block ?_
        refine vc_stM ?_
        refine vc_loopE [3, 5, 9, 11] [6, 12] [1] _ _ (fun mz vs rs => ∃ (k : Nat) (Y : List Int), mz = (W.attrs.getD ((orR W.bases (W.objs.getD z.toNat ⟨0, []⟩).cls).getD i 0).toNat []).length - k ∧ (k ≤ (W.attrs.getD ((orR W.bases (W.objs.getD z.toNat ⟨0, []⟩).cls).getD i 0).toNat []).length) ∧ (Y.length ≤ 3 + 4 * i + k) ∧ (∀ n, n ∈ Y ↔ n ∈ X ∨ n ∈ anms ((W.attrs.getD ((orR W.bases (W.objs.getD z.toNat ⟨0, []⟩).cls).getD i 0).toNat []).take k)) ∧ vs = [.ref 1, i64 k] ∧ rs = [Row.own 3 1 (some false) true ((Y).map intP)]) ((W.attrs.getD ((orR W.bases (W.objs.getD z.toNat ⟨0, []⟩).cls).getD i 0).toNat []).length) rfl rfl (le_len hC rfl) ⟨rfl, rfl, rfl⟩ rfl ⟨0, X, rfl, Nat.zero_le _, (by omega), (fun n => by simp [anms]), rfl, rfl⟩ ?_
        rintro mz vs rs - - ⟨k, Y, rfl, hk, hYl, hY, rfl, rfl⟩
        refine vc_stM ?_
        refine vc_seq fun K27 hK27 => ?_
        refine vc_seq fun K28 hK28 => ?_
        refine vc_draw (by kernel_rfl) ?_
        change VD _ _ _ 11 _ _ _
        refine vd_light 0 rfl rfl rfl (by kernel_rfl) (by kernel_rfl) (by kernel_rfl) (wnt_none rfl) (lt_move_pv rfl) ?_
        refine vd_light 1 rfl rfl rfl (by kernel_rfl) (by kernel_rfl) (by kernel_rfl) (wnt_none rfl) (lt_fieldAddr_ptr rfl Try.underlying27 rfl inf24 (by rw [sz24]; decide)) ?_
        try simp only [Nat.zero_add]
        refine vd_light 2 rfl rfl rfl (by kernel_rfl) (by kernel_rfl) (by kernel_rfl) (wnt_none rfl) (lt_load_var rfl rfl Try.underlying24 rfl rfl) ?_
        refine vd_light 3 rfl rfl rfl (by kernel_rfl) (by kernel_rfl) (by kernel_rfl) (wnt_none rfl) (lt_move_ref rfl) ?_
        refine vd_light 4 rfl rfl rfl (by kernel_rfl) (by kernel_rfl) (by kernel_rfl) (wnt_none rfl) (lt_move_pv rfl) ?_
        refine vd_light 5 rfl rfl rfl (by kernel_rfl) (by kernel_rfl) (by kernel_rfl) (wnt_none rfl) (lt_index_ref rfl rfl rfl E34.und inf3 sz3 sd sd) ?_
        try simp only [Int.toNat_natCast]
        refine vd_light 6 rfl rfl rfl (by kernel_rfl) (by kernel_rfl) (by kernel_rfl) (wnt_none rfl) (lt_load_own rfl rfl Try.underlying3 rfl sd (getD_ints _ _) rfl) ?_
        try simp only [Int.toNat_natCast]
        refine vd_light 7 rfl rfl rfl (by kernel_rfl) (by kernel_rfl) (by kernel_rfl) (wnt_none rfl) (lt_index_pv (.sl none 3 []) rfl rfl E24.und inf52 sz52 sd sd) ?_
        simp only [Int.toNat_natCast, Int.toNat_zero, getD_ints, getD_intss, getD_bools, getD_bytes, PV.cells, getD_ops, getD_pairs, getD_insts, getD_attrs, getD_attrss, getD_objs, getD_ordP]
        refine vd_light 8 rfl rfl rfl (by kernel_rfl) (by kernel_rfl) (by kernel_rfl) (wnt_none rfl) (lt_load_adr rfl Try.underlying52 rfl) ?_
        refine vd_light 9 rfl rfl rfl (by kernel_rfl) (by kernel_rfl) (by kernel_rfl) (wnt_none rfl) (lt_len_pv rfl Try.underlying52) ?_
        refine vd_light 10 rfl rfl rfl (by kernel_rfl) (by kernel_rfl) (by kernel_rfl) (wnt_none rfl) (lt_binI rfl rfl rfl trivial) ?_
        refine vd_nil (by kernel_rfl) ?_
        refine hK28 _ ?_
        refine vc_cond rfl (fun hc8 => ?_) (fun hc8 => ?_)
        ·try simp only [zq0, zq1, zq2, zq3, zq4, zq5, zq6, zq7, zq8, zq9, zqa, zqb, zqc, zqd, zqe, zqf] at hc8
         refine vc_skip ?_
         refine hK27 _ ?_
         refine vc_seq fun K29 hK29 => ?_
         refine vc_block ?_
         refine vc_drawL [13, 14, 15] (by kernel_rfl) ?_
         change VL [13, 14, 15] _ _ _ 16 _ _ _
         refine vl_light0 0 rfl rfl rfl (by kernel_rfl) (by kernel_rfl) (by kernel_rfl) (wnt_none rfl) (l0_move_ref rfl) ?_
         refine vl_light 1 [0, 3, 4, 5, 6, 9] rfl rfl rfl (by kernel_rfl) (by kernel_rfl) (by kernel_rfl) (by kernel_rfl) (by kernel_rfl) (wnt_none rfl) (lt_fieldAddr_ptr rfl Try.underlying27 rfl inf24 (by rw [sz24]; decide)) ?_
         try simp only [Nat.zero_add]
         refine vl_light 2 [0, 1, 3, 4, 5, 6, 9] rfl rfl rfl (by kernel_rfl) (by kernel_rfl) (by kernel_rfl) (by kernel_rfl) (by kernel_rfl) (wnt_none rfl) (lt_load_var rfl rfl Try.underlying24 rfl rfl) ?_
         refine vl_light 3 [0, 1, 2, 4, 9] rfl rfl rfl (by kernel_rfl) (by kernel_rfl) (by kernel_rfl) (by kernel_rfl) (by kernel_rfl) (wnt_none rfl) (lt_move_ref rfl) ?_
         refine vl_light 4 [0, 1, 2, 3, 9] rfl rfl rfl (by kernel_rfl) (by kernel_rfl) (by kernel_rfl) (by kernel_rfl) (by kernel_rfl) (wnt_none rfl) (lt_move_pv rfl) ?_
         refine vl_light 5 [0, 1, 2, 3, 4, 9] rfl rfl rfl (by kernel_rfl) (by kernel_rfl) (by kernel_rfl) (by kernel_rfl) (by kernel_rfl) (wnt_none rfl) (lt_index_ref rfl rfl rfl E34.und inf3 sz3 sd sd) ?_
         try simp only [Int.toNat_natCast]
         refine vl_light 6 [0, 1, 2, 3, 4, 5, 9] rfl rfl rfl (by kernel_rfl) (by kernel_rfl) (by kernel_rfl) (by kernel_rfl) (by kernel_rfl) (wnt_none rfl) (lt_load_own rfl rfl Try.underlying3 rfl sd (getD_ints _ _) rfl) ?_
         try simp only [Int.toNat_natCast]
         refine vl_light 7 [0, 1, 2, 3, 4, 5, 6, 9] rfl rfl rfl (by kernel_rfl) (by kernel_rfl) (by kernel_rfl) (by kernel_rfl) (by kernel_rfl) (wnt_none rfl) (lt_index_pv (.sl none 3 []) rfl rfl E24.und inf52 sz52 sd sd) ?_
         simp only [Int.toNat_natCast, Int.toNat_zero, getD_ints, getD_intss, getD_bools, getD_bytes, PV.cells, getD_ops, getD_pairs, getD_insts, getD_attrs, getD_attrss, getD_objs, getD_ordP]
         refine vl_light 8 [0, 1, 2, 3, 4, 5, 6, 7, 9] rfl rfl rfl (by kernel_rfl) (by kernel_rfl) (by kernel_rfl) (by kernel_rfl) (by kernel_rfl) (wnt_none rfl) (lt_load_adr rfl Try.underlying52 rfl) ?_
         refine vl_light 9 [0, 1, 2, 3, 4, 5, 6, 7, 8] rfl rfl rfl (by kernel_rfl) (by kernel_rfl) (by kernel_rfl) (by kernel_rfl) (by kernel_rfl) (wnt_none rfl) (lt_move_pv rfl) ?_
         refine vl_light 10 [0, 1, 2, 3, 4, 5, 6, 7, 8, 9] rfl rfl rfl (by kernel_rfl) (by kernel_rfl) (by kernel_rfl) (by kernel_rfl) (by kernel_rfl) (wnt_none rfl) (lt_index_pv (.agg [(.int .i64 0), (.int .i64 0), (.int .i64 0)]) rfl rfl E52.und inf31 sz31 sd sd) ?_
         simp only [Int.toNat_natCast, Int.toNat_zero, getD_ints, getD_intss, getD_bools, getD_bytes, PV.cells, getD_ops, getD_pairs, getD_insts, getD_attrs, getD_attrss, getD_objs, getD_ordP]
         refine vl_light 11 [0, 1, 2, 3, 4, 5, 6, 7, 8, 9, 10] rfl rfl rfl (by kernel_rfl) (by kernel_rfl) (by kernel_rfl) (by kernel_rfl) (by kernel_rfl) (wnt_none rfl) (lt_fieldAddr_adr rfl Try.underlying31 rfl inf3 (by rw [sz3]; decide)) ?_
         refine vl_light 12 [0, 1, 2, 3, 4, 5, 6, 7, 8, 9, 10, 11] rfl rfl rfl (by kernel_rfl) (by kernel_rfl) (by kernel_rfl) (by kernel_rfl) (by kernel_rfl) (wnt_none rfl) (lt_load_adr rfl Try.underlying3 rfl) ?_
         simp only [PV.scal, Bool.or_true]
         refine vl_one 13 rfl (by kernel_rfl) rfl ?_
         refine vo_buildSlice E34 rfl rfl rfl rfl rfl ?_
         refine vo_stM ?_
         refine vo_done ⟨rfl, ?_⟩
         refine vl_one 14 rfl (by kernel_rfl) rfl ?_
         refine vo_append E34 rfl (by omega) rfl rfl rfl sd sd ?_
         refine vo_stM ?_
         try simp only [app_ints, app_intss, app_bools]
         refine vo_done ⟨rfl, ?_⟩
         refine vl_one 15 rfl (by kernel_rfl) rfl ?_
         refine vo_assign_ref rfl rfl ?_
         refine vo_done ⟨rfl, ?_⟩
         refine vl_nil (by kernel_rfl) ?_
         refine hK29 _ ?_
         refine vc_region ?_
         refine vo_move_pv rfl rfl ?_
         refine vo_binI rfl rfl rfl rfl sd ?_
         refine vo_assign_pv rfl rfl ?_
         refine vo_nil ?_
         change againE _ _ _ _ _ _ _ _ _ _
         refine againE_mk rfl rfl rfl rfl rfl rfl ⟨_, ?_, k + 1, Y ++ [_], rfl, ?_, ?_, ?_, rfl, rfl⟩
         ·omega
         ·omega
         ·rw [List.length_append, List.length_singleton]; omega
         ·intro n; rw [← app_anm1 _ k (by omega), List.mem_append, List.mem_append, hY n, or_assoc]
        ·try simp only [zq0, zq1, zq2, zq3, zq4, zq5, zq6, zq7, zq8, zq9, zqa, zqb, zqc, zqd, zqe, zqf] at hc8
         refine vc_exit ?_
         refine hK25 _ ?_
         refine vc_region ?_
         refine vo_move_pv rfl rfl ?_
         refine vo_binI rfl rfl rfl rfl sd ?_
         refine vo_assign_pv rfl rfl ?_
         refine vo_nil ?_
         change againE _ _ _ _ _ _ _ _ _ _
         refine againE_mk rfl rfl rfl rfl rfl rfl ⟨_, ?_, i + 1, Y, rfl, ?_, ?_, ?_, rfl, rfl⟩
         ·omega
         ·omega
         ·omega
         ·exact nam_step hX (by rw [take_all (show (W.attrs.getD ((orR W.bases (W.objs.getD z.toNat ⟨0, []⟩).cls).getD i 0).toNat []).length ≤ k by omega)] at hY; exact hY)
       ·try simp only [zq0, zq1, zq2, zq3, zq4, zq5, zq6, zq7, zq8, zq9, zqa, zqb, zqc, zqd, zqe, zqf] at hc7
        have hfin : namM W z = selN (fun i => decide (i ∈ X)) 10 := nam_fin hO (by rw [← orR_yes ho]; intro n; rw [hX n, show i = (orR W.bases (W.objs.getD z.toNat ⟨0, []⟩).cls).length by omega])
        refine vc_exit ?_
        refine hK21 _ ?_
        refine vc_seq fun K30 hK30 => ?_
        refine vc_region ?_
        refine vo_move_pv rfl rfl ?_
        refine vo_move_ref rfl rfl ?_
        refine vo_call [] Try.func32 rfl rfl rfl rfl rfl rfl rfl (sortedS_sat (list := X) (n := 10) (by omega) (by omega)) ?_
        rintro _ _ ⟨rfl, rfl⟩
        refine ⟨Nat.le_of_ble_eq_true rfl, ⟨rfl, rfl, rfl, rfl⟩, .inr ⟨rfl, rfl⟩, ?_⟩
        refine vo_stM ?_
        refine vo_call0 Try.func25 rfl rfl rfl rfl (equalInts_sat (a := namM W z) (b := selN (fun i => decide (i ∈ X)) 10) (by have := selN_len (namP W z) 10; unfold namM; omega) (by have := selN_len (fun i => decide (i ∈ X)) 10; omega)) ?_
        rintro _ _ ⟨rfl, rfl⟩
        refine ⟨rfl, rfl, .inr rfl, ?_⟩
        refine vo_stM ?_
        refine vo_assign_pv rfl rfl ?_
        refine vo_nil ?_
        refine hK30 _ ?_
        refine vc_ret ?_
        change retQ _ _ _ _ _
        refine retQ_sel [] (srows := []) (.inr rfl) hC rfl rfl rfl rfl rfl rfl rfl ?_
        first | (refine ⟨gbt ?_, rfl⟩; exact decide_eq_true hfin) | exact ⟨rfl, rfl⟩ | (exfalso; simp_all; done) | (refine ⟨gbt ?_, rfl⟩; first | simp_all | (simp; omega))

end Go.Vl

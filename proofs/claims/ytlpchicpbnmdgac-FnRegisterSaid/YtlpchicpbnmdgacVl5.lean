/- Part 5 of the texts that the proof of FnRegister is built on. -/
import Derived.Test.YtlpchicpbnmdgacVl4
namespace Go.Vl
set_option linter.unusedVariables false
set_option linter.unusedSimpArgs false
open Go.Proofs

theorem Q85 : EqI2 Try.prog 85 := by
  refine ⟨fun x1 x2 y1 y2 w => ?_, by kernel_rfl⟩
  have hS : Try.prog.underlying 85 = some (.struct (Try.prog.fieldsOf 85)) := by kernel_rfl
  have hp : Try.prog.stoodInHeld 85 = false := by kernel_rfl
  have u3 := Try.underlying3
  have a3 := Try.isAgg3
  have z3 := Try.sizeOf3
  rw [show (10000 : Nat) = 9999 + 1 from rfl, run_equalIn_agg w 9999 85 _ _ hS hp]
  simp only [Program.fieldsOf, Try.underlying85]
  go_simp
  by_cases h0 : x1 = y1 <;> by_cases h1 : x2 = y2 <;> simp [h0, h1]

theorem up_app {b : List (List Int)} {r : List (Int × Int)} {s o x y : Int} : y ∈ upM b (r ++ [(s, o)]) x ↔ y ∈ upM b r x ∨ (x = s ∧ y = o) := by
  unfold upM
  rw [List.filter_append, List.map_append, ← List.append_assoc, List.mem_append]
  by_cases h : s = x
  · subst h; simp
  · rw [List.filter_cons_of_neg (by simpa using h)]
    simp only [List.filter_nil, List.map_nil, List.not_mem_nil, or_false]
    exact ⟨.inl, fun h2 => h2.elim id fun h3 => absurd h3.1.symm h⟩
theorem rch_app {b : List (List Int)} {r : List (Int × Int)} {s o c x : Int} (h : Rch (upM b (r ++ [(s, o)])) c x) : Rch (upM b r) c x ∨ Rch (upM b r) c s := by
  induction h with
  | refl c => exact .inl (.refl c)
  | @step c d x h _ ih =>
    rcases up_app.1 h with h1 | ⟨rfl, rfl⟩
    · exact ih.elim (fun h2 => .inl (.step h1 h2)) (fun h2 => .inr (.step h1 h2))
    · exact .inr (.refl _)
/-- What holds once registrations have one more. -/
theorem reg_facts {b : List (List Int)} {r : List (Int × Int)} {s o : Int} (hk : (regR b r s o).2 = true) : VRegs b r ∧ (0 ≤ s ∧ s < b.length) ∧ (0 ≤ o ∧ o < b.length) ∧ VRegs b (regR b r s o).1 ∧ (∀ p ∈ r, p ∈ (regR b r s o).1) ∧ isSubM b (regR b r s o).1 s o ∧
    (isSubM b r s o → (regR b r s o).1 = r) ∧ (¬ isSubM b r s o → (regR b r s o).1.length = r.length + 1 ∧ ¬ isSubM b (regR b r s o).1 o s) := by
  by_cases h : hasRC b r [s, o]
  · obtain ⟨hV, hs, ho⟩ := hasRC2.1 h
    refine ⟨hV, by omega, by omega, ?_⟩
    by_cases h2 : isSubM b r s o
    · rw [regR_is h h2]
      exact ⟨hV, fun p hp => hp, h2, fun _ => rfl, fun h3 => absurd h2 h3⟩
    · by_cases h3 : isSubM b r o s ∨ r.length = 8
      · rw [regR_bad h h2 h3] at hk; cases hk
      · rw [regR_new h h2 (fun h4 => h3 (.inl h4)) (fun h4 => h3 (.inr h4))]
        have hr8 := hV.2.1
        have hW : VRegs b (r ++ [(s, o)]) := by
          refine ⟨hV.1, ?_, fun p hp => ?_⟩
          · rw [List.length_append, List.length_singleton]
            have : ¬ r.length = 8 := fun h4 => h3 (.inr h4)
            omega
          · rcases List.mem_append.1 hp with h5 | h5
            · exact hV.2.2 p h5
            · rw [List.mem_singleton.1 h5]; exact ⟨hs, ho⟩
        refine ⟨hW, fun p hp => List.mem_append_left _ hp, ⟨hasRC2.2 ⟨hW, hs, ho⟩, ?_⟩, fun h4 => absurd h4 h2, fun _ => ⟨by simp, fun h4 => ?_⟩⟩
        · rw [metU_rch hW hs.1 (by omega)]
          exact .step (up_app.2 (.inr ⟨rfl, rfl⟩)) (.refl _)
        · have h5 := (metU_rch hW ho.1 (by omega) s).1 h4.2
          have h6 : Rch (upM b r) o s := (rch_app h5).elim id id
          exact h3 (.inl ⟨hasRC2.2 ⟨hV, ho, hs⟩, (metU_rch hV ho.1 (by omega) s).2 h6⟩)
  · rw [regR_no h] at hk; cases hk
theorem reg_within {b : List (List Int)} {r t : List (Int × Int)} (hV : VRegs b r) (hW : VRegs b t) (hs : ∀ p ∈ r, p ∈ t) {i : Nat} (hi : i < b.length) : ∀ x ∈ supM b r i, x ∈ supM b t i :=
  sup_within hW hV (by omega) (by omega) hs (sup_self hW (by omega) (by omega))

theorem equalRegs_sat {nl0 : Option Bool} {a : List (Int × Int)} {nl1 : Option Bool} {b : List (Int × Int)} (ha : a.length < 1000000000) (hb : b.length < 1000000000)  : SatAt Try.prog 49 [.pv false (.sl nl0 2 (a.map pairP)), .pv false (.sl nl1 2 (b.map pairP))] [] (fun res rows => res = [bo (decide (a = b))] ∧ rows = []) := by
 refine sat_entry_G (rs := [(4, none)]) Try.func49 rfl rfl (Nat.le_of_ble_eq_true rfl) (Nat.le_of_ble_eq_true rfl) (resTs1 trivial) fun C hC => ?_
 rw [Try.ntmps49]
 replace hC : C.nb = 0 := hC
 refine vc_seq fun K1 hK1 => ?_
 refine vc_region ?_
 refine vo_assign_pv rfl rfl ?_
 refine vo_nil ?_
 refine hK1 _ ?_
 refine vc_seq fun K2 hK2 => ?_
 refine vc_seq fun K3 hK3 => ?_
 refine vc_region ?_
 refine vo_move_pv rfl rfl ?_
 refine vo_len_pv rfl rfl Try.underlying43 ?_
 refine vo_move_pv rfl rfl ?_
 refine vo_len_pv rfl rfl Try.underlying43 ?_
 refine vo_binI rfl rfl rfl rfl trivial ?_
 refine vo_nil ?_
 refine hK3 _ ?_
 refine vc_cond rfl (fun hc1 => ?_) (fun hc1 => ?_)
 ·try simp only [zq0, zq1, zq2, zq3, zq4, zq5, zq6, zq7, zq8, zq9, zqa, zqb, zqc, zqd, zqe, zqf] at hc1
  refine vc_seq fun K4 hK4 => ?_
  refine vc_region ?_
  refine vo_assign_pv rfl rfl ?_
  refine vo_nil ?_
  refine hK4 _ ?_
  refine vc_ret ?_
  change retQ _ _ _ _ _
  refine retQ_sel [] (srows := []) (.inr rfl) hC rfl rfl rfl rfl rfl rfl rfl ?_
  refine ⟨?_, rfl⟩
  refine (congrArg (fun b => [bo b]) (?_ : _ = _) : [bo _] = [bo _])
  exact bF fun h => by rw [h] at hc1; exact hc1 rfl
 ·try simp only [zq0, zq1, zq2, zq3, zq4, zq5, zq6, zq7, zq8, zq9, zqa, zqb, zqc, zqd, zqe, zqf] at hc1
  refine vc_skip ?_
  refine hK2 _ ?_
  refine vc_seq fun K5 hK5 => ?_
  refine vc_seq fun K6 hK6 => ?_
  refine vc_region ?_
  refine vo_assign_pv rfl rfl ?_
  refine vo_nil ?_
  refine hK6 _ ?_
  refine vc_block ?_
  refine vc_stM ?_
  refine vc_loopE [0, 1] [5] [] _ _ (fun mz vs rs => ∃ (k : Nat), mz = a.length - k ∧ (k ≤ a.length) ∧ (a.take k = b.take k) ∧ vs = [i64 k] ∧ rs = []) (a.length) rfl rfl (le_len hC rfl) ⟨rfl, rfl, rfl⟩ rfl ⟨0, rfl, Nat.zero_le _, (by simp), rfl, rfl⟩ ?_
  rintro mz vs rs - - ⟨k, rfl, hk, hf, rfl, rfl⟩
  refine vc_stM ?_
  refine vc_seq fun K7 hK7 => ?_
  refine vc_seq fun K8 hK8 => ?_
  refine vc_region ?_
  refine vo_move_pv rfl rfl ?_
  refine vo_move_pv rfl rfl ?_
  refine vo_len_pv rfl rfl Try.underlying43 ?_
  refine vo_binI rfl rfl rfl rfl trivial ?_
  refine vo_nil ?_
  refine hK8 _ ?_
  refine vc_cond rfl (fun hc2 => ?_) (fun hc2 => ?_)
  ·try simp only [zq0, zq1, zq2, zq3, zq4, zq5, zq6, zq7, zq8, zq9, zqa, zqb, zqc, zqd, zqe, zqf] at hc2
   refine vc_skip ?_
   refine hK7 _ ?_
   refine vc_seq fun K9 hK9 => ?_
   refine vc_block ?_
   refine vc_seq fun K10 hK10 => ?_
   refine vc_draw (by kernel_rfl) ?_
   change VD _ _ _ 9 _ _ _
   refine vd_light 0 rfl rfl rfl (by kernel_rfl) (by kernel_rfl) (by kernel_rfl) (wnt_none rfl) (lt_move_pv rfl) ?_
   refine vd_light 1 rfl rfl rfl (by kernel_rfl) (by kernel_rfl) (by kernel_rfl) (wnt_none rfl) (lt_move_pv rfl) ?_
   refine vd_light 2 rfl rfl rfl (by kernel_rfl) (by kernel_rfl) (by kernel_rfl) (wnt_none rfl) (lt_index_pv (.agg [(.int .i64 0), (.int .i64 0)]) rfl rfl E43.und inf85 sz85 sd sd) ?_
   simp only [Int.toNat_natCast, Int.toNat_zero, getD_ints, getD_intss, getD_bools, getD_bytes, PV.cells, getD_pairs]
   refine vd_light 3 rfl rfl rfl (by kernel_rfl) (by kernel_rfl) (by kernel_rfl) (wnt_none rfl) (lt_load_adrS rfl Try.underlying85 rfl inf85 sz85 rfl) ?_
   refine vd_st (by (try simp only [St.put, PV.cells, PV.scal, List.drop_succ_cons, List.drop_zero, List.take_succ_cons, List.take_zero, List.map_cons, List.map_nil, Bool.or_true, Bool.or_false, Bool.false_or, Bool.true_or, opP, pairP, instP, heapP]); exact eq_refl _) ?_
   refine vd_light 4 rfl rfl rfl (by kernel_rfl) (by kernel_rfl) (by kernel_rfl) (wnt_none rfl) (lt_move_pv rfl) ?_
   refine vd_light 5 rfl rfl rfl (by kernel_rfl) (by kernel_rfl) (by kernel_rfl) (wnt_none rfl) (lt_move_pv rfl) ?_
   refine vd_light 6 rfl rfl rfl (by kernel_rfl) (by kernel_rfl) (by kernel_rfl) (wnt_none rfl) (lt_index_pv (.agg [(.int .i64 0), (.int .i64 0)]) rfl rfl E43.und inf85 sz85 sd sd) ?_
   simp only [Int.toNat_natCast, Int.toNat_zero, getD_ints, getD_intss, getD_bools, getD_bytes, PV.cells, getD_pairs]
   refine vd_light 7 rfl rfl rfl (by kernel_rfl) (by kernel_rfl) (by kernel_rfl) (wnt_none rfl) (lt_load_adrS rfl Try.underlying85 rfl inf85 sz85 rfl) ?_
   refine vd_st (by (try simp only [St.put, PV.cells, PV.scal, List.drop_succ_cons, List.drop_zero, List.take_succ_cons, List.take_zero, List.map_cons, List.map_nil, Bool.or_true, Bool.or_false, Bool.false_or, Bool.true_or, opP, pairP, instP, heapP]); exact eq_refl _) ?_
   refine vd_light 8 rfl rfl rfl (by kernel_rfl) (by kernel_rfl) (by kernel_rfl) (wnt_none rfl) (lt_neqS2 Q85 rfl rfl) ?_
   refine vd_nil (by kernel_rfl) ?_
   refine hK10 _ ?_
   refine vc_cond rfl (fun hc3 => ?_) (fun hc3 => ?_)
   ·try simp only [zq0, zq1, zq2, zq3, zq4, zq5, zq6, zq7, zq8, zq9, zqa, zqb, zqc, zqd, zqe, zqf] at hc3
    refine vc_seq fun K11 hK11 => ?_
    refine vc_region ?_
    refine vo_assign_pv rfl rfl ?_
    refine vo_nil ?_
    refine hK11 _ ?_
    refine vc_ret ?_
    change retQ _ _ _ _ _
    refine retQ_sel [] (srows := []) (.inr rfl) hC rfl rfl rfl rfl rfl rfl rfl ?_
    refine ⟨?_, rfl⟩
    refine (congrArg (fun b => [bo b]) (?_ : _ = _) : [bo _] = [bo _])
    exact bF fun h => by rw [h] at hc3; simp at hc3
   ·try simp only [zq0, zq1, zq2, zq3, zq4, zq5, zq6, zq7, zq8, zq9, zqa, zqb, zqc, zqd, zqe, zqf] at hc3
    refine vc_skip ?_
    refine hK9 _ ?_
    refine vc_region ?_
    refine vo_move_pv rfl rfl ?_
    refine vo_binI rfl rfl rfl rfl sd ?_
    refine vo_assign_pv rfl rfl ?_
    refine vo_nil ?_
    change againE _ _ _ _ _ _ _ _ _ _
    refine againE_mk rfl rfl rfl rfl rfl rfl ⟨_, ?_, k + 1, rfl, ?_, ?_, rfl, rfl⟩
    ·omega
    ·omega
    ·exact (take_eqS (0, 0) (by omega) (by omega)).2 ⟨hf, Prod.ext_iff.2 (by first | exact hc3 | exact ⟨hc3.1, hc3.2⟩ | (simp at hc3; exact hc3))⟩
  ·try simp only [zq0, zq1, zq2, zq3, zq4, zq5, zq6, zq7, zq8, zq9, zqa, zqb, zqc, zqd, zqe, zqf] at hc2
   refine vc_exit ?_
   refine hK5 _ ?_
   refine vc_seq fun K12 hK12 => ?_
   refine vc_region ?_
   refine vo_assign_pv rfl rfl ?_
   refine vo_nil ?_
   refine hK12 _ ?_
   refine vc_ret ?_
   change retQ _ _ _ _ _
   refine retQ_sel [] (srows := []) (.inr rfl) hC rfl rfl rfl rfl rfl rfl rfl ?_
   refine ⟨?_, rfl⟩
   refine (congrArg (fun b => [bo b]) (?_ : _ = _) : [bo _] = [bo _])
   rw [take_all (by omega), take_all (by omega)] at hf; exact bT hf


theorem DrawRegister_sat {nl : Option Bool} {c : List (Fin 256)} (hl : c.length < 1000000000) : SatAt Try.prog 46 [.pv false (.sl nl 1 (c.map byteP))] [] (fun res rows => ∃ (B : List (List Int)) (f g : Bool) (l : List (Int × Int)) (z y : Int), (1 ≤ B.length ∧ B.length ≤ 10 ∧ (∀ l ∈ B, l.length ≤ 3) ∧ l.length ≤ 4) ∧ res = [.pv f (.sl (some false) 1 (B.map ints)), .pv g (.sl (some false) 2 (l.map pairP)), i64 z, i64 y] ∧ rows = []) := by
 refine sat_entry_G (rs := [(2, none), (3, none), (4, none), (5, none)]) Try.func46 rfl rfl (Nat.le_of_ble_eq_true rfl) (Nat.le_of_ble_eq_true rfl) (resTs4 trivial trivial trivial trivial) fun C hC => ?_
 rw [Try.ntmps46]
 replace hC : C.nb = 0 := hC
 refine vc_seq fun K1 hK1 => ?_
 refine vc_region ?_
 refine vo_assign_pv rfl rfl ?_
 refine vo_assign_pv rfl rfl ?_
 refine vo_assign_pv rfl rfl ?_
 refine vo_assign_pv rfl rfl ?_
 refine vo_nil ?_
 refine hK1 _ ?_
 refine vc_seq fun K2 hK2 => ?_
 refine vc_region ?_
 refine vo_move_pv rfl rfl ?_
 refine vo_call0 Try.func42 rfl rfl rfl rfl (DrawIsSub_sat hl) ?_
 rintro _ _ ⟨B, f, g, l, z, y, hB, rfl, rfl⟩
 refine ⟨rfl, rfl, .inl rfl, ?_⟩
 refine vo_stM ?_
 refine vo_extract rfl rfl rfl ?_
 refine vo_extract rfl rfl rfl ?_
 refine vo_extract rfl rfl rfl ?_
 refine vo_extract rfl rfl rfl ?_
 refine vo_assign_pv rfl rfl ?_
 refine vo_assign_pv rfl rfl ?_
 refine vo_assign_pv rfl rfl ?_
 refine vo_assign_pv rfl rfl ?_
 refine vo_nil ?_
 refine hK2 _ ?_
 refine vc_ret ?_
 change retQ _ _ _ _ _
 refine retQ_sel [] (srows := []) (.inr rfl) hC rfl rfl rfl rfl rfl rfl rfl ?_
 exact ⟨B, f, g, l, z, y, hB, rfl, rfl⟩

set_option maxHeartbeats 8000000 in
theorem FnRegister_sat {nl : Option Bool} {code : List (Fin 256)} : SatAt Try.prog 13 [.pv false (.sl nl 1 (code.map byteP))] [] (fun res rows => res = [bo true] ∧ rows = []) := by
 refine sat_entry_G (rs := [(2, none)]) Try.func13 rfl rfl (Nat.le_of_ble_eq_true rfl) (Nat.le_of_ble_eq_true rfl) (resTs1 trivial) fun C hC => ?_
 rw [Try.ntmps13]
 replace hC : C.nb = 0 := hC
 refine vc_seq fun K1 hK1 => ?_
 refine vc_region ?_
 refine vo_assign_pv rfl rfl ?_
 refine vo_nil ?_
 refine hK1 _ ?_
 refine vc_seq fun K2 hK2 => ?_
 refine vc_seq fun K3 hK3 => ?_
 refine vc_region ?_
 refine vo_move_pv rfl rfl ?_
 refine vo_len_pv rfl rfl Try.underlying22 ?_
 refine vo_binI rfl rfl rfl rfl trivial ?_
 refine vo_nil ?_
 refine hK3 _ ?_
 refine vc_cond rfl (fun hc1 => ?_) (fun hc1 => ?_)
 ·try simp only [zq0, zq1, zq2, zq3, zq4, zq5, zq6, zq7, zq8, zq9, zqa, zqb, zqc, zqd, zqe, zqf] at hc1
  refine vc_seq fun K4 hK4 => ?_
  refine vc_region ?_
  refine vo_assign_pv rfl rfl ?_
  refine vo_nil ?_
  refine hK4 _ ?_
  refine vc_ret ?_
  (try clear hK4); (try clear hK3); (try clear hK2); (try clear hK1)
  change retQ _ _ _ _ _
  refine retQ_sel [] (srows := []) (.inr rfl) hC rfl rfl rfl rfl rfl rfl rfl ?_
  first | exact ⟨rfl, rfl⟩ | (exfalso; simp_all; done) | (exfalso; omega) | (refine ⟨(congrArg (fun b => [bo b]) (?_ : _ = true) : [bo _] = [bo true]), rfl⟩; first | simp_all | (simp; omega))
 ·try simp only [zq0, zq1, zq2, zq3, zq4, zq5, zq6, zq7, zq8, zq9, zqa, zqb, zqc, zqd, zqe, zqf] at hc1
  refine vc_skip ?_
  refine hK2 _ ?_
  refine vc_seq fun K5 hK5 => ?_
  refine vc_region ?_
  refine vo_move_pv rfl rfl ?_
  refine vo_call0 Try.func46 rfl rfl rfl rfl (DrawRegister_sat (by omega)) ?_
  rintro _ _ ⟨B, f, g, l, z, y, ⟨h1, h2, h3, h4⟩, rfl, rfl⟩
  refine ⟨rfl, rfl, .inl rfl, ?_⟩
  refine vo_stM ?_
  have hb9 : ∀ l ∈ B, l.length < 1000000000 := fun l hl => by have := h3 l hl; omega
  have hrl := regR_len (b := B) (r := l) (s := z) (o := y)
  refine vo_move rfl ?_
  refine vo_stM ?_
  refine vo_extract rfl rfl rfl ?_
  refine vo_extract rfl rfl rfl ?_
  refine vo_extract rfl rfl rfl ?_
  refine vo_extract rfl rfl rfl ?_
  refine vo_assign_pv rfl rfl ?_
  refine vo_assign_pv rfl rfl ?_
  refine vo_assign_pv rfl rfl ?_
  refine vo_assign_pv rfl rfl ?_
  refine vo_nil ?_
  refine hK5 _ ?_
  refine vc_seq fun K6 hK6 => ?_
  refine vc_region ?_
  refine vo_move_pv rfl rfl ?_
  refine vo_move_pv rfl rfl ?_
  refine vo_move_pv rfl rfl ?_
  refine vo_move_pv rfl rfl ?_
  refine vo_call [] Try.func47 rfl rfl rfl rfl rfl rfl rfl (registerOwn_sat (regs := l) (a := z) (b := y) (by omega) hb9 (by omega)) ?_
  rintro _ _ ⟨nlq, rfl, rfl⟩
  refine ⟨Nat.le_of_ble_eq_true rfl, ⟨rfl, rfl, rfl, rfl⟩, .inl rfl, ?_⟩
  refine vo_stM ?_
  refine vo_move rfl ?_
  refine vo_stM ?_
  refine vo_extract rfl rfl rfl ?_
  refine vo_extract rfl rfl rfl ?_
  refine vo_expose 0 (by omega) rfl ?_
  refine vo_stM ?_
  refine vo_weaken 29 rfl ?_
  refine vo_stM ?_
  refine vo_assign_pv rfl rfl ?_
  refine vo_assign_pv rfl rfl ?_
  refine vo_nil ?_
  refine hK6 _ ?_
  refine vc_seq fun K7 hK7 => ?_
  refine vc_region ?_
  refine vo_move_pv rfl rfl ?_
  refine vo_move_pv rfl rfl ?_
  refine vo_move_pv rfl rfl ?_
  refine vo_move_pv rfl rfl ?_
  refine vo_call0 Try.func48 rfl rfl rfl rfl (specRegister_sat (regs := l) (a := z) (b := y) (by omega) hb9 (by omega)) ?_
  rintro _ _ ⟨nlp, rfl, rfl⟩
  refine ⟨rfl, rfl, .inl rfl, ?_⟩
  refine vo_stM ?_
  refine vo_move rfl ?_
  refine vo_stM ?_
  refine vo_extract rfl rfl rfl ?_
  refine vo_extract rfl rfl rfl ?_
  refine vo_assign_pv rfl rfl ?_
  refine vo_assign_pv rfl rfl ?_
  refine vo_nil ?_
  refine hK7 _ ?_
  refine vc_seq fun K8 hK8 => ?_
  refine vc_seq fun K9 hK9 => ?_
  refine vc_region ?_
  refine vo_move_pv rfl rfl ?_
  refine vo_move_pv rfl rfl ?_
  refine vo_call0 Try.func49 rfl rfl rfl rfl (equalRegs_sat (a := (regR B l z y).1) (b := (regR B l z y).1) (by omega) (by omega)) ?_
  rintro _ _ ⟨rfl, rfl⟩
  refine ⟨rfl, rfl, .inl rfl, ?_⟩
  refine vo_stM ?_
  refine vo_not rfl rfl ?_
  refine vo_move_pv rfl rfl ?_
  refine vo_split 43 rfl (fun hg2 => ?_) (fun hg2 => ?_)
  ·try simp only [zq0, zq1, zq2, zq3, zq4, zq5, zq6, zq7, zq8, zq9, zqa, zqb, zqc, zqd, zqe, zqf] at hg2
   refine vo_guard_off rfl rfl rfl rfl rfl ?_
   refine vo_guard_off rfl rfl rfl rfl rfl ?_
   refine vo_guard_off rfl rfl rfl rfl rfl ?_
   refine vo_pick_t rfl rfl ?_
   refine vo_move_pv rfl rfl ?_
   refine vo_guard_off rfl rfl rfl rfl rfl ?_
   refine vo_guard_off rfl rfl rfl rfl rfl ?_
   refine vo_pick_t rfl rfl ?_
   refine vo_nil ?_
   refine hK9 _ ?_
   refine vc_cond_t rfl ?_
   refine vc_seq fun K10 hK10 => ?_
   refine vc_region ?_
   refine vo_move_pv rfl rfl ?_
   refine vo_move_pv rfl rfl ?_
   refine vo_call0 Try.func49 rfl rfl rfl rfl (equalRegs_sat (a := (regR B l z y).1) (b := (regR B l z y).1) (by omega) (by omega)) ?_
   rintro _ _ ⟨rfl, rfl⟩
   refine ⟨rfl, rfl, .inl rfl, ?_⟩
   refine vo_stM ?_
   refine vo_move_pv rfl rfl ?_
   refine vo_split 55 rfl (fun hg3 => ?_) (fun hg3 => ?_)
   ·try simp only [zq0, zq1, zq2, zq3, zq4, zq5, zq6, zq7, zq8, zq9, zqa, zqb, zqc, zqd, zqe, zqf] at hg3
    refine vo_guard_on rfl rfl rfl ?_
    refine vo_move_pv rfl rfl ?_
    refine vo_guard_on rfl rfl rfl ?_
    refine vo_move_pv rfl rfl ?_
    refine vo_guard_on rfl rfl rfl ?_
    refine vo_binB rfl rfl rfl rfl Try.underlying4 ?_
    refine vo_pick_t rfl rfl ?_
    refine vo_assign_pv rfl rfl ?_
    refine vo_nil ?_
    refine hK10 _ ?_
    refine vc_ret ?_
    (try clear hK10); (try clear hK9); (try clear hK8); (try clear hK7); (try clear hK6); (try clear hK5); (try clear hK4); (try clear hK3); (try clear hK2); (try clear hK1)
    change retQ _ _ _ _ _
    refine retQ_sel [] (srows := []) (.inr rfl) hC rfl rfl rfl rfl rfl rfl rfl ?_
    first | exact ⟨rfl, rfl⟩ | (exfalso; simp_all; done) | (exfalso; omega) | (refine ⟨(congrArg (fun b => [bo b]) (?_ : _ = true) : [bo _] = [bo true]), rfl⟩; first | simp_all | (simp; omega))
   ·try simp only [zq0, zq1, zq2, zq3, zq4, zq5, zq6, zq7, zq8, zq9, zqa, zqb, zqc, zqd, zqe, zqf] at hg3
    refine vo_guard_off rfl rfl rfl rfl rfl ?_
    refine vo_guard_off rfl rfl rfl rfl rfl ?_
    refine vo_guard_off rfl rfl rfl rfl rfl ?_
    refine vo_pick_f rfl rfl ?_
    refine vo_assign_pv rfl rfl ?_
    refine vo_nil ?_
    refine hK10 _ ?_
    refine vc_ret ?_
    (try clear hK10); (try clear hK9); (try clear hK8); (try clear hK7); (try clear hK6); (try clear hK5); (try clear hK4); (try clear hK3); (try clear hK2); (try clear hK1)
    change retQ _ _ _ _ _
    refine retQ_sel [] (srows := []) (.inr rfl) hC rfl rfl rfl rfl rfl rfl rfl ?_
    first | exact ⟨rfl, rfl⟩ | (exfalso; simp_all; done) | (exfalso; omega) | (refine ⟨(congrArg (fun b => [bo b]) (?_ : _ = true) : [bo _] = [bo true]), rfl⟩; first | simp_all | (simp; omega))
  ·try simp only [zq0, zq1, zq2, zq3, zq4, zq5, zq6, zq7, zq8, zq9, zqa, zqb, zqc, zqd, zqe, zqf] at hg2
   refine vo_guard_on rfl rfl rfl ?_
   refine vo_move_pv rfl rfl ?_
   refine vo_guard_on rfl rfl rfl ?_
   refine vo_move_pv rfl rfl ?_
   refine vo_guard_on rfl rfl rfl ?_
   refine vo_binB rfl rfl rfl rfl Try.underlying4 ?_
   refine vo_pick_f rfl rfl ?_
   refine vo_move_pv rfl rfl ?_
   refine vo_split 48 rfl (fun hg4 => ?_) (fun hg4 => ?_)
   ·try simp only [zq0, zq1, zq2, zq3, zq4, zq5, zq6, zq7, zq8, zq9, zqa, zqb, zqc, zqd, zqe, zqf] at hg4
    refine vo_guard_off rfl rfl rfl rfl rfl ?_
    refine vo_guard_off rfl rfl rfl rfl rfl ?_
    refine vo_pick_t rfl rfl ?_
    refine vo_nil ?_
    refine hK9 _ ?_
    refine vc_cond_t rfl ?_
    refine vc_seq fun K11 hK11 => ?_
    refine vc_region ?_
    refine vo_move_pv rfl rfl ?_
    refine vo_move_pv rfl rfl ?_
    refine vo_call0 Try.func49 rfl rfl rfl rfl (equalRegs_sat (a := (regR B l z y).1) (b := (regR B l z y).1) (by omega) (by omega)) ?_
    rintro _ _ ⟨rfl, rfl⟩
    refine ⟨rfl, rfl, .inl rfl, ?_⟩
    refine vo_stM ?_
    refine vo_move_pv rfl rfl ?_
    refine vo_split 55 rfl (fun hg5 => ?_) (fun hg5 => ?_)
    ·try simp only [zq0, zq1, zq2, zq3, zq4, zq5, zq6, zq7, zq8, zq9, zqa, zqb, zqc, zqd, zqe, zqf] at hg5
     refine vo_guard_on rfl rfl rfl ?_
     refine vo_move_pv rfl rfl ?_
     refine vo_guard_on rfl rfl rfl ?_
     refine vo_move_pv rfl rfl ?_
     refine vo_guard_on rfl rfl rfl ?_
     refine vo_binB rfl rfl rfl rfl Try.underlying4 ?_
     refine vo_pick_t rfl rfl ?_
     refine vo_assign_pv rfl rfl ?_
     refine vo_nil ?_
     refine hK11 _ ?_
     refine vc_ret ?_
     (try clear hK11); (try clear hK10); (try clear hK9); (try clear hK8); (try clear hK7); (try clear hK6); (try clear hK5); (try clear hK4); (try clear hK3); (try clear hK2); (try clear hK1)
     change retQ _ _ _ _ _
     refine retQ_sel [] (srows := []) (.inr rfl) hC rfl rfl rfl rfl rfl rfl rfl ?_
     first | exact ⟨rfl, rfl⟩ | (exfalso; simp_all; done) | (exfalso; omega) | (refine ⟨(congrArg (fun b => [bo b]) (?_ : _ = true) : [bo _] = [bo true]), rfl⟩; first | simp_all | (simp; omega))
    ·try simp only [zq0, zq1, zq2, zq3, zq4, zq5, zq6, zq7, zq8, zq9, zqa, zqb, zqc, zqd, zqe, zqf] at hg5
     refine vo_guard_off rfl rfl rfl rfl rfl ?_
     refine vo_guard_off rfl rfl rfl rfl rfl ?_
     refine vo_guard_off rfl rfl rfl rfl rfl ?_
     refine vo_pick_f rfl rfl ?_
     refine vo_assign_pv rfl rfl ?_
     refine vo_nil ?_
     refine hK11 _ ?_
     refine vc_ret ?_
     (try clear hK11); (try clear hK10); (try clear hK9); (try clear hK8); (try clear hK7); (try clear hK6); (try clear hK5); (try clear hK4); (try clear hK3); (try clear hK2); (try clear hK1)
     change retQ _ _ _ _ _
     refine retQ_sel [] (srows := []) (.inr rfl) hC rfl rfl rfl rfl rfl rfl rfl ?_
     first | exact ⟨rfl, rfl⟩ | (exfalso; simp_all; done) | (exfalso; omega) | (refine ⟨(congrArg (fun b => [bo b]) (?_ : _ = true) : [bo _] = [bo true]), rfl⟩; first | simp_all | (simp; omega))
   ·try simp only [zq0, zq1, zq2, zq3, zq4, zq5, zq6, zq7, zq8, zq9, zqa, zqb, zqc, zqd, zqe, zqf] at hg4
    refine vo_guard_on rfl rfl rfl ?_
    refine vo_move_pv rfl rfl ?_
    refine vo_guard_on rfl rfl rfl ?_
    refine vo_not rfl rfl ?_
    refine vo_pick_f rfl rfl ?_
    refine vo_nil ?_
    refine hK9 _ ?_
    refine vc_cond rfl (fun hc6 => ?_) (fun hc6 => ?_)
    ·try simp only [zq0, zq1, zq2, zq3, zq4, zq5, zq6, zq7, zq8, zq9, zqa, zqb, zqc, zqd, zqe, zqf] at hc6
     refine vc_seq fun K12 hK12 => ?_
     refine vc_region ?_
     refine vo_move_pv rfl rfl ?_
     refine vo_move_pv rfl rfl ?_
     refine vo_call0 Try.func49 rfl rfl rfl rfl (equalRegs_sat (a := (regR B l z y).1) (b := (regR B l z y).1) (by omega) (by omega)) ?_
     rintro _ _ ⟨rfl, rfl⟩
     refine ⟨rfl, rfl, .inl rfl, ?_⟩
     refine vo_stM ?_
     refine vo_move_pv rfl rfl ?_
     refine vo_split 55 rfl (fun hg7 => ?_) (fun hg7 => ?_)
     ·try simp only [zq0, zq1, zq2, zq3, zq4, zq5, zq6, zq7, zq8, zq9, zqa, zqb, zqc, zqd, zqe, zqf] at hg7
      refine vo_guard_on rfl rfl rfl ?_
      refine vo_move_pv rfl rfl ?_
      refine vo_guard_on rfl rfl rfl ?_
      refine vo_move_pv rfl rfl ?_
      refine vo_guard_on rfl rfl rfl ?_
      refine vo_binB rfl rfl rfl rfl Try.underlying4 ?_
      refine vo_pick_t rfl rfl ?_
      refine vo_assign_pv rfl rfl ?_
      refine vo_nil ?_
      refine hK12 _ ?_
      refine vc_ret ?_
      (try clear hK12); (try clear hK11); (try clear hK10); (try clear hK9); (try clear hK8); (try clear hK7); (try clear hK6); (try clear hK5); (try clear hK4); (try clear hK3); (try clear hK2); (try clear hK1)
      change retQ _ _ _ _ _
      refine retQ_sel [] (srows := []) (.inr rfl) hC rfl rfl rfl rfl rfl rfl rfl ?_
      first | exact ⟨rfl, rfl⟩ | (exfalso; simp_all; done) | (exfalso; omega) | (refine ⟨(congrArg (fun b => [bo b]) (?_ : _ = true) : [bo _] = [bo true]), rfl⟩; first | simp_all | (simp; omega))
     ·try simp only [zq0, zq1, zq2, zq3, zq4, zq5, zq6, zq7, zq8, zq9, zqa, zqb, zqc, zqd, zqe, zqf] at hg7
      refine vo_guard_off rfl rfl rfl rfl rfl ?_
      refine vo_guard_off rfl rfl rfl rfl rfl ?_
      refine vo_guard_off rfl rfl rfl rfl rfl ?_
      refine vo_pick_f rfl rfl ?_
      refine vo_assign_pv rfl rfl ?_
      refine vo_nil ?_
      refine hK12 _ ?_
      refine vc_ret ?_
      (try clear hK12); (try clear hK11); (try clear hK10); (try clear hK9); (try clear hK8); (try clear hK7); (try clear hK6); (try clear hK5); (try clear hK4); (try clear hK3); (try clear hK2); (try clear hK1)
      change retQ _ _ _ _ _
      refine retQ_sel [] (srows := []) (.inr rfl) hC rfl rfl rfl rfl rfl rfl rfl ?_
      first | exact ⟨rfl, rfl⟩ | (exfalso; simp_all; done) | (exfalso; omega) | (refine ⟨(congrArg (fun b => [bo b]) (?_ : _ = true) : [bo _] = [bo true]), rfl⟩; first | simp_all | (simp; omega))
    ·try simp only [zq0, zq1, zq2, zq3, zq4, zq5, zq6, zq7, zq8, zq9, zqa, zqb, zqc, zqd, zqe, zqf] at hc6
     have hrf := reg_facts (b := B) (r := l) (s := z) (o := y) (by simpa using hc6)
     obtain ⟨f1, f2, f3, f4, f5, f6, f7, f8⟩ := hrf
     refine vc_skip ?_
     refine hK8 _ ?_
     refine vc_seq fun K13 hK13 => ?_
     refine vc_seq fun K14 hK14 => ?_
     refine vc_region ?_
     refine vo_assign_pv rfl rfl ?_
     refine vo_nil ?_
     refine hK14 _ ?_
     refine vc_block ?_
     refine vc_stM ?_
     refine vc_loopE [3, 4, 5, 6, 7] [11] [] _ _ (fun mz vs rs => ∃ (i : Nat), mz = B.length - i ∧ (i ≤ B.length) ∧ vs = [i64 i] ∧ rs = []) (B.length) rfl rfl (le_len hC rfl) ⟨rfl, rfl, rfl⟩ rfl ⟨0, rfl, (Nat.zero_le _), rfl, rfl⟩ ?_
     rintro mz vs rs - - ⟨i, rfl, hi, rfl, rfl⟩
     refine vc_stM ?_
     refine vc_seq fun K15 hK15 => ?_
     refine vc_seq fun K16 hK16 => ?_
     refine vc_region ?_
     refine vo_move_pv rfl rfl ?_
     refine vo_move_pv rfl rfl ?_
     refine vo_len_pv rfl rfl Try.underlying23 ?_
     refine vo_binI rfl rfl rfl rfl trivial ?_
     refine vo_nil ?_
     refine hK16 _ ?_
     refine vc_cond rfl (fun hc8 => ?_) (fun hc8 => ?_)
     ·try simp only [zq0, zq1, zq2, zq3, zq4, zq5, zq6, zq7, zq8, zq9, zqa, zqb, zqc, zqd, zqe, zqf] at hc8
      refine vc_skip ?_
      refine hK15 _ ?_
      refine vc_seq fun K17 hK17 => ?_
      refine vc_block ?_
      refine vc_seq fun K18 hK18 => ?_
      refine vc_region ?_
      refine vo_move_pv rfl rfl ?_
      refine vo_move_pv rfl rfl ?_
      refine vo_move_pv rfl rfl ?_
      refine vo_call [] Try.func35 rfl rfl rfl rfl rfl rfl rfl (supersOwn_sat (regs := l) (c := i) (by omega) hb9 (by omega)) ?_
      rintro _ _ ⟨nlg, rfl, rfl⟩
      refine ⟨Nat.le_of_ble_eq_true rfl, ⟨rfl, rfl, rfl, rfl⟩, .inl rfl, ?_⟩
      refine vo_stM ?_
      refine vo_expose 1 (by omega) rfl ?_
      refine vo_stM ?_
      refine vo_weaken 69 rfl ?_
      refine vo_stM ?_
      refine vo_move_pv rfl rfl ?_
      refine vo_move_pv rfl rfl ?_
      refine vo_move_pv rfl rfl ?_
      refine vo_call [] Try.func35 rfl rfl rfl rfl rfl rfl rfl (supersOwn_sat (regs := (regR B l z y).1) (c := i) (by omega) hb9 (by omega)) ?_
      rintro _ _ ⟨nlg, rfl, rfl⟩
      refine ⟨Nat.le_of_ble_eq_true rfl, ⟨rfl, rfl, rfl, rfl⟩, .inl rfl, ?_⟩
      refine vo_stM ?_
      refine vo_expose 2 (by omega) rfl ?_
      refine vo_stM ?_
      refine vo_weaken 73 rfl ?_
      refine vo_stM ?_
      refine vo_call0 Try.func19 rfl rfl rfl rfl (within_sat (a := supM B l i) (b := supM B (regR B l z y).1 i) (by have := supM_len (b := B) (r := l) (c := i); omega) (by have := supM_len (b := B) (r := (regR B l z y).1) (c := i); omega)) ?_
      rintro _ _ ⟨rfl, rfl⟩
      refine ⟨rfl, rfl, .inl rfl, ?_⟩
      refine vo_stM ?_
      refine vo_not rfl rfl ?_
      refine vo_nil ?_
      refine hK18 _ ?_
      refine vc_cond rfl (fun hc9 => ?_) (fun hc9 => ?_)
      ·try simp only [zq0, zq1, zq2, zq3, zq4, zq5, zq6, zq7, zq8, zq9, zqa, zqb, zqc, zqd, zqe, zqf] at hc9
       exact absurd (reg_within f1 f4 f5 (show i < B.length by omega)) hc9
      ·try simp only [zq0, zq1, zq2, zq3, zq4, zq5, zq6, zq7, zq8, zq9, zqa, zqb, zqc, zqd, zqe, zqf] at hc9
       refine vc_skip ?_
       refine hK17 _ ?_
       refine vc_region ?_
       refine vo_move_pv rfl rfl ?_
       refine vo_binI rfl rfl rfl rfl sd ?_
       refine vo_assign_pv rfl rfl ?_
       refine vo_nil ?_
       (try clear hK18); (try clear hK17); (try clear hK16); (try clear hK15); (try clear hK14); (try clear hK13); (try clear hK12); (try clear hK11); (try clear hK10); (try clear hK9); (try clear hK8); (try clear hK7); (try clear hK6); (try clear hK5); (try clear hK4); (try clear hK3); (try clear hK2); (try clear hK1)
       change againE _ _ _ _ _ _ _ _ _ _
       refine againE_mk rfl rfl rfl rfl rfl rfl ⟨_, ?_, i + 1, rfl, ?_, rfl, rfl⟩
       ·omega
       ·omega
     ·try simp only [zq0, zq1, zq2, zq3, zq4, zq5, zq6, zq7, zq8, zq9, zqa, zqb, zqc, zqd, zqe, zqf] at hc8
      refine vc_exit ?_
      refine hK13 _ ?_
      refine vc_seq fun K19 hK19 => ?_
      refine vc_region ?_
      refine vo_move_pv rfl rfl ?_
      refine vo_move_pv rfl rfl ?_
      refine vo_move_pv rfl rfl ?_
      refine vo_move_pv rfl rfl ?_
      refine vo_call0 Try.func43 rfl rfl rfl rfl (implIsSub_sat (regs := l) (by omega) hb9 (by omega)) ?_
      rintro _ _ ⟨rfl, rfl⟩
      refine ⟨rfl, rfl, .inl rfl, ?_⟩
      refine vo_stM ?_
      refine vo_assign_pv rfl rfl ?_
      refine vo_nil ?_
      refine hK19 _ ?_
      refine vc_seq fun K20 hK20 => ?_
      refine vc_region ?_
      refine vo_move_pv rfl rfl ?_
      refine vo_move_pv rfl rfl ?_
      refine vo_move_pv rfl rfl ?_
      refine vo_move_pv rfl rfl ?_
      refine vo_call0 Try.func43 rfl rfl rfl rfl (implIsSub_sat (regs := (regR B l z y).1) (by omega) hb9 (by omega)) ?_
      rintro _ _ ⟨rfl, rfl⟩
      refine ⟨rfl, rfl, .inl rfl, ?_⟩
      refine vo_stM ?_
      refine vo_move_pv rfl rfl ?_
      refine vo_split 86 rfl (fun hg10 => ?_) (fun hg10 => ?_)
      ·try simp only [zq0, zq1, zq2, zq3, zq4, zq5, zq6, zq7, zq8, zq9, zqa, zqb, zqc, zqd, zqe, zqf] at hg10
       refine vo_guard_on rfl rfl rfl ?_
       refine vo_move_pv rfl rfl ?_
       refine vo_guard_on rfl rfl rfl ?_
       refine vo_move_pv rfl rfl ?_
       refine vo_split 88 rfl (fun hg11 => ?_) (fun hg11 => ?_)
       ·try simp only [zq0, zq1, zq2, zq3, zq4, zq5, zq6, zq7, zq8, zq9, zqa, zqb, zqc, zqd, zqe, zqf] at hg11
        have f9 := f7 hg11
        refine vo_guard_on rfl rfl rfl ?_
        refine vo_move_pv rfl rfl ?_
        refine vo_guard_on rfl rfl rfl ?_
        refine vo_move_pv rfl rfl ?_
        refine vo_guard_on rfl rfl rfl ?_
        refine vo_call0 Try.func49 rfl rfl rfl rfl (equalRegs_sat (a := (regR B l z y).1) (b := l) (by omega) (by omega)) ?_
        rintro _ _ ⟨rfl, rfl⟩
        refine ⟨rfl, rfl, .inl rfl, ?_⟩
        refine vo_stM ?_
        refine vo_guard_on rfl rfl rfl ?_
        refine vo_pick_t rfl rfl ?_
        refine vo_guard_on rfl rfl rfl ?_
        refine vo_move_pv rfl rfl ?_
        refine vo_split 93 rfl (fun hg12 => ?_) (fun hg12 => ?_)
        ·try simp only [zq0, zq1, zq2, zq3, zq4, zq5, zq6, zq7, zq8, zq9, zqa, zqb, zqc, zqd, zqe, zqf] at hg12
         refine vo_guard_off rfl rfl rfl rfl rfl ?_
         refine vo_guard_off rfl rfl rfl rfl rfl ?_
         refine vo_guard_off rfl rfl rfl rfl rfl ?_
         refine vo_guard_und rfl rfl rfl rfl ?_
         refine vo_guard_und rfl rfl rfl rfl ?_
         refine vo_guard_und rfl rfl rfl rfl ?_
         refine vo_guard_und rfl rfl rfl rfl ?_
         refine vo_guard_und rfl rfl rfl rfl ?_
         refine vo_guard_und rfl rfl rfl rfl ?_
         refine vo_guard_off rfl rfl rfl rfl rfl ?_
         refine vo_guard_off rfl rfl rfl rfl rfl ?_
         refine vo_guard_und rfl rfl rfl rfl ?_
         refine vo_guard_und rfl rfl rfl rfl ?_
         refine vo_guard_und rfl rfl rfl rfl ?_
         refine vo_guard_und rfl rfl rfl rfl ?_
         refine vo_guard_und rfl rfl rfl rfl ?_
         refine vo_guard_und rfl rfl rfl rfl ?_
         refine vo_guard_off rfl rfl rfl rfl rfl ?_
         refine vo_guard_on rfl rfl rfl ?_
         refine vo_pick_t rfl rfl ?_
         refine vo_pick_t rfl rfl ?_
         refine vo_assign_pv rfl rfl ?_
         refine vo_nil ?_
         refine hK20 _ ?_
         refine vc_ret ?_
         (try clear hK20); (try clear hK19); (try clear hK18); (try clear hK17); (try clear hK16); (try clear hK15); (try clear hK14); (try clear hK13); (try clear hK12); (try clear hK11); (try clear hK10); (try clear hK9); (try clear hK8); (try clear hK7); (try clear hK6); (try clear hK5); (try clear hK4); (try clear hK3); (try clear hK2); (try clear hK1)
         change retQ _ _ _ _ _
         refine retQ_sel [] (srows := []) (.inr rfl) hC rfl rfl rfl rfl rfl rfl rfl ?_
         first | exact ⟨rfl, rfl⟩ | (exfalso; simp_all; done) | (exfalso; omega) | (refine ⟨(congrArg (fun b => [bo b]) (?_ : _ = true) : [bo _] = [bo true]), rfl⟩; first | simp_all | (simp; omega))
        ·try simp only [zq0, zq1, zq2, zq3, zq4, zq5, zq6, zq7, zq8, zq9, zqa, zqb, zqc, zqd, zqe, zqf] at hg12
         exact absurd f9 hg12
       ·try simp only [zq0, zq1, zq2, zq3, zq4, zq5, zq6, zq7, zq8, zq9, zqa, zqb, zqc, zqd, zqe, zqf] at hg11
        have f9 := f8 hg11
        have f10 := f9.2
        have f11 := f9.1
        refine vo_guard_off rfl rfl rfl rfl rfl ?_
        refine vo_guard_off rfl rfl rfl rfl rfl ?_
        refine vo_guard_off rfl rfl rfl rfl rfl ?_
        refine vo_guard_on rfl rfl rfl ?_
        refine vo_pick_f rfl rfl ?_
        refine vo_guard_on rfl rfl rfl ?_
        refine vo_move_pv rfl rfl ?_
        refine vo_guard_on rfl rfl rfl ?_
        refine vo_move_pv rfl rfl ?_
        refine vo_guard_on rfl rfl rfl ?_
        refine vo_not rfl rfl ?_
        refine vo_guard_on rfl rfl rfl ?_
        refine vo_move_pv rfl rfl ?_
        refine vo_split 96 rfl (fun hg13 => ?_) (fun hg13 => ?_)
        ·try simp only [zq0, zq1, zq2, zq3, zq4, zq5, zq6, zq7, zq8, zq9, zqa, zqb, zqc, zqd, zqe, zqf] at hg13
         refine vo_guard_on rfl rfl rfl ?_
         refine vo_move_pv rfl rfl ?_
         refine vo_guard_on rfl rfl rfl ?_
         refine vo_len_pv rfl rfl Try.underlying43 ?_
         refine vo_guard_on rfl rfl rfl ?_
         refine vo_move_pv rfl rfl ?_
         refine vo_guard_on rfl rfl rfl ?_
         refine vo_len_pv rfl rfl Try.underlying43 ?_
         refine vo_guard_on rfl rfl rfl ?_
         refine vo_binI rfl rfl rfl rfl sd ?_
         refine vo_guard_on rfl rfl rfl ?_
         refine vo_binI rfl rfl rfl rfl trivial ?_
         refine vo_guard_on rfl rfl rfl ?_
         refine vo_pick_t rfl rfl ?_
         refine vo_guard_on rfl rfl rfl ?_
         refine vo_move_pv rfl rfl ?_
         refine vo_split 104 rfl (fun hg14 => ?_) (fun hg14 => ?_)
         ·try simp only [zq0, zq1, zq2, zq3, zq4, zq5, zq6, zq7, zq8, zq9, zqa, zqb, zqc, zqd, zqe, zqf] at hg14
          refine vo_guard_on rfl rfl rfl ?_
          refine vo_move_pv rfl rfl ?_
          refine vo_guard_on rfl rfl rfl ?_
          refine vo_move_pv rfl rfl ?_
          refine vo_guard_on rfl rfl rfl ?_
          refine vo_move_pv rfl rfl ?_
          refine vo_guard_on rfl rfl rfl ?_
          refine vo_move_pv rfl rfl ?_
          refine vo_guard_on rfl rfl rfl ?_
          refine vo_call0 Try.func43 rfl rfl rfl rfl (implIsSub_sat (regs := (regR B l z y).1) (by omega) hb9 (by omega)) ?_
          rintro _ _ ⟨rfl, rfl⟩
          refine ⟨rfl, rfl, .inl rfl, ?_⟩
          refine vo_stM ?_
          refine vo_guard_on rfl rfl rfl ?_
          refine vo_not rfl rfl ?_
          refine vo_guard_on rfl rfl rfl ?_
          refine vo_pick_t rfl rfl ?_
          refine vo_guard_on rfl rfl rfl ?_
          refine vo_pick_f rfl rfl ?_
          refine vo_pick_t rfl rfl ?_
          refine vo_assign_pv rfl rfl ?_
          refine vo_nil ?_
          refine hK20 _ ?_
          refine vc_ret ?_
          (try clear hK20); (try clear hK19); (try clear hK18); (try clear hK17); (try clear hK16); (try clear hK15); (try clear hK14); (try clear hK13); (try clear hK12); (try clear hK11); (try clear hK10); (try clear hK9); (try clear hK8); (try clear hK7); (try clear hK6); (try clear hK5); (try clear hK4); (try clear hK3); (try clear hK2); (try clear hK1)
          change retQ _ _ _ _ _
          refine retQ_sel [] (srows := []) (.inr rfl) hC rfl rfl rfl rfl rfl rfl rfl ?_
          first | exact ⟨rfl, rfl⟩ | (exfalso; simp_all; done) | (exfalso; omega) | (refine ⟨(congrArg (fun b => [bo b]) (?_ : _ = true) : [bo _] = [bo true]), rfl⟩; first | simp_all | (simp; omega))
         ·try simp only [zq0, zq1, zq2, zq3, zq4, zq5, zq6, zq7, zq8, zq9, zqa, zqb, zqc, zqd, zqe, zqf] at hg14
          refine vo_guard_off rfl rfl rfl rfl rfl ?_
          refine vo_guard_off rfl rfl rfl rfl rfl ?_
          refine vo_guard_off rfl rfl rfl rfl rfl ?_
          refine vo_guard_off rfl rfl rfl rfl rfl ?_
          refine vo_guard_off rfl rfl rfl rfl rfl ?_
          refine vo_guard_off rfl rfl rfl rfl rfl ?_
          refine vo_guard_on rfl rfl rfl ?_
          refine vo_pick_f rfl rfl ?_
          refine vo_guard_on rfl rfl rfl ?_
          refine vo_pick_f rfl rfl ?_
          refine vo_pick_t rfl rfl ?_
          refine vo_assign_pv rfl rfl ?_
          refine vo_nil ?_
          refine hK20 _ ?_
          refine vc_ret ?_
          (try clear hK20); (try clear hK19); (try clear hK18); (try clear hK17); (try clear hK16); (try clear hK15); (try clear hK14); (try clear hK13); (try clear hK12); (try clear hK11); (try clear hK10); (try clear hK9); (try clear hK8); (try clear hK7); (try clear hK6); (try clear hK5); (try clear hK4); (try clear hK3); (try clear hK2); (try clear hK1)
          change retQ _ _ _ _ _
          refine retQ_sel [] (srows := []) (.inr rfl) hC rfl rfl rfl rfl rfl rfl rfl ?_
          first | exact ⟨rfl, rfl⟩ | (exfalso; simp_all; done) | (exfalso; omega) | (refine ⟨(congrArg (fun b => [bo b]) (?_ : _ = true) : [bo _] = [bo true]), rfl⟩; first | simp_all | (simp; omega))
        ·try simp only [zq0, zq1, zq2, zq3, zq4, zq5, zq6, zq7, zq8, zq9, zqa, zqb, zqc, zqd, zqe, zqf] at hg13
         refine vo_guard_off rfl rfl rfl rfl rfl ?_
         refine vo_guard_off rfl rfl rfl rfl rfl ?_
         refine vo_guard_off rfl rfl rfl rfl rfl ?_
         refine vo_guard_off rfl rfl rfl rfl rfl ?_
         refine vo_guard_off rfl rfl rfl rfl rfl ?_
         refine vo_guard_off rfl rfl rfl rfl rfl ?_
         refine vo_guard_on rfl rfl rfl ?_
         refine vo_pick_f rfl rfl ?_
         refine vo_guard_on rfl rfl rfl ?_
         refine vo_move_pv rfl rfl ?_
         refine vo_guard_off rfl rfl rfl rfl rfl ?_
         refine vo_guard_off rfl rfl rfl rfl rfl ?_
         refine vo_guard_off rfl rfl rfl rfl rfl ?_
         refine vo_guard_off rfl rfl rfl rfl rfl ?_
         refine vo_guard_off rfl rfl rfl rfl rfl ?_
         refine vo_guard_off rfl rfl rfl rfl rfl ?_
         refine vo_guard_on rfl rfl rfl ?_
         refine vo_pick_f rfl rfl ?_
         refine vo_guard_on rfl rfl rfl ?_
         refine vo_pick_f rfl rfl ?_
         refine vo_pick_t rfl rfl ?_
         refine vo_assign_pv rfl rfl ?_
         refine vo_nil ?_
         refine hK20 _ ?_
         refine vc_ret ?_
         (try clear hK20); (try clear hK19); (try clear hK18); (try clear hK17); (try clear hK16); (try clear hK15); (try clear hK14); (try clear hK13); (try clear hK12); (try clear hK11); (try clear hK10); (try clear hK9); (try clear hK8); (try clear hK7); (try clear hK6); (try clear hK5); (try clear hK4); (try clear hK3); (try clear hK2); (try clear hK1)
         change retQ _ _ _ _ _
         refine retQ_sel [] (srows := []) (.inr rfl) hC rfl rfl rfl rfl rfl rfl rfl ?_
         first | exact ⟨rfl, rfl⟩ | (exfalso; simp_all; done) | (exfalso; omega) | (refine ⟨(congrArg (fun b => [bo b]) (?_ : _ = true) : [bo _] = [bo true]), rfl⟩; first | simp_all | (simp; omega))
      ·try simp only [zq0, zq1, zq2, zq3, zq4, zq5, zq6, zq7, zq8, zq9, zqa, zqb, zqc, zqd, zqe, zqf] at hg10
       exact absurd f6 hg10

end Go.Vl

/- Part 6 of the texts that the proof of FnFindIn is built on. -/
import Derived.Test.YtcipbgkmjhmddaaVl5
namespace Go.Vl
set_option linter.unusedVariables false
set_option linter.unusedSimpArgs false
open Go.Proofs

def medW (w : WorldM) : Prop := (1 ≤ w.bases.length ∧ w.bases.length ≤ 9 ∧ ∀ l ∈ w.bases, l.length ≤ 3) ∧ (w.attrs.length ≤ 10 ∧ ∀ l ∈ w.attrs, l.length ≤ 4) ∧ w.objs.length ≤ 4 ∧ ∀ o ∈ w.objs, o.pairs.length ≤ 3
theorem medW.sw {w : WorldM} (h : medW w) : SW w := by
  obtain ⟨⟨_, h1, h2⟩, ⟨h3, h4⟩, h5, h6⟩ := h
  exact ⟨⟨by omega, fun l hl => by have := h2 l hl; omega⟩, ⟨by omega, fun l hl => by have := h4 l hl; omega⟩, by omega, fun o ho => by have := h6 o ho; unfold SO; omega⟩
theorem attrs_at0 {A : List (List AttrM)} (h : 0 < A.length) : (A.map attrsP)[0]? = some (.sl none 3 ((A.getD 0 []).map attrP)) := getP [] h
theorem app_attrs3 (l : List AttrM) (a b c : Int) : l.map attrP ++ [.agg [.int .i64 a, .int .i64 b, .int .i64 c]] = (l ++ [(⟨a, b, c⟩ : AttrM)]).map attrP := by simp
theorem set_attrss (l : List (List AttrM)) (i : Nat) (a : List AttrM) : (l.map attrsP).set i (.sl none 3 (a.map attrP)) = (l.set i a).map attrsP := by simp [List.map_set]
theorem get_endP {α : Type} (f : α → PV) (l : List α) (x : PV) : (l.map f ++ [x])[l.length]? = some x := by simp
theorem set_endO (l : List ObjM) (a : Int) (x : PV) : (l.map objP ++ [x]).set l.length (.agg [.int .i64 a, .sl none 2 []]) = (l ++ [(⟨a, []⟩ : ObjM)]).map objP := by
  rw [List.set_append_right _ _ (by simp)]; simp
theorem set_endA (l : List (List AttrM)) (x : PV) : (l.map attrsP ++ [x]).set l.length (.sl none 3 []) = (l ++ [([] : List AttrM)]).map attrsP := by
  rw [List.set_append_right _ _ (by simp)]; simp
theorem set_all {α : Type} {p : α → Prop} {l : List α} {x : α} (h : ∀ y ∈ l, p y) (hx : p x) (i : Nat) : ∀ y ∈ l.set i x, p y := by
  intro y hy
  rcases List.mem_or_eq_of_mem_set hy with h1 | h1
  · exact h y h1
  · rw [h1]; exact hx
theorem plain_nilO (a : Int) : plainX [.agg [.int .i64 a, .sl (some true) 2 []]] := by
  intro x hx c hc
  rw [List.mem_singleton] at hx; subst hx
  simp [PV.cells] at hc
  rcases hc with rfl | rfl <;> rfl
theorem plain_nil1 : plainX [.sl (some true) 0 []] := by
  intro x hx c hc
  rw [List.mem_singleton] at hx; subst hx
  simp [PV.cells] at hc; subst hc; rfl
set_option maxHeartbeats 4000000 in
theorem anyWorld_sat {nl : Option Bool} {c : List (Fin 256)} {p : Nat} (hc : c.length ≤ 2000) (hp : p < 989000) : SatAt Try.prog 106 [.ptr 0 0 0 0] [rdr nl c p] (fun res rows => ∃ (W : WorldM) (q : Nat) (f : Bool), (medW W ∧ q ≤ p + 420) ∧ res = [.pv f (worldP W)] ∧ rows = [rdr nl c q]) := by
  refine sat_entry_G (rs := [(2, some (65, 3))]) Try.func106 rfl rfl (Nat.le_of_ble_eq_true rfl) (Nat.le_of_ble_eq_true rfl) (resTs1 ⟨_, _, Try.underlying65, rfl, inf65, sz65⟩) fun C hC => ?_
  rw [Try.ntmps106]
  replace hC : C.nb = 1 := hC
  refine vc_seq fun K1 hK1 => ?_
  refine vc_region ?_
  refine vo_alloc Z65 rfl ?_
  refine vo_stM ?_
  refine vo_nil ?_
  refine hK1 _ ?_
  refine vc_seq fun K2 hK2 => ?_
  refine vc_region ?_
  refine vo_move_ptr rfl rfl ?_
  refine vo_call [0] Try.func148 rfl rfl rfl rfl rfl rfl rfl (someWorld_sat hc (by omega)) ?_
  rintro _ _ ⟨W, q, f, ⟨⟨⟨hb1, hb2, hb3⟩, ⟨ha1, ha2⟩, ho1, ho2⟩, hq⟩, rfl, rfl⟩
  refine ⟨Nat.le_of_ble_eq_true rfl, ⟨rfl, rfl, rfl, rfl⟩, .inl rfl, ?_⟩
  refine vo_stM ?_
  refine vo_alloc Z65 rfl ?_
  refine vo_stM ?_
  refine vo_store_varG rfl rfl rfl rfl inf65 sz65 rfl ?_
  refine vo_stM ?_
  refine vo_nil ?_
  refine hK2 _ ?_
  refine vc_seq fun K3 hK3 => ?_
  refine vc_seq fun K4 hK4 => ?_
  refine vc_region ?_
  refine vo_move_ptr rfl rfl ?_
  refine vo_call [0] Try.func69 rfl rfl rfl rfl rfl rfl rfl (pick_sat hc (by omega)) ?_
  rintro _ _ ⟨x7, ⟨hx70, hx71⟩, rfl, rfl⟩
  refine ⟨Nat.le_of_ble_eq_true rfl, ⟨rfl, rfl, rfl, rfl⟩, .inl rfl, ?_⟩
  refine vo_stM ?_
  refine vo_nil ?_
  refine hK4 _ ?_
  refine vc_block ?_
  refine vc_seq fun K5 hK5 => ?_
  refine vc_region ?_
  refine vo_binI rfl rfl rfl rfl trivial ?_
  refine vo_assign_pv rfl rfl ?_
  refine vo_nil ?_
  refine hK5 _ ?_
  refine vc_cond rfl (fun hc1 => ?_) (fun hc1 => ?_)
  · try simp only [decide_eq_true_eq, decide_eq_false_iff_not, beq_iff_eq, bne_iff_ne, beq_eq_false_iff_ne, bne_eq_false_iff_eq, Bool.not_eq_true, Bool.not_eq_false, Bool.not_eq_eq_eq_not, Bool.not_true, Bool.not_false, List.length_map, Int.not_lt, Int.not_le, ne_eq, Decidable.not_not] at hc1
    have hat0 : (W.attrs.getD 0 []).length ≤ 3 := getD_all (p := fun l : List AttrM => l.length ≤ 3) ha2 [] (by simp) 0
    refine vc_drawB [11, 13] (by kernel_rfl) ?_
    change VLB [11, 13] _ _ _ 14 _ _ _
    refine vb_light0 0 rfl rfl rfl (by kernel_rfl) (by kernel_rfl) (by kernel_rfl) (wnt_none rfl) (l0_fieldAddr_ptr rfl Try.underlying65 rfl inf62 (by rw [sz62]; decide)) ?_
    try simp only [Nat.zero_add]
    refine vb_light0 2 rfl rfl rfl (by kernel_rfl) (by kernel_rfl) (by kernel_rfl) (wnt_none rfl) (l0_fieldAddr_ptr rfl Try.underlying65 rfl inf62 (by rw [sz62]; decide)) ?_
    try simp only [Nat.zero_add]
    refine vb_light 3 [0, 1, 2, 6, 7, 8, 9, 10] rfl rfl rfl (by kernel_rfl) (by kernel_rfl) (by kernel_rfl) (by kernel_rfl) (by kernel_rfl) (wnt_none rfl) (lb_load_var hC rfl rfl rfl rfl Try.underlying62 rfl rfl) ?_
    refine vb_light0 4 rfl rfl rfl (by kernel_rfl) (by kernel_rfl) (by kernel_rfl) (wnt_none rfl) (l0_index_ref rfl rfl rfl E62.und inf84 sz84 sd sd) ?_
    try simp only [Int.toNat_natCast]
    refine vb_light0 6 rfl rfl rfl (by kernel_rfl) (by kernel_rfl) (by kernel_rfl) (wnt_none rfl) (l0_move_ptr rfl) ?_
    refine vb_any3 1 5 7 (by kernel_rfl) ?_ ?_ ?_
    · refine sb_light 1 rfl rfl rfl (wnt_none rfl) (lb_load_var hC rfl rfl rfl rfl Try.underlying62 rfl rfl) ?_
      refine vb_any2 5 7 (by kernel_rfl) ?_ ?_
      · refine sb_extE 5 rfl (fun _ => rfl) (xt_load_take1 rfl rfl (by omega) Try.underlying84 rfl (attrs_at0 (by omega))) fun Rf15 => ?_
        refine vb_stM ?_
        refine vb_treeown 5 (by omega) rfl ?_
        refine vb_stM ?_
        refine vb_ext 7 rfl (by kernel_rfl) rfl (xt_buildSlice E36 rfl rfl rfl rfl) ?_
        refine vb_stM ?_
        refine vb_expose 6 (by omega) rfl ?_
        refine vb_stM ?_
        refine vb_weaken 17 rfl ?_
        refine vb_stM ?_
        refine vb_any1 8 (by kernel_rfl) ?_
        refine sb_call 8 [0] hC rfl rfl (wnt_none rfl) Try.func68 rfl rfl rfl rfl rfl rfl rfl (one_sat (list := [_,_]) hc (by omega) (by simp) (by simp)) ?_
        rintro _ _ ⟨y18, hy18, rfl, rfl⟩
        refine ⟨Nat.le_of_ble_eq_true rfl, ⟨rfl, rfl, rfl, rfl⟩, .inl rfl, ?_⟩
        refine vb_stM ?_
        refine vb_light0 9 rfl rfl rfl (by kernel_rfl) (by kernel_rfl) (by kernel_rfl) (wnt_none rfl) (l0_build S73 rfl rfl) ?_
        refine vb_stM ?_
        refine vb_ext 10 rfl (by kernel_rfl) rfl (xt_buildSlice E84 rfl rfl rfl rfl) ?_
        refine vb_stM ?_
        refine vb_one 11 rfl (by kernel_rfl) rfl ?_
        refine vo_appendU E84 rfl (by omega) rfl rfl rfl sd sd fun Rt5 => ?_
        refine vo_stM ?_
        try simp only [app_ints, app_intss, app_bools, app_attrs3]
        refine vo_done ⟨rfl, ?_⟩
        refine vb_light0 12 rfl rfl rfl (by kernel_rfl) (by kernel_rfl) (by kernel_rfl) (wnt_none rfl) (l0_index_ref rfl rfl rfl E62.und inf84 sz84 sd sd) ?_
        try simp only [Int.toNat_natCast]
        refine vb_one 13 rfl (by kernel_rfl) rfl ?_
        refine vo_totree 5 rfl ((by first | exact plain_nilO _ | exact plain_nil1 | exact plain_attrs _ | exact plain_pairsX _)) ?_
        refine vo_stM ?_
        refine vo_weaktree 5 rfl ?_
        refine vo_stM ?_
        refine vo_put (p := .sl _ _ _) rfl rfl rfl rfl rfl rfl rfl hC rfl (by first | decide | simp [refsOf]) inf84 sz84 sd ?_
        refine vo_stM ?_
        try simp only [List.set_set, set_attrss]
        refine vo_done ⟨rfl, ?_⟩
        refine vb_nil (by kernel_rfl) ?_
        refine hK3 _ ?_
        refine vc_seq fun K6 hK6 => ?_
        refine vc_region ?_
        refine vo_load_varG rfl rfl rfl Try.underlying65 rfl inf65 sz65 rfl ?_
        refine vo_stM ?_
        refine vo_store_varG rfl rfl rfl rfl inf65 sz65 rfl ?_
        refine vo_stM ?_
        refine vo_nil ?_
        refine hK6 _ ?_
        refine vc_treeown 2 (by omega) rfl ?_
        refine vc_stM ?_
        refine vc_expose 2 (by omega) rfl ?_
        refine vc_stM ?_
        refine vc_treeown 3 (by omega) rfl ?_
        refine vc_stM ?_
        refine vc_expose 3 (by omega) rfl ?_
        refine vc_stM ?_
        refine vc_ret ?_
        change retQ _ _ _ _ _
        refine retQ_sel [] (srows := []) (.inr rfl) hC rfl rfl rfl rfl rfl rfl rfl ?_
        first
          | exact ⟨⟨W.bases, W.attrs.set 0 (W.attrs.getD 0 [] ++ [⟨y18, 1, 0⟩]), W.objs⟩, _, _, ⟨⟨⟨hb1, hb2, hb3⟩, ⟨by rw [List.length_set]; omega, set_all (fun l hl => Nat.le_succ_of_le (ha2 l hl)) (by rw [List.length_append, List.length_singleton]; have := getD_all (p := fun l : List AttrM => l.length ≤ 3) ha2 [] (by simp) 0; omega) 0⟩, Nat.le_succ_of_le ho1, ho2⟩, by omega⟩, rfl, rfl⟩
          | exact ⟨⟨W.bases, W.attrs, W.objs ++ [⟨y29, []⟩]⟩, _, _, ⟨⟨⟨hb1, hb2, hb3⟩, ⟨by show W.attrs.length ≤ 10; omega, fun l hl => Nat.le_succ_of_le (ha2 l hl)⟩, by rw [List.length_append, List.length_singleton]; omega, app_all ho2 (by simp)⟩, by omega⟩, rfl, rfl⟩
          | exact ⟨⟨W.bases, W.attrs ++ [[]], W.objs⟩, _, _, ⟨⟨⟨hb1, hb2, hb3⟩, ⟨by rw [List.length_append, List.length_singleton]; omega, app_all (fun l hl => Nat.le_succ_of_le (ha2 l hl)) (by simp)⟩, Nat.le_succ_of_le ho1, ho2⟩, by omega⟩, rfl, rfl⟩
          | exact ⟨⟨W.bases, W.attrs, W.objs⟩, _, _, ⟨⟨⟨hb1, hb2, hb3⟩, ⟨by show W.attrs.length ≤ 10; omega, fun l hl => Nat.le_succ_of_le (ha2 l hl)⟩, Nat.le_succ_of_le ho1, ho2⟩, by omega⟩, rfl, rfl⟩
      · refine sb_ext 7 rfl rfl (xt_buildSlice E36 rfl rfl rfl rfl) ?_
        refine vb_stM ?_
        refine vb_expose 5 (by omega) rfl ?_
        refine vb_stM ?_
        refine vb_weaken 17 rfl ?_
        refine vb_stM ?_
        refine vb_any2 5 8 (by kernel_rfl) ?_ ?_
        · refine sb_extE 5 rfl (fun _ => rfl) (xt_load_take1 rfl rfl (by omega) Try.underlying84 rfl (attrs_at0 (by omega))) fun Rf15 => ?_
          refine vb_stM ?_
          refine vb_treeown 6 (by omega) rfl ?_
          refine vb_stM ?_
          refine vb_any1 8 (by kernel_rfl) ?_
          refine sb_call 8 [0] hC rfl rfl (wnt_none rfl) Try.func68 rfl rfl rfl rfl rfl rfl rfl (one_sat (list := [_,_]) hc (by omega) (by simp) (by simp)) ?_
          rintro _ _ ⟨y18, hy18, rfl, rfl⟩
          refine ⟨Nat.le_of_ble_eq_true rfl, ⟨rfl, rfl, rfl, rfl⟩, .inl rfl, ?_⟩
          refine vb_stM ?_
          refine vb_light0 9 rfl rfl rfl (by kernel_rfl) (by kernel_rfl) (by kernel_rfl) (wnt_none rfl) (l0_build S73 rfl rfl) ?_
          refine vb_stM ?_
          refine vb_ext 10 rfl (by kernel_rfl) rfl (xt_buildSlice E84 rfl rfl rfl rfl) ?_
          refine vb_stM ?_
          refine vb_one 11 rfl (by kernel_rfl) rfl ?_
          refine vo_appendU E84 rfl (by omega) rfl rfl rfl sd sd fun Rt6 => ?_
          refine vo_stM ?_
          try simp only [app_ints, app_intss, app_bools, app_attrs3]
          refine vo_done ⟨rfl, ?_⟩
          refine vb_light0 12 rfl rfl rfl (by kernel_rfl) (by kernel_rfl) (by kernel_rfl) (wnt_none rfl) (l0_index_ref rfl rfl rfl E62.und inf84 sz84 sd sd) ?_
          try simp only [Int.toNat_natCast]
          refine vb_one 13 rfl (by kernel_rfl) rfl ?_
          refine vo_totree 6 rfl ((by first | exact plain_nilO _ | exact plain_nil1 | exact plain_attrs _ | exact plain_pairsX _)) ?_
          refine vo_stM ?_
          refine vo_weaktree 6 rfl ?_
          refine vo_stM ?_
          refine vo_put (p := .sl _ _ _) rfl rfl rfl rfl rfl rfl rfl hC rfl (by first | decide | simp [refsOf]) inf84 sz84 sd ?_
          refine vo_stM ?_
          try simp only [List.set_set, set_attrss]
          refine vo_done ⟨rfl, ?_⟩
          refine vb_nil (by kernel_rfl) ?_
          refine hK3 _ ?_
          refine vc_seq fun K7 hK7 => ?_
          refine vc_region ?_
          refine vo_load_varG rfl rfl rfl Try.underlying65 rfl inf65 sz65 rfl ?_
          refine vo_stM ?_
          refine vo_store_varG rfl rfl rfl rfl inf65 sz65 rfl ?_
          refine vo_stM ?_
          refine vo_nil ?_
          refine hK7 _ ?_
          refine vc_treeown 2 (by omega) rfl ?_
          refine vc_stM ?_
          refine vc_expose 2 (by omega) rfl ?_
          refine vc_stM ?_
          refine vc_treeown 3 (by omega) rfl ?_
          refine vc_stM ?_
          refine vc_expose 3 (by omega) rfl ?_
          refine vc_stM ?_
          refine vc_ret ?_
          change retQ _ _ _ _ _
          refine retQ_sel [] (srows := []) (.inr rfl) hC rfl rfl rfl rfl rfl rfl rfl ?_
          first
            | exact ⟨⟨W.bases, W.attrs.set 0 (W.attrs.getD 0 [] ++ [⟨y18, 1, 0⟩]), W.objs⟩, _, _, ⟨⟨⟨hb1, hb2, hb3⟩, ⟨by rw [List.length_set]; omega, set_all (fun l hl => Nat.le_succ_of_le (ha2 l hl)) (by rw [List.length_append, List.length_singleton]; have := getD_all (p := fun l : List AttrM => l.length ≤ 3) ha2 [] (by simp) 0; omega) 0⟩, Nat.le_succ_of_le ho1, ho2⟩, by omega⟩, rfl, rfl⟩
            | exact ⟨⟨W.bases, W.attrs, W.objs ++ [⟨y29, []⟩]⟩, _, _, ⟨⟨⟨hb1, hb2, hb3⟩, ⟨by show W.attrs.length ≤ 10; omega, fun l hl => Nat.le_succ_of_le (ha2 l hl)⟩, by rw [List.length_append, List.length_singleton]; omega, app_all ho2 (by simp)⟩, by omega⟩, rfl, rfl⟩
            | exact ⟨⟨W.bases, W.attrs ++ [[]], W.objs⟩, _, _, ⟨⟨⟨hb1, hb2, hb3⟩, ⟨by rw [List.length_append, List.length_singleton]; omega, app_all (fun l hl => Nat.le_succ_of_le (ha2 l hl)) (by simp)⟩, Nat.le_succ_of_le ho1, ho2⟩, by omega⟩, rfl, rfl⟩
            | exact ⟨⟨W.bases, W.attrs, W.objs⟩, _, _, ⟨⟨⟨hb1, hb2, hb3⟩, ⟨by show W.attrs.length ≤ 10; omega, fun l hl => Nat.le_succ_of_le (ha2 l hl)⟩, Nat.le_succ_of_le ho1, ho2⟩, by omega⟩, rfl, rfl⟩
        · refine sb_call 8 [0] hC rfl rfl (wnt_none rfl) Try.func68 rfl rfl rfl rfl rfl rfl rfl (one_sat (list := [_,_]) hc (by omega) (by simp) (by simp)) ?_
          rintro _ _ ⟨y18, hy18, rfl, rfl⟩
          refine ⟨Nat.le_of_ble_eq_true rfl, ⟨rfl, rfl, rfl, rfl⟩, .inl rfl, ?_⟩
          refine vb_stM ?_
          refine vb_light0 9 rfl rfl rfl (by kernel_rfl) (by kernel_rfl) (by kernel_rfl) (wnt_none rfl) (l0_build S73 rfl rfl) ?_
          refine vb_stM ?_
          refine vb_any2 5 10 (by kernel_rfl) ?_ ?_
          · refine sb_extE 5 rfl (fun _ => rfl) (xt_load_take1 rfl rfl (by omega) Try.underlying84 rfl (attrs_at0 (by omega))) fun Rf15 => ?_
            refine vb_stM ?_
            refine vb_treeown 6 (by omega) rfl ?_
            refine vb_stM ?_
            refine vb_ext 10 rfl (by kernel_rfl) rfl (xt_buildSlice E84 rfl rfl rfl rfl) ?_
            refine vb_stM ?_
            refine vb_one 11 rfl (by kernel_rfl) rfl ?_
            refine vo_appendU E84 rfl (by omega) rfl rfl rfl sd sd fun Rt7 => ?_
            refine vo_stM ?_
            try simp only [app_ints, app_intss, app_bools, app_attrs3]
            refine vo_done ⟨rfl, ?_⟩
            refine vb_light0 12 rfl rfl rfl (by kernel_rfl) (by kernel_rfl) (by kernel_rfl) (wnt_none rfl) (l0_index_ref rfl rfl rfl E62.und inf84 sz84 sd sd) ?_
            try simp only [Int.toNat_natCast]
            refine vb_one 13 rfl (by kernel_rfl) rfl ?_
            refine vo_totree 6 rfl ((by first | exact plain_nilO _ | exact plain_nil1 | exact plain_attrs _ | exact plain_pairsX _)) ?_
            refine vo_stM ?_
            refine vo_weaktree 6 rfl ?_
            refine vo_stM ?_
            refine vo_put (p := .sl _ _ _) rfl rfl rfl rfl rfl rfl rfl hC rfl (by first | decide | simp [refsOf]) inf84 sz84 sd ?_
            refine vo_stM ?_
            try simp only [List.set_set, set_attrss]
            refine vo_done ⟨rfl, ?_⟩
            refine vb_nil (by kernel_rfl) ?_
            refine hK3 _ ?_
            refine vc_seq fun K8 hK8 => ?_
            refine vc_region ?_
            refine vo_load_varG rfl rfl rfl Try.underlying65 rfl inf65 sz65 rfl ?_
            refine vo_stM ?_
            refine vo_store_varG rfl rfl rfl rfl inf65 sz65 rfl ?_
            refine vo_stM ?_
            refine vo_nil ?_
            refine hK8 _ ?_
            refine vc_treeown 2 (by omega) rfl ?_
            refine vc_stM ?_
            refine vc_expose 2 (by omega) rfl ?_
            refine vc_stM ?_
            refine vc_treeown 3 (by omega) rfl ?_
            refine vc_stM ?_
            refine vc_expose 3 (by omega) rfl ?_
            refine vc_stM ?_
            refine vc_ret ?_
            change retQ _ _ _ _ _
            refine retQ_sel [] (srows := []) (.inr rfl) hC rfl rfl rfl rfl rfl rfl rfl ?_
            first
              | exact ⟨⟨W.bases, W.attrs.set 0 (W.attrs.getD 0 [] ++ [⟨y18, 1, 0⟩]), W.objs⟩, _, _, ⟨⟨⟨hb1, hb2, hb3⟩, ⟨by rw [List.length_set]; omega, set_all (fun l hl => Nat.le_succ_of_le (ha2 l hl)) (by rw [List.length_append, List.length_singleton]; have := getD_all (p := fun l : List AttrM => l.length ≤ 3) ha2 [] (by simp) 0; omega) 0⟩, Nat.le_succ_of_le ho1, ho2⟩, by omega⟩, rfl, rfl⟩
              | exact ⟨⟨W.bases, W.attrs, W.objs ++ [⟨y29, []⟩]⟩, _, _, ⟨⟨⟨hb1, hb2, hb3⟩, ⟨by show W.attrs.length ≤ 10; omega, fun l hl => Nat.le_succ_of_le (ha2 l hl)⟩, by rw [List.length_append, List.length_singleton]; omega, app_all ho2 (by simp)⟩, by omega⟩, rfl, rfl⟩
              | exact ⟨⟨W.bases, W.attrs ++ [[]], W.objs⟩, _, _, ⟨⟨⟨hb1, hb2, hb3⟩, ⟨by rw [List.length_append, List.length_singleton]; omega, app_all (fun l hl => Nat.le_succ_of_le (ha2 l hl)) (by simp)⟩, Nat.le_succ_of_le ho1, ho2⟩, by omega⟩, rfl, rfl⟩
              | exact ⟨⟨W.bases, W.attrs, W.objs⟩, _, _, ⟨⟨⟨hb1, hb2, hb3⟩, ⟨by show W.attrs.length ≤ 10; omega, fun l hl => Nat.le_succ_of_le (ha2 l hl)⟩, Nat.le_succ_of_le ho1, ho2⟩, by omega⟩, rfl, rfl⟩
          · refine sb_ext 10 rfl rfl (xt_buildSlice E84 rfl rfl rfl rfl) ?_
            refine vb_stM ?_
            refine vb_any1 5 (by kernel_rfl) ?_
            refine sb_extE 5 rfl (fun _ => rfl) (xt_load_take1 rfl rfl (by omega) Try.underlying84 rfl (attrs_at0 (by omega))) fun Rf15 => ?_
            refine vb_stM ?_
            refine vb_treeown 7 (by omega) rfl ?_
            refine vb_stM ?_
            refine vb_one 11 rfl (by kernel_rfl) rfl ?_
            refine vo_appendU E84 rfl (by omega) rfl rfl rfl sd sd fun Rt8 => ?_
            refine vo_stM ?_
            try simp only [app_ints, app_intss, app_bools, app_attrs3]
            refine vo_done ⟨rfl, ?_⟩
            refine vb_light0 12 rfl rfl rfl (by kernel_rfl) (by kernel_rfl) (by kernel_rfl) (wnt_none rfl) (l0_index_ref rfl rfl rfl E62.und inf84 sz84 sd sd) ?_
            try simp only [Int.toNat_natCast]
            refine vb_one 13 rfl (by kernel_rfl) rfl ?_
            refine vo_totree 7 rfl ((by first | exact plain_nilO _ | exact plain_nil1 | exact plain_attrs _ | exact plain_pairsX _)) ?_
            refine vo_stM ?_
            refine vo_weaktree 7 rfl ?_
            refine vo_stM ?_
            refine vo_put (p := .sl _ _ _) rfl rfl rfl rfl rfl rfl rfl hC rfl (by first | decide | simp [refsOf]) inf84 sz84 sd ?_
            refine vo_stM ?_
            try simp only [List.set_set, set_attrss]
            refine vo_done ⟨rfl, ?_⟩
            refine vb_nil (by kernel_rfl) ?_
            refine hK3 _ ?_
            refine vc_seq fun K9 hK9 => ?_
            refine vc_region ?_
            refine vo_load_varG rfl rfl rfl Try.underlying65 rfl inf65 sz65 rfl ?_
            refine vo_stM ?_
            refine vo_store_varG rfl rfl rfl rfl inf65 sz65 rfl ?_
            refine vo_stM ?_
            refine vo_nil ?_
            refine hK9 _ ?_
            refine vc_treeown 2 (by omega) rfl ?_
            refine vc_stM ?_
            refine vc_expose 2 (by omega) rfl ?_
            refine vc_stM ?_
            refine vc_treeown 3 (by omega) rfl ?_
            refine vc_stM ?_
            refine vc_expose 3 (by omega) rfl ?_
            refine vc_stM ?_
            refine vc_ret ?_
            change retQ _ _ _ _ _
            refine retQ_sel [] (srows := []) (.inr rfl) hC rfl rfl rfl rfl rfl rfl rfl ?_
            first
              | exact ⟨⟨W.bases, W.attrs.set 0 (W.attrs.getD 0 [] ++ [⟨y18, 1, 0⟩]), W.objs⟩, _, _, ⟨⟨⟨hb1, hb2, hb3⟩, ⟨by rw [List.length_set]; omega, set_all (fun l hl => Nat.le_succ_of_le (ha2 l hl)) (by rw [List.length_append, List.length_singleton]; have := getD_all (p := fun l : List AttrM => l.length ≤ 3) ha2 [] (by simp) 0; omega) 0⟩, Nat.le_succ_of_le ho1, ho2⟩, by omega⟩, rfl, rfl⟩
              | exact ⟨⟨W.bases, W.attrs, W.objs ++ [⟨y29, []⟩]⟩, _, _, ⟨⟨⟨hb1, hb2, hb3⟩, ⟨by show W.attrs.length ≤ 10; omega, fun l hl => Nat.le_succ_of_le (ha2 l hl)⟩, by rw [List.length_append, List.length_singleton]; omega, app_all ho2 (by simp)⟩, by omega⟩, rfl, rfl⟩
              | exact ⟨⟨W.bases, W.attrs ++ [[]], W.objs⟩, _, _, ⟨⟨⟨hb1, hb2, hb3⟩, ⟨by rw [List.length_append, List.length_singleton]; omega, app_all (fun l hl => Nat.le_succ_of_le (ha2 l hl)) (by simp)⟩, Nat.le_succ_of_le ho1, ho2⟩, by omega⟩, rfl, rfl⟩
              | exact ⟨⟨W.bases, W.attrs, W.objs⟩, _, _, ⟨⟨⟨hb1, hb2, hb3⟩, ⟨by show W.attrs.length ≤ 10; omega, fun l hl => Nat.le_succ_of_le (ha2 l hl)⟩, Nat.le_succ_of_le ho1, ho2⟩, by omega⟩, rfl, rfl⟩
    · refine sb_extE 5 rfl (fun _ => rfl) (xt_load_take1 rfl rfl (by omega) Try.underlying84 rfl (attrs_at0 (by omega))) fun Rf15 => ?_
      refine vb_stM ?_
      refine vb_treeown 5 (by omega) rfl ?_
      refine vb_stM ?_
      refine vb_any2 1 7 (by kernel_rfl) ?_ ?_
      · refine sb_light 1 rfl rfl rfl (wnt_none rfl) (lb_load_var hC rfl rfl rfl rfl Try.underlying62 rfl rfl) ?_
        refine vb_ext 7 rfl (by kernel_rfl) rfl (xt_buildSlice E36 rfl rfl rfl rfl) ?_
        refine vb_stM ?_
        refine vb_expose 6 (by omega) rfl ?_
        refine vb_stM ?_
        refine vb_weaken 17 rfl ?_
        refine vb_stM ?_
        refine vb_any1 8 (by kernel_rfl) ?_
        refine sb_call 8 [0] hC rfl rfl (wnt_none rfl) Try.func68 rfl rfl rfl rfl rfl rfl rfl (one_sat (list := [_,_]) hc (by omega) (by simp) (by simp)) ?_
        rintro _ _ ⟨y18, hy18, rfl, rfl⟩
        refine ⟨Nat.le_of_ble_eq_true rfl, ⟨rfl, rfl, rfl, rfl⟩, .inl rfl, ?_⟩
        refine vb_stM ?_
        refine vb_light0 9 rfl rfl rfl (by kernel_rfl) (by kernel_rfl) (by kernel_rfl) (wnt_none rfl) (l0_build S73 rfl rfl) ?_
        refine vb_stM ?_
        refine vb_ext 10 rfl (by kernel_rfl) rfl (xt_buildSlice E84 rfl rfl rfl rfl) ?_
        refine vb_stM ?_
        refine vb_one 11 rfl (by kernel_rfl) rfl ?_
        refine vo_appendU E84 rfl (by omega) rfl rfl rfl sd sd fun Rt9 => ?_
        refine vo_stM ?_
        try simp only [app_ints, app_intss, app_bools, app_attrs3]
        refine vo_done ⟨rfl, ?_⟩
        refine vb_light0 12 rfl rfl rfl (by kernel_rfl) (by kernel_rfl) (by kernel_rfl) (wnt_none rfl) (l0_index_ref rfl rfl rfl E62.und inf84 sz84 sd sd) ?_
        try simp only [Int.toNat_natCast]
        refine vb_one 13 rfl (by kernel_rfl) rfl ?_
        refine vo_totree 5 rfl ((by first | exact plain_nilO _ | exact plain_nil1 | exact plain_attrs _ | exact plain_pairsX _)) ?_
        refine vo_stM ?_
        refine vo_weaktree 5 rfl ?_
        refine vo_stM ?_
        refine vo_put (p := .sl _ _ _) rfl rfl rfl rfl rfl rfl rfl hC rfl (by first | decide | simp [refsOf]) inf84 sz84 sd ?_
        refine vo_stM ?_
        try simp only [List.set_set, set_attrss]
        refine vo_done ⟨rfl, ?_⟩
        refine vb_nil (by kernel_rfl) ?_
        refine hK3 _ ?_
        refine vc_seq fun K10 hK10 => ?_
        refine vc_region ?_
        refine vo_load_varG rfl rfl rfl Try.underlying65 rfl inf65 sz65 rfl ?_
        refine vo_stM ?_
        refine vo_store_varG rfl rfl rfl rfl inf65 sz65 rfl ?_
        refine vo_stM ?_
        refine vo_nil ?_
        refine hK10 _ ?_
        refine vc_treeown 2 (by omega) rfl ?_
        refine vc_stM ?_
        refine vc_expose 2 (by omega) rfl ?_
        refine vc_stM ?_
        refine vc_treeown 3 (by omega) rfl ?_
        refine vc_stM ?_
        refine vc_expose 3 (by omega) rfl ?_
        refine vc_stM ?_
        refine vc_ret ?_
        change retQ _ _ _ _ _
        refine retQ_sel [] (srows := []) (.inr rfl) hC rfl rfl rfl rfl rfl rfl rfl ?_
        first
          | exact ⟨⟨W.bases, W.attrs.set 0 (W.attrs.getD 0 [] ++ [⟨y18, 1, 0⟩]), W.objs⟩, _, _, ⟨⟨⟨hb1, hb2, hb3⟩, ⟨by rw [List.length_set]; omega, set_all (fun l hl => Nat.le_succ_of_le (ha2 l hl)) (by rw [List.length_append, List.length_singleton]; have := getD_all (p := fun l : List AttrM => l.length ≤ 3) ha2 [] (by simp) 0; omega) 0⟩, Nat.le_succ_of_le ho1, ho2⟩, by omega⟩, rfl, rfl⟩
          | exact ⟨⟨W.bases, W.attrs, W.objs ++ [⟨y29, []⟩]⟩, _, _, ⟨⟨⟨hb1, hb2, hb3⟩, ⟨by show W.attrs.length ≤ 10; omega, fun l hl => Nat.le_succ_of_le (ha2 l hl)⟩, by rw [List.length_append, List.length_singleton]; omega, app_all ho2 (by simp)⟩, by omega⟩, rfl, rfl⟩
          | exact ⟨⟨W.bases, W.attrs ++ [[]], W.objs⟩, _, _, ⟨⟨⟨hb1, hb2, hb3⟩, ⟨by rw [List.length_append, List.length_singleton]; omega, app_all (fun l hl => Nat.le_succ_of_le (ha2 l hl)) (by simp)⟩, Nat.le_succ_of_le ho1, ho2⟩, by omega⟩, rfl, rfl⟩
          | exact ⟨⟨W.bases, W.attrs, W.objs⟩, _, _, ⟨⟨⟨hb1, hb2, hb3⟩, ⟨by show W.attrs.length ≤ 10; omega, fun l hl => Nat.le_succ_of_le (ha2 l hl)⟩, Nat.le_succ_of_le ho1, ho2⟩, by omega⟩, rfl, rfl⟩
      · refine sb_ext 7 rfl rfl (xt_buildSlice E36 rfl rfl rfl rfl) ?_
        refine vb_stM ?_
        refine vb_expose 6 (by omega) rfl ?_
        refine vb_stM ?_
        refine vb_weaken 17 rfl ?_
        refine vb_stM ?_
        refine vb_any2 1 8 (by kernel_rfl) ?_ ?_
        · refine sb_light 1 rfl rfl rfl (wnt_none rfl) (lb_load_var hC rfl rfl rfl rfl Try.underlying62 rfl rfl) ?_
          refine vb_any1 8 (by kernel_rfl) ?_
          refine sb_call 8 [0] hC rfl rfl (wnt_none rfl) Try.func68 rfl rfl rfl rfl rfl rfl rfl (one_sat (list := [_,_]) hc (by omega) (by simp) (by simp)) ?_
          rintro _ _ ⟨y18, hy18, rfl, rfl⟩
          refine ⟨Nat.le_of_ble_eq_true rfl, ⟨rfl, rfl, rfl, rfl⟩, .inl rfl, ?_⟩
          refine vb_stM ?_
          refine vb_light0 9 rfl rfl rfl (by kernel_rfl) (by kernel_rfl) (by kernel_rfl) (wnt_none rfl) (l0_build S73 rfl rfl) ?_
          refine vb_stM ?_
          refine vb_ext 10 rfl (by kernel_rfl) rfl (xt_buildSlice E84 rfl rfl rfl rfl) ?_
          refine vb_stM ?_
          refine vb_one 11 rfl (by kernel_rfl) rfl ?_
          refine vo_appendU E84 rfl (by omega) rfl rfl rfl sd sd fun Rt10 => ?_
          refine vo_stM ?_
          try simp only [app_ints, app_intss, app_bools, app_attrs3]
          refine vo_done ⟨rfl, ?_⟩
          refine vb_light0 12 rfl rfl rfl (by kernel_rfl) (by kernel_rfl) (by kernel_rfl) (wnt_none rfl) (l0_index_ref rfl rfl rfl E62.und inf84 sz84 sd sd) ?_
          try simp only [Int.toNat_natCast]
          refine vb_one 13 rfl (by kernel_rfl) rfl ?_
          refine vo_totree 5 rfl ((by first | exact plain_nilO _ | exact plain_nil1 | exact plain_attrs _ | exact plain_pairsX _)) ?_
          refine vo_stM ?_
          refine vo_weaktree 5 rfl ?_
          refine vo_stM ?_
          refine vo_put (p := .sl _ _ _) rfl rfl rfl rfl rfl rfl rfl hC rfl (by first | decide | simp [refsOf]) inf84 sz84 sd ?_
          refine vo_stM ?_
          try simp only [List.set_set, set_attrss]
          refine vo_done ⟨rfl, ?_⟩
          refine vb_nil (by kernel_rfl) ?_
          refine hK3 _ ?_
          refine vc_seq fun K11 hK11 => ?_
          refine vc_region ?_
          refine vo_load_varG rfl rfl rfl Try.underlying65 rfl inf65 sz65 rfl ?_
          refine vo_stM ?_
          refine vo_store_varG rfl rfl rfl rfl inf65 sz65 rfl ?_
          refine vo_stM ?_
          refine vo_nil ?_
          refine hK11 _ ?_
          refine vc_treeown 2 (by omega) rfl ?_
          refine vc_stM ?_
          refine vc_expose 2 (by omega) rfl ?_
          refine vc_stM ?_
          refine vc_treeown 3 (by omega) rfl ?_
          refine vc_stM ?_
          refine vc_expose 3 (by omega) rfl ?_
          refine vc_stM ?_
          refine vc_ret ?_
          change retQ _ _ _ _ _
          refine retQ_sel [] (srows := []) (.inr rfl) hC rfl rfl rfl rfl rfl rfl rfl ?_
          first
            | exact ⟨⟨W.bases, W.attrs.set 0 (W.attrs.getD 0 [] ++ [⟨y18, 1, 0⟩]), W.objs⟩, _, _, ⟨⟨⟨hb1, hb2, hb3⟩, ⟨by rw [List.length_set]; omega, set_all (fun l hl => Nat.le_succ_of_le (ha2 l hl)) (by rw [List.length_append, List.length_singleton]; have := getD_all (p := fun l : List AttrM => l.length ≤ 3) ha2 [] (by simp) 0; omega) 0⟩, Nat.le_succ_of_le ho1, ho2⟩, by omega⟩, rfl, rfl⟩
            | exact ⟨⟨W.bases, W.attrs, W.objs ++ [⟨y29, []⟩]⟩, _, _, ⟨⟨⟨hb1, hb2, hb3⟩, ⟨by show W.attrs.length ≤ 10; omega, fun l hl => Nat.le_succ_of_le (ha2 l hl)⟩, by rw [List.length_append, List.length_singleton]; omega, app_all ho2 (by simp)⟩, by omega⟩, rfl, rfl⟩
            | exact ⟨⟨W.bases, W.attrs ++ [[]], W.objs⟩, _, _, ⟨⟨⟨hb1, hb2, hb3⟩, ⟨by rw [List.length_append, List.length_singleton]; omega, app_all (fun l hl => Nat.le_succ_of_le (ha2 l hl)) (by simp)⟩, Nat.le_succ_of_le ho1, ho2⟩, by omega⟩, rfl, rfl⟩
            | exact ⟨⟨W.bases, W.attrs, W.objs⟩, _, _, ⟨⟨⟨hb1, hb2, hb3⟩, ⟨by show W.attrs.length ≤ 10; omega, fun l hl => Nat.le_succ_of_le (ha2 l hl)⟩, Nat.le_succ_of_le ho1, ho2⟩, by omega⟩, rfl, rfl⟩
        · refine sb_call 8 [0] hC rfl rfl (wnt_none rfl) Try.func68 rfl rfl rfl rfl rfl rfl rfl (one_sat (list := [_,_]) hc (by omega) (by simp) (by simp)) ?_
          rintro _ _ ⟨y18, hy18, rfl, rfl⟩
          refine ⟨Nat.le_of_ble_eq_true rfl, ⟨rfl, rfl, rfl, rfl⟩, .inl rfl, ?_⟩
          refine vb_stM ?_
          refine vb_light0 9 rfl rfl rfl (by kernel_rfl) (by kernel_rfl) (by kernel_rfl) (wnt_none rfl) (l0_build S73 rfl rfl) ?_
          refine vb_stM ?_
          refine vb_any2 1 10 (by kernel_rfl) ?_ ?_
          · refine sb_light 1 rfl rfl rfl (wnt_none rfl) (lb_load_var hC rfl rfl rfl rfl Try.underlying62 rfl rfl) ?_
            refine vb_ext 10 rfl (by kernel_rfl) rfl (xt_buildSlice E84 rfl rfl rfl rfl) ?_
            refine vb_stM ?_
            refine vb_one 11 rfl (by kernel_rfl) rfl ?_
            refine vo_appendU E84 rfl (by omega) rfl rfl rfl sd sd fun Rt11 => ?_
            refine vo_stM ?_
            try simp only [app_ints, app_intss, app_bools, app_attrs3]
            refine vo_done ⟨rfl, ?_⟩
            refine vb_light0 12 rfl rfl rfl (by kernel_rfl) (by kernel_rfl) (by kernel_rfl) (wnt_none rfl) (l0_index_ref rfl rfl rfl E62.und inf84 sz84 sd sd) ?_
            try simp only [Int.toNat_natCast]
            refine vb_one 13 rfl (by kernel_rfl) rfl ?_
            refine vo_totree 5 rfl ((by first | exact plain_nilO _ | exact plain_nil1 | exact plain_attrs _ | exact plain_pairsX _)) ?_
            refine vo_stM ?_
            refine vo_weaktree 5 rfl ?_
            refine vo_stM ?_
            refine vo_put (p := .sl _ _ _) rfl rfl rfl rfl rfl rfl rfl hC rfl (by first | decide | simp [refsOf]) inf84 sz84 sd ?_
            refine vo_stM ?_
            try simp only [List.set_set, set_attrss]
            refine vo_done ⟨rfl, ?_⟩
            refine vb_nil (by kernel_rfl) ?_
            refine hK3 _ ?_
            refine vc_seq fun K12 hK12 => ?_
            refine vc_region ?_
            refine vo_load_varG rfl rfl rfl Try.underlying65 rfl inf65 sz65 rfl ?_
            refine vo_stM ?_
            refine vo_store_varG rfl rfl rfl rfl inf65 sz65 rfl ?_
            refine vo_stM ?_
            refine vo_nil ?_
            refine hK12 _ ?_
            refine vc_treeown 2 (by omega) rfl ?_
            refine vc_stM ?_
            refine vc_expose 2 (by omega) rfl ?_
            refine vc_stM ?_
            refine vc_treeown 3 (by omega) rfl ?_
            refine vc_stM ?_
            refine vc_expose 3 (by omega) rfl ?_
            refine vc_stM ?_
            refine vc_ret ?_
            change retQ _ _ _ _ _
            refine retQ_sel [] (srows := []) (.inr rfl) hC rfl rfl rfl rfl rfl rfl rfl ?_
            first
              | exact ⟨⟨W.bases, W.attrs.set 0 (W.attrs.getD 0 [] ++ [⟨y18, 1, 0⟩]), W.objs⟩, _, _, ⟨⟨⟨hb1, hb2, hb3⟩, ⟨by rw [List.length_set]; omega, set_all (fun l hl => Nat.le_succ_of_le (ha2 l hl)) (by rw [List.length_append, List.length_singleton]; have := getD_all (p := fun l : List AttrM => l.length ≤ 3) ha2 [] (by simp) 0; omega) 0⟩, Nat.le_succ_of_le ho1, ho2⟩, by omega⟩, rfl, rfl⟩
              | exact ⟨⟨W.bases, W.attrs, W.objs ++ [⟨y29, []⟩]⟩, _, _, ⟨⟨⟨hb1, hb2, hb3⟩, ⟨by show W.attrs.length ≤ 10; omega, fun l hl => Nat.le_succ_of_le (ha2 l hl)⟩, by rw [List.length_append, List.length_singleton]; omega, app_all ho2 (by simp)⟩, by omega⟩, rfl, rfl⟩
              | exact ⟨⟨W.bases, W.attrs ++ [[]], W.objs⟩, _, _, ⟨⟨⟨hb1, hb2, hb3⟩, ⟨by rw [List.length_append, List.length_singleton]; omega, app_all (fun l hl => Nat.le_succ_of_le (ha2 l hl)) (by simp)⟩, Nat.le_succ_of_le ho1, ho2⟩, by omega⟩, rfl, rfl⟩
              | exact ⟨⟨W.bases, W.attrs, W.objs⟩, _, _, ⟨⟨⟨hb1, hb2, hb3⟩, ⟨by show W.attrs.length ≤ 10; omega, fun l hl => Nat.le_succ_of_le (ha2 l hl)⟩, Nat.le_succ_of_le ho1, ho2⟩, by omega⟩, rfl, rfl⟩
          · refine sb_ext 10 rfl rfl (xt_buildSlice E84 rfl rfl rfl rfl) ?_
            refine vb_stM ?_
            refine vb_any2 1 11 (by kernel_rfl) ?_ ?_
            · refine sb_light 1 rfl rfl rfl (wnt_none rfl) (lb_load_var hC rfl rfl rfl rfl Try.underlying62 rfl rfl) ?_
              refine vb_one 11 rfl (by kernel_rfl) rfl ?_
              refine vo_appendU E84 rfl (by omega) rfl rfl rfl sd sd fun Rt12 => ?_
              refine vo_stM ?_
              try simp only [app_ints, app_intss, app_bools, app_attrs3]
              refine vo_done ⟨rfl, ?_⟩
              refine vb_light0 12 rfl rfl rfl (by kernel_rfl) (by kernel_rfl) (by kernel_rfl) (wnt_none rfl) (l0_index_ref rfl rfl rfl E62.und inf84 sz84 sd sd) ?_
              try simp only [Int.toNat_natCast]
              refine vb_one 13 rfl (by kernel_rfl) rfl ?_
              refine vo_totree 5 rfl ((by first | exact plain_nilO _ | exact plain_nil1 | exact plain_attrs _ | exact plain_pairsX _)) ?_
              refine vo_stM ?_
              refine vo_weaktree 5 rfl ?_
              refine vo_stM ?_
              refine vo_put (p := .sl _ _ _) rfl rfl rfl rfl rfl rfl rfl hC rfl (by first | decide | simp [refsOf]) inf84 sz84 sd ?_
              refine vo_stM ?_
              try simp only [List.set_set, set_attrss]
              refine vo_done ⟨rfl, ?_⟩
              refine vb_nil (by kernel_rfl) ?_
              refine hK3 _ ?_
              refine vc_seq fun K13 hK13 => ?_
              refine vc_region ?_
              refine vo_load_varG rfl rfl rfl Try.underlying65 rfl inf65 sz65 rfl ?_
              refine vo_stM ?_
              refine vo_store_varG rfl rfl rfl rfl inf65 sz65 rfl ?_
              refine vo_stM ?_
              refine vo_nil ?_
              refine hK13 _ ?_
              refine vc_treeown 2 (by omega) rfl ?_
              refine vc_stM ?_
              refine vc_expose 2 (by omega) rfl ?_
              refine vc_stM ?_
              refine vc_treeown 3 (by omega) rfl ?_
              refine vc_stM ?_
              refine vc_expose 3 (by omega) rfl ?_
              refine vc_stM ?_
              refine vc_ret ?_
              change retQ _ _ _ _ _
              refine retQ_sel [] (srows := []) (.inr rfl) hC rfl rfl rfl rfl rfl rfl rfl ?_
              first
                | exact ⟨⟨W.bases, W.attrs.set 0 (W.attrs.getD 0 [] ++ [⟨y18, 1, 0⟩]), W.objs⟩, _, _, ⟨⟨⟨hb1, hb2, hb3⟩, ⟨by rw [List.length_set]; omega, set_all (fun l hl => Nat.le_succ_of_le (ha2 l hl)) (by rw [List.length_append, List.length_singleton]; have := getD_all (p := fun l : List AttrM => l.length ≤ 3) ha2 [] (by simp) 0; omega) 0⟩, Nat.le_succ_of_le ho1, ho2⟩, by omega⟩, rfl, rfl⟩
                | exact ⟨⟨W.bases, W.attrs, W.objs ++ [⟨y29, []⟩]⟩, _, _, ⟨⟨⟨hb1, hb2, hb3⟩, ⟨by show W.attrs.length ≤ 10; omega, fun l hl => Nat.le_succ_of_le (ha2 l hl)⟩, by rw [List.length_append, List.length_singleton]; omega, app_all ho2 (by simp)⟩, by omega⟩, rfl, rfl⟩
                | exact ⟨⟨W.bases, W.attrs ++ [[]], W.objs⟩, _, _, ⟨⟨⟨hb1, hb2, hb3⟩, ⟨by rw [List.length_append, List.length_singleton]; omega, app_all (fun l hl => Nat.le_succ_of_le (ha2 l hl)) (by simp)⟩, Nat.le_succ_of_le ho1, ho2⟩, by omega⟩, rfl, rfl⟩
                | exact ⟨⟨W.bases, W.attrs, W.objs⟩, _, _, ⟨⟨⟨hb1, hb2, hb3⟩, ⟨by show W.attrs.length ≤ 10; omega, fun l hl => Nat.le_succ_of_le (ha2 l hl)⟩, Nat.le_succ_of_le ho1, ho2⟩, by omega⟩, rfl, rfl⟩
            · refine sb_one 11 rfl (by kernel_rfl) ?_
              refine vo_appendU E84 rfl (by omega) rfl rfl rfl sd sd fun Rt13 => ?_
              refine vo_stM ?_
              try simp only [app_ints, app_intss, app_bools, app_attrs3]
              refine vo_done ⟨rfl, ?_⟩
              refine vb_any1 1 (by kernel_rfl) ?_
              refine sb_light 1 rfl rfl rfl (wnt_none rfl) (lb_load_var hC rfl rfl rfl rfl Try.underlying62 rfl rfl) ?_
              refine vb_light0 12 rfl rfl rfl (by kernel_rfl) (by kernel_rfl) (by kernel_rfl) (wnt_none rfl) (l0_index_ref rfl rfl rfl E62.und inf84 sz84 sd sd) ?_
              try simp only [Int.toNat_natCast]
              refine vb_one 13 rfl (by kernel_rfl) rfl ?_
              refine vo_totree 5 rfl ((by first | exact plain_nilO _ | exact plain_nil1 | exact plain_attrs _ | exact plain_pairsX _)) ?_
              refine vo_stM ?_
              refine vo_weaktree 5 rfl ?_
              refine vo_stM ?_
              refine vo_put (p := .sl _ _ _) rfl rfl rfl rfl rfl rfl rfl hC rfl (by first | decide | simp [refsOf]) inf84 sz84 sd ?_
              refine vo_stM ?_
              try simp only [List.set_set, set_attrss]
              refine vo_done ⟨rfl, ?_⟩
              refine vb_nil (by kernel_rfl) ?_
              refine hK3 _ ?_
              refine vc_seq fun K14 hK14 => ?_
              refine vc_region ?_
              refine vo_load_varG rfl rfl rfl Try.underlying65 rfl inf65 sz65 rfl ?_
              refine vo_stM ?_
              refine vo_store_varG rfl rfl rfl rfl inf65 sz65 rfl ?_
              refine vo_stM ?_
              refine vo_nil ?_
              refine hK14 _ ?_
              refine vc_treeown 2 (by omega) rfl ?_
              refine vc_stM ?_
              refine vc_expose 2 (by omega) rfl ?_
              refine vc_stM ?_
              refine vc_treeown 3 (by omega) rfl ?_
              refine vc_stM ?_
              refine vc_expose 3 (by omega) rfl ?_
              refine vc_stM ?_
              refine vc_ret ?_
              change retQ _ _ _ _ _
              refine retQ_sel [] (srows := []) (.inr rfl) hC rfl rfl rfl rfl rfl rfl rfl ?_
              first
                | exact ⟨⟨W.bases, W.attrs.set 0 (W.attrs.getD 0 [] ++ [⟨y18, 1, 0⟩]), W.objs⟩, _, _, ⟨⟨⟨hb1, hb2, hb3⟩, ⟨by rw [List.length_set]; omega, set_all (fun l hl => Nat.le_succ_of_le (ha2 l hl)) (by rw [List.length_append, List.length_singleton]; have := getD_all (p := fun l : List AttrM => l.length ≤ 3) ha2 [] (by simp) 0; omega) 0⟩, Nat.le_succ_of_le ho1, ho2⟩, by omega⟩, rfl, rfl⟩
                | exact ⟨⟨W.bases, W.attrs, W.objs ++ [⟨y29, []⟩]⟩, _, _, ⟨⟨⟨hb1, hb2, hb3⟩, ⟨by show W.attrs.length ≤ 10; omega, fun l hl => Nat.le_succ_of_le (ha2 l hl)⟩, by rw [List.length_append, List.length_singleton]; omega, app_all ho2 (by simp)⟩, by omega⟩, rfl, rfl⟩
                | exact ⟨⟨W.bases, W.attrs ++ [[]], W.objs⟩, _, _, ⟨⟨⟨hb1, hb2, hb3⟩, ⟨by rw [List.length_append, List.length_singleton]; omega, app_all (fun l hl => Nat.le_succ_of_le (ha2 l hl)) (by simp)⟩, Nat.le_succ_of_le ho1, ho2⟩, by omega⟩, rfl, rfl⟩
                | exact ⟨⟨W.bases, W.attrs, W.objs⟩, _, _, ⟨⟨⟨hb1, hb2, hb3⟩, ⟨by show W.attrs.length ≤ 10; omega, fun l hl => Nat.le_succ_of_le (ha2 l hl)⟩, Nat.le_succ_of_le ho1, ho2⟩, by omega⟩, rfl, rfl⟩
    · refine sb_ext 7 rfl rfl (xt_buildSlice E36 rfl rfl rfl rfl) ?_
      refine vb_stM ?_
      refine vb_expose 5 (by omega) rfl ?_
      refine vb_stM ?_
      refine vb_weaken 17 rfl ?_
      refine vb_stM ?_
      refine vb_any3 1 5 8 (by kernel_rfl) ?_ ?_ ?_
      · refine sb_light 1 rfl rfl rfl (wnt_none rfl) (lb_load_var hC rfl rfl rfl rfl Try.underlying62 rfl rfl) ?_
        refine vb_any2 5 8 (by kernel_rfl) ?_ ?_
        · refine sb_extE 5 rfl (fun _ => rfl) (xt_load_take1 rfl rfl (by omega) Try.underlying84 rfl (attrs_at0 (by omega))) fun Rf15 => ?_
          refine vb_stM ?_
          refine vb_treeown 6 (by omega) rfl ?_
          refine vb_stM ?_
          refine vb_any1 8 (by kernel_rfl) ?_
          refine sb_call 8 [0] hC rfl rfl (wnt_none rfl) Try.func68 rfl rfl rfl rfl rfl rfl rfl (one_sat (list := [_,_]) hc (by omega) (by simp) (by simp)) ?_
          rintro _ _ ⟨y18, hy18, rfl, rfl⟩
          refine ⟨Nat.le_of_ble_eq_true rfl, ⟨rfl, rfl, rfl, rfl⟩, .inl rfl, ?_⟩
          refine vb_stM ?_
          refine vb_light0 9 rfl rfl rfl (by kernel_rfl) (by kernel_rfl) (by kernel_rfl) (wnt_none rfl) (l0_build S73 rfl rfl) ?_
          refine vb_stM ?_
          refine vb_ext 10 rfl (by kernel_rfl) rfl (xt_buildSlice E84 rfl rfl rfl rfl) ?_
          refine vb_stM ?_
          refine vb_one 11 rfl (by kernel_rfl) rfl ?_
          refine vo_appendU E84 rfl (by omega) rfl rfl rfl sd sd fun Rt14 => ?_
          refine vo_stM ?_
          try simp only [app_ints, app_intss, app_bools, app_attrs3]
          refine vo_done ⟨rfl, ?_⟩
          refine vb_light0 12 rfl rfl rfl (by kernel_rfl) (by kernel_rfl) (by kernel_rfl) (wnt_none rfl) (l0_index_ref rfl rfl rfl E62.und inf84 sz84 sd sd) ?_
          try simp only [Int.toNat_natCast]
          refine vb_one 13 rfl (by kernel_rfl) rfl ?_
          refine vo_totree 6 rfl ((by first | exact plain_nilO _ | exact plain_nil1 | exact plain_attrs _ | exact plain_pairsX _)) ?_
          refine vo_stM ?_
          refine vo_weaktree 6 rfl ?_
          refine vo_stM ?_
          refine vo_put (p := .sl _ _ _) rfl rfl rfl rfl rfl rfl rfl hC rfl (by first | decide | simp [refsOf]) inf84 sz84 sd ?_
          refine vo_stM ?_
          try simp only [List.set_set, set_attrss]
          refine vo_done ⟨rfl, ?_⟩
          refine vb_nil (by kernel_rfl) ?_
          refine hK3 _ ?_
          refine vc_seq fun K15 hK15 => ?_
          refine vc_region ?_
          refine vo_load_varG rfl rfl rfl Try.underlying65 rfl inf65 sz65 rfl ?_
          refine vo_stM ?_
          refine vo_store_varG rfl rfl rfl rfl inf65 sz65 rfl ?_
          refine vo_stM ?_
          refine vo_nil ?_
          refine hK15 _ ?_
          refine vc_treeown 2 (by omega) rfl ?_
          refine vc_stM ?_
          refine vc_expose 2 (by omega) rfl ?_
          refine vc_stM ?_
          refine vc_treeown 3 (by omega) rfl ?_
          refine vc_stM ?_
          refine vc_expose 3 (by omega) rfl ?_
          refine vc_stM ?_
          refine vc_ret ?_
          change retQ _ _ _ _ _
          refine retQ_sel [] (srows := []) (.inr rfl) hC rfl rfl rfl rfl rfl rfl rfl ?_
          first
            | exact ⟨⟨W.bases, W.attrs.set 0 (W.attrs.getD 0 [] ++ [⟨y18, 1, 0⟩]), W.objs⟩, _, _, ⟨⟨⟨hb1, hb2, hb3⟩, ⟨by rw [List.length_set]; omega, set_all (fun l hl => Nat.le_succ_of_le (ha2 l hl)) (by rw [List.length_append, List.length_singleton]; have := getD_all (p := fun l : List AttrM => l.length ≤ 3) ha2 [] (by simp) 0; omega) 0⟩, Nat.le_succ_of_le ho1, ho2⟩, by omega⟩, rfl, rfl⟩
            | exact ⟨⟨W.bases, W.attrs, W.objs ++ [⟨y29, []⟩]⟩, _, _, ⟨⟨⟨hb1, hb2, hb3⟩, ⟨by show W.attrs.length ≤ 10; omega, fun l hl => Nat.le_succ_of_le (ha2 l hl)⟩, by rw [List.length_append, List.length_singleton]; omega, app_all ho2 (by simp)⟩, by omega⟩, rfl, rfl⟩
            | exact ⟨⟨W.bases, W.attrs ++ [[]], W.objs⟩, _, _, ⟨⟨⟨hb1, hb2, hb3⟩, ⟨by rw [List.length_append, List.length_singleton]; omega, app_all (fun l hl => Nat.le_succ_of_le (ha2 l hl)) (by simp)⟩, Nat.le_succ_of_le ho1, ho2⟩, by omega⟩, rfl, rfl⟩
            | exact ⟨⟨W.bases, W.attrs, W.objs⟩, _, _, ⟨⟨⟨hb1, hb2, hb3⟩, ⟨by show W.attrs.length ≤ 10; omega, fun l hl => Nat.le_succ_of_le (ha2 l hl)⟩, Nat.le_succ_of_le ho1, ho2⟩, by omega⟩, rfl, rfl⟩
        · refine sb_call 8 [0] hC rfl rfl (wnt_none rfl) Try.func68 rfl rfl rfl rfl rfl rfl rfl (one_sat (list := [_,_]) hc (by omega) (by simp) (by simp)) ?_
          rintro _ _ ⟨y18, hy18, rfl, rfl⟩
          refine ⟨Nat.le_of_ble_eq_true rfl, ⟨rfl, rfl, rfl, rfl⟩, .inl rfl, ?_⟩
          refine vb_stM ?_
          refine vb_light0 9 rfl rfl rfl (by kernel_rfl) (by kernel_rfl) (by kernel_rfl) (wnt_none rfl) (l0_build S73 rfl rfl) ?_
          refine vb_stM ?_
          refine vb_any2 5 10 (by kernel_rfl) ?_ ?_
          · refine sb_extE 5 rfl (fun _ => rfl) (xt_load_take1 rfl rfl (by omega) Try.underlying84 rfl (attrs_at0 (by omega))) fun Rf15 => ?_
            refine vb_stM ?_
            refine vb_treeown 6 (by omega) rfl ?_
            refine vb_stM ?_
            refine vb_ext 10 rfl (by kernel_rfl) rfl (xt_buildSlice E84 rfl rfl rfl rfl) ?_
            refine vb_stM ?_
            refine vb_one 11 rfl (by kernel_rfl) rfl ?_
            refine vo_appendU E84 rfl (by omega) rfl rfl rfl sd sd fun Rt15 => ?_
            refine vo_stM ?_
            try simp only [app_ints, app_intss, app_bools, app_attrs3]
            refine vo_done ⟨rfl, ?_⟩
            refine vb_light0 12 rfl rfl rfl (by kernel_rfl) (by kernel_rfl) (by kernel_rfl) (wnt_none rfl) (l0_index_ref rfl rfl rfl E62.und inf84 sz84 sd sd) ?_
            try simp only [Int.toNat_natCast]
            refine vb_one 13 rfl (by kernel_rfl) rfl ?_
            refine vo_totree 6 rfl ((by first | exact plain_nilO _ | exact plain_nil1 | exact plain_attrs _ | exact plain_pairsX _)) ?_
            refine vo_stM ?_
            refine vo_weaktree 6 rfl ?_
            refine vo_stM ?_
            refine vo_put (p := .sl _ _ _) rfl rfl rfl rfl rfl rfl rfl hC rfl (by first | decide | simp [refsOf]) inf84 sz84 sd ?_
            refine vo_stM ?_
            try simp only [List.set_set, set_attrss]
            refine vo_done ⟨rfl, ?_⟩
            refine vb_nil (by kernel_rfl) ?_
            refine hK3 _ ?_
            refine vc_seq fun K16 hK16 => ?_
            refine vc_region ?_
            refine vo_load_varG rfl rfl rfl Try.underlying65 rfl inf65 sz65 rfl ?_
            refine vo_stM ?_
            refine vo_store_varG rfl rfl rfl rfl inf65 sz65 rfl ?_
            refine vo_stM ?_
            refine vo_nil ?_
            refine hK16 _ ?_
            refine vc_treeown 2 (by omega) rfl ?_
            refine vc_stM ?_
            refine vc_expose 2 (by omega) rfl ?_
            refine vc_stM ?_
            refine vc_treeown 3 (by omega) rfl ?_
            refine vc_stM ?_
            refine vc_expose 3 (by omega) rfl ?_
            refine vc_stM ?_
            refine vc_ret ?_
            change retQ _ _ _ _ _
            refine retQ_sel [] (srows := []) (.inr rfl) hC rfl rfl rfl rfl rfl rfl rfl ?_
            first
              | exact ⟨⟨W.bases, W.attrs.set 0 (W.attrs.getD 0 [] ++ [⟨y18, 1, 0⟩]), W.objs⟩, _, _, ⟨⟨⟨hb1, hb2, hb3⟩, ⟨by rw [List.length_set]; omega, set_all (fun l hl => Nat.le_succ_of_le (ha2 l hl)) (by rw [List.length_append, List.length_singleton]; have := getD_all (p := fun l : List AttrM => l.length ≤ 3) ha2 [] (by simp) 0; omega) 0⟩, Nat.le_succ_of_le ho1, ho2⟩, by omega⟩, rfl, rfl⟩
              | exact ⟨⟨W.bases, W.attrs, W.objs ++ [⟨y29, []⟩]⟩, _, _, ⟨⟨⟨hb1, hb2, hb3⟩, ⟨by show W.attrs.length ≤ 10; omega, fun l hl => Nat.le_succ_of_le (ha2 l hl)⟩, by rw [List.length_append, List.length_singleton]; omega, app_all ho2 (by simp)⟩, by omega⟩, rfl, rfl⟩
              | exact ⟨⟨W.bases, W.attrs ++ [[]], W.objs⟩, _, _, ⟨⟨⟨hb1, hb2, hb3⟩, ⟨by rw [List.length_append, List.length_singleton]; omega, app_all (fun l hl => Nat.le_succ_of_le (ha2 l hl)) (by simp)⟩, Nat.le_succ_of_le ho1, ho2⟩, by omega⟩, rfl, rfl⟩
              | exact ⟨⟨W.bases, W.attrs, W.objs⟩, _, _, ⟨⟨⟨hb1, hb2, hb3⟩, ⟨by show W.attrs.length ≤ 10; omega, fun l hl => Nat.le_succ_of_le (ha2 l hl)⟩, Nat.le_succ_of_le ho1, ho2⟩, by omega⟩, rfl, rfl⟩
          · refine sb_ext 10 rfl rfl (xt_buildSlice E84 rfl rfl rfl rfl) ?_
            refine vb_stM ?_
            refine vb_any1 5 (by kernel_rfl) ?_
            refine sb_extE 5 rfl (fun _ => rfl) (xt_load_take1 rfl rfl (by omega) Try.underlying84 rfl (attrs_at0 (by omega))) fun Rf15 => ?_
            refine vb_stM ?_
            refine vb_treeown 7 (by omega) rfl ?_
            refine vb_stM ?_
            refine vb_one 11 rfl (by kernel_rfl) rfl ?_
            refine vo_appendU E84 rfl (by omega) rfl rfl rfl sd sd fun Rt16 => ?_
            refine vo_stM ?_
            try simp only [app_ints, app_intss, app_bools, app_attrs3]
            refine vo_done ⟨rfl, ?_⟩
            refine vb_light0 12 rfl rfl rfl (by kernel_rfl) (by kernel_rfl) (by kernel_rfl) (wnt_none rfl) (l0_index_ref rfl rfl rfl E62.und inf84 sz84 sd sd) ?_
            try simp only [Int.toNat_natCast]
            refine vb_one 13 rfl (by kernel_rfl) rfl ?_
            refine vo_totree 7 rfl ((by first | exact plain_nilO _ | exact plain_nil1 | exact plain_attrs _ | exact plain_pairsX _)) ?_
            refine vo_stM ?_
            refine vo_weaktree 7 rfl ?_
            refine vo_stM ?_
            refine vo_put (p := .sl _ _ _) rfl rfl rfl rfl rfl rfl rfl hC rfl (by first | decide | simp [refsOf]) inf84 sz84 sd ?_
            refine vo_stM ?_
            try simp only [List.set_set, set_attrss]
            refine vo_done ⟨rfl, ?_⟩
            refine vb_nil (by kernel_rfl) ?_
            refine hK3 _ ?_
            refine vc_seq fun K17 hK17 => ?_
            refine vc_region ?_
            refine vo_load_varG rfl rfl rfl Try.underlying65 rfl inf65 sz65 rfl ?_
            refine vo_stM ?_
            refine vo_store_varG rfl rfl rfl rfl inf65 sz65 rfl ?_
            refine vo_stM ?_
            refine vo_nil ?_
            refine hK17 _ ?_
            refine vc_treeown 2 (by omega) rfl ?_
            refine vc_stM ?_
            refine vc_expose 2 (by omega) rfl ?_
            refine vc_stM ?_
            refine vc_treeown 3 (by omega) rfl ?_
            refine vc_stM ?_
            refine vc_expose 3 (by omega) rfl ?_
            refine vc_stM ?_
            refine vc_ret ?_
            change retQ _ _ _ _ _
            refine retQ_sel [] (srows := []) (.inr rfl) hC rfl rfl rfl rfl rfl rfl rfl ?_
            first
              | exact ⟨⟨W.bases, W.attrs.set 0 (W.attrs.getD 0 [] ++ [⟨y18, 1, 0⟩]), W.objs⟩, _, _, ⟨⟨⟨hb1, hb2, hb3⟩, ⟨by rw [List.length_set]; omega, set_all (fun l hl => Nat.le_succ_of_le (ha2 l hl)) (by rw [List.length_append, List.length_singleton]; have := getD_all (p := fun l : List AttrM => l.length ≤ 3) ha2 [] (by simp) 0; omega) 0⟩, Nat.le_succ_of_le ho1, ho2⟩, by omega⟩, rfl, rfl⟩
              | exact ⟨⟨W.bases, W.attrs, W.objs ++ [⟨y29, []⟩]⟩, _, _, ⟨⟨⟨hb1, hb2, hb3⟩, ⟨by show W.attrs.length ≤ 10; omega, fun l hl => Nat.le_succ_of_le (ha2 l hl)⟩, by rw [List.length_append, List.length_singleton]; omega, app_all ho2 (by simp)⟩, by omega⟩, rfl, rfl⟩
              | exact ⟨⟨W.bases, W.attrs ++ [[]], W.objs⟩, _, _, ⟨⟨⟨hb1, hb2, hb3⟩, ⟨by rw [List.length_append, List.length_singleton]; omega, app_all (fun l hl => Nat.le_succ_of_le (ha2 l hl)) (by simp)⟩, Nat.le_succ_of_le ho1, ho2⟩, by omega⟩, rfl, rfl⟩
              | exact ⟨⟨W.bases, W.attrs, W.objs⟩, _, _, ⟨⟨⟨hb1, hb2, hb3⟩, ⟨by show W.attrs.length ≤ 10; omega, fun l hl => Nat.le_succ_of_le (ha2 l hl)⟩, Nat.le_succ_of_le ho1, ho2⟩, by omega⟩, rfl, rfl⟩
      · refine sb_extE 5 rfl (fun _ => rfl) (xt_load_take1 rfl rfl (by omega) Try.underlying84 rfl (attrs_at0 (by omega))) fun Rf15 => ?_
        refine vb_stM ?_
        refine vb_treeown 6 (by omega) rfl ?_
        refine vb_stM ?_
        refine vb_any2 1 8 (by kernel_rfl) ?_ ?_
        · refine sb_light 1 rfl rfl rfl (wnt_none rfl) (lb_load_var hC rfl rfl rfl rfl Try.underlying62 rfl rfl) ?_
          refine vb_any1 8 (by kernel_rfl) ?_
          refine sb_call 8 [0] hC rfl rfl (wnt_none rfl) Try.func68 rfl rfl rfl rfl rfl rfl rfl (one_sat (list := [_,_]) hc (by omega) (by simp) (by simp)) ?_
          rintro _ _ ⟨y18, hy18, rfl, rfl⟩
          refine ⟨Nat.le_of_ble_eq_true rfl, ⟨rfl, rfl, rfl, rfl⟩, .inl rfl, ?_⟩
          refine vb_stM ?_
          refine vb_light0 9 rfl rfl rfl (by kernel_rfl) (by kernel_rfl) (by kernel_rfl) (wnt_none rfl) (l0_build S73 rfl rfl) ?_
          refine vb_stM ?_
          refine vb_ext 10 rfl (by kernel_rfl) rfl (xt_buildSlice E84 rfl rfl rfl rfl) ?_
          refine vb_stM ?_
          refine vb_one 11 rfl (by kernel_rfl) rfl ?_
          refine vo_appendU E84 rfl (by omega) rfl rfl rfl sd sd fun Rt17 => ?_
          refine vo_stM ?_
          try simp only [app_ints, app_intss, app_bools, app_attrs3]
          refine vo_done ⟨rfl, ?_⟩
          refine vb_light0 12 rfl rfl rfl (by kernel_rfl) (by kernel_rfl) (by kernel_rfl) (wnt_none rfl) (l0_index_ref rfl rfl rfl E62.und inf84 sz84 sd sd) ?_
          try simp only [Int.toNat_natCast]
          refine vb_one 13 rfl (by kernel_rfl) rfl ?_
          refine vo_totree 6 rfl ((by first | exact plain_nilO _ | exact plain_nil1 | exact plain_attrs _ | exact plain_pairsX _)) ?_
          refine vo_stM ?_
          refine vo_weaktree 6 rfl ?_
          refine vo_stM ?_
          refine vo_put (p := .sl _ _ _) rfl rfl rfl rfl rfl rfl rfl hC rfl (by first | decide | simp [refsOf]) inf84 sz84 sd ?_
          refine vo_stM ?_
          try simp only [List.set_set, set_attrss]
          refine vo_done ⟨rfl, ?_⟩
          refine vb_nil (by kernel_rfl) ?_
          refine hK3 _ ?_
          refine vc_seq fun K18 hK18 => ?_
          refine vc_region ?_
          refine vo_load_varG rfl rfl rfl Try.underlying65 rfl inf65 sz65 rfl ?_
          refine vo_stM ?_
          refine vo_store_varG rfl rfl rfl rfl inf65 sz65 rfl ?_
          refine vo_stM ?_
          refine vo_nil ?_
          refine hK18 _ ?_
          refine vc_treeown 2 (by omega) rfl ?_
          refine vc_stM ?_
          refine vc_expose 2 (by omega) rfl ?_
          refine vc_stM ?_
          refine vc_treeown 3 (by omega) rfl ?_
          refine vc_stM ?_
          refine vc_expose 3 (by omega) rfl ?_
          refine vc_stM ?_
          refine vc_ret ?_
          change retQ _ _ _ _ _
          refine retQ_sel [] (srows := []) (.inr rfl) hC rfl rfl rfl rfl rfl rfl rfl ?_
          first
            | exact ⟨⟨W.bases, W.attrs.set 0 (W.attrs.getD 0 [] ++ [⟨y18, 1, 0⟩]), W.objs⟩, _, _, ⟨⟨⟨hb1, hb2, hb3⟩, ⟨by rw [List.length_set]; omega, set_all (fun l hl => Nat.le_succ_of_le (ha2 l hl)) (by rw [List.length_append, List.length_singleton]; have := getD_all (p := fun l : List AttrM => l.length ≤ 3) ha2 [] (by simp) 0; omega) 0⟩, Nat.le_succ_of_le ho1, ho2⟩, by omega⟩, rfl, rfl⟩
            | exact ⟨⟨W.bases, W.attrs, W.objs ++ [⟨y29, []⟩]⟩, _, _, ⟨⟨⟨hb1, hb2, hb3⟩, ⟨by show W.attrs.length ≤ 10; omega, fun l hl => Nat.le_succ_of_le (ha2 l hl)⟩, by rw [List.length_append, List.length_singleton]; omega, app_all ho2 (by simp)⟩, by omega⟩, rfl, rfl⟩
            | exact ⟨⟨W.bases, W.attrs ++ [[]], W.objs⟩, _, _, ⟨⟨⟨hb1, hb2, hb3⟩, ⟨by rw [List.length_append, List.length_singleton]; omega, app_all (fun l hl => Nat.le_succ_of_le (ha2 l hl)) (by simp)⟩, Nat.le_succ_of_le ho1, ho2⟩, by omega⟩, rfl, rfl⟩
            | exact ⟨⟨W.bases, W.attrs, W.objs⟩, _, _, ⟨⟨⟨hb1, hb2, hb3⟩, ⟨by show W.attrs.length ≤ 10; omega, fun l hl => Nat.le_succ_of_le (ha2 l hl)⟩, Nat.le_succ_of_le ho1, ho2⟩, by omega⟩, rfl, rfl⟩
        · refine sb_call 8 [0] hC rfl rfl (wnt_none rfl) Try.func68 rfl rfl rfl rfl rfl rfl rfl (one_sat (list := [_,_]) hc (by omega) (by simp) (by simp)) ?_
          rintro _ _ ⟨y18, hy18, rfl, rfl⟩
          refine ⟨Nat.le_of_ble_eq_true rfl, ⟨rfl, rfl, rfl, rfl⟩, .inl rfl, ?_⟩
          refine vb_stM ?_
          refine vb_light0 9 rfl rfl rfl (by kernel_rfl) (by kernel_rfl) (by kernel_rfl) (wnt_none rfl) (l0_build S73 rfl rfl) ?_
          refine vb_stM ?_
          refine vb_any2 1 10 (by kernel_rfl) ?_ ?_
          · refine sb_light 1 rfl rfl rfl (wnt_none rfl) (lb_load_var hC rfl rfl rfl rfl Try.underlying62 rfl rfl) ?_
            refine vb_ext 10 rfl (by kernel_rfl) rfl (xt_buildSlice E84 rfl rfl rfl rfl) ?_
            refine vb_stM ?_
            refine vb_one 11 rfl (by kernel_rfl) rfl ?_
            refine vo_appendU E84 rfl (by omega) rfl rfl rfl sd sd fun Rt18 => ?_
            refine vo_stM ?_
            try simp only [app_ints, app_intss, app_bools, app_attrs3]
            refine vo_done ⟨rfl, ?_⟩
            refine vb_light0 12 rfl rfl rfl (by kernel_rfl) (by kernel_rfl) (by kernel_rfl) (wnt_none rfl) (l0_index_ref rfl rfl rfl E62.und inf84 sz84 sd sd) ?_
            try simp only [Int.toNat_natCast]
            refine vb_one 13 rfl (by kernel_rfl) rfl ?_
            refine vo_totree 6 rfl ((by first | exact plain_nilO _ | exact plain_nil1 | exact plain_attrs _ | exact plain_pairsX _)) ?_
            refine vo_stM ?_
            refine vo_weaktree 6 rfl ?_
            refine vo_stM ?_
            refine vo_put (p := .sl _ _ _) rfl rfl rfl rfl rfl rfl rfl hC rfl (by first | decide | simp [refsOf]) inf84 sz84 sd ?_
            refine vo_stM ?_
            try simp only [List.set_set, set_attrss]
            refine vo_done ⟨rfl, ?_⟩
            refine vb_nil (by kernel_rfl) ?_
            refine hK3 _ ?_
            refine vc_seq fun K19 hK19 => ?_
            refine vc_region ?_
            refine vo_load_varG rfl rfl rfl Try.underlying65 rfl inf65 sz65 rfl ?_
            refine vo_stM ?_
            refine vo_store_varG rfl rfl rfl rfl inf65 sz65 rfl ?_
            refine vo_stM ?_
            refine vo_nil ?_
            refine hK19 _ ?_
            refine vc_treeown 2 (by omega) rfl ?_
            refine vc_stM ?_
            refine vc_expose 2 (by omega) rfl ?_
            refine vc_stM ?_
            refine vc_treeown 3 (by omega) rfl ?_
            refine vc_stM ?_
            refine vc_expose 3 (by omega) rfl ?_
            refine vc_stM ?_
            refine vc_ret ?_
            change retQ _ _ _ _ _
            refine retQ_sel [] (srows := []) (.inr rfl) hC rfl rfl rfl rfl rfl rfl rfl ?_
            first
              | exact ⟨⟨W.bases, W.attrs.set 0 (W.attrs.getD 0 [] ++ [⟨y18, 1, 0⟩]), W.objs⟩, _, _, ⟨⟨⟨hb1, hb2, hb3⟩, ⟨by rw [List.length_set]; omega, set_all (fun l hl => Nat.le_succ_of_le (ha2 l hl)) (by rw [List.length_append, List.length_singleton]; have := getD_all (p := fun l : List AttrM => l.length ≤ 3) ha2 [] (by simp) 0; omega) 0⟩, Nat.le_succ_of_le ho1, ho2⟩, by omega⟩, rfl, rfl⟩
              | exact ⟨⟨W.bases, W.attrs, W.objs ++ [⟨y29, []⟩]⟩, _, _, ⟨⟨⟨hb1, hb2, hb3⟩, ⟨by show W.attrs.length ≤ 10; omega, fun l hl => Nat.le_succ_of_le (ha2 l hl)⟩, by rw [List.length_append, List.length_singleton]; omega, app_all ho2 (by simp)⟩, by omega⟩, rfl, rfl⟩
              | exact ⟨⟨W.bases, W.attrs ++ [[]], W.objs⟩, _, _, ⟨⟨⟨hb1, hb2, hb3⟩, ⟨by rw [List.length_append, List.length_singleton]; omega, app_all (fun l hl => Nat.le_succ_of_le (ha2 l hl)) (by simp)⟩, Nat.le_succ_of_le ho1, ho2⟩, by omega⟩, rfl, rfl⟩
              | exact ⟨⟨W.bases, W.attrs, W.objs⟩, _, _, ⟨⟨⟨hb1, hb2, hb3⟩, ⟨by show W.attrs.length ≤ 10; omega, fun l hl => Nat.le_succ_of_le (ha2 l hl)⟩, Nat.le_succ_of_le ho1, ho2⟩, by omega⟩, rfl, rfl⟩
          · refine sb_ext 10 rfl rfl (xt_buildSlice E84 rfl rfl rfl rfl) ?_
            refine vb_stM ?_
            refine vb_any2 1 11 (by kernel_rfl) ?_ ?_
            · refine sb_light 1 rfl rfl rfl (wnt_none rfl) (lb_load_var hC rfl rfl rfl rfl Try.underlying62 rfl rfl) ?_
              refine vb_one 11 rfl (by kernel_rfl) rfl ?_
              refine vo_appendU E84 rfl (by omega) rfl rfl rfl sd sd fun Rt19 => ?_
              refine vo_stM ?_
              try simp only [app_ints, app_intss, app_bools, app_attrs3]
              refine vo_done ⟨rfl, ?_⟩
              refine vb_light0 12 rfl rfl rfl (by kernel_rfl) (by kernel_rfl) (by kernel_rfl) (wnt_none rfl) (l0_index_ref rfl rfl rfl E62.und inf84 sz84 sd sd) ?_
              try simp only [Int.toNat_natCast]
              refine vb_one 13 rfl (by kernel_rfl) rfl ?_
              refine vo_totree 6 rfl ((by first | exact plain_nilO _ | exact plain_nil1 | exact plain_attrs _ | exact plain_pairsX _)) ?_
              refine vo_stM ?_
              refine vo_weaktree 6 rfl ?_
              refine vo_stM ?_
              refine vo_put (p := .sl _ _ _) rfl rfl rfl rfl rfl rfl rfl hC rfl (by first | decide | simp [refsOf]) inf84 sz84 sd ?_
              refine vo_stM ?_
              try simp only [List.set_set, set_attrss]
              refine vo_done ⟨rfl, ?_⟩
              refine vb_nil (by kernel_rfl) ?_
              refine hK3 _ ?_
              refine vc_seq fun K20 hK20 => ?_
              refine vc_region ?_
              refine vo_load_varG rfl rfl rfl Try.underlying65 rfl inf65 sz65 rfl ?_
              refine vo_stM ?_
              refine vo_store_varG rfl rfl rfl rfl inf65 sz65 rfl ?_
              refine vo_stM ?_
              refine vo_nil ?_
              refine hK20 _ ?_
              refine vc_treeown 2 (by omega) rfl ?_
              refine vc_stM ?_
              refine vc_expose 2 (by omega) rfl ?_
              refine vc_stM ?_
              refine vc_treeown 3 (by omega) rfl ?_
              refine vc_stM ?_
              refine vc_expose 3 (by omega) rfl ?_
              refine vc_stM ?_
              refine vc_ret ?_
              change retQ _ _ _ _ _
              refine retQ_sel [] (srows := []) (.inr rfl) hC rfl rfl rfl rfl rfl rfl rfl ?_
              first
                | exact ⟨⟨W.bases, W.attrs.set 0 (W.attrs.getD 0 [] ++ [⟨y18, 1, 0⟩]), W.objs⟩, _, _, ⟨⟨⟨hb1, hb2, hb3⟩, ⟨by rw [List.length_set]; omega, set_all (fun l hl => Nat.le_succ_of_le (ha2 l hl)) (by rw [List.length_append, List.length_singleton]; have := getD_all (p := fun l : List AttrM => l.length ≤ 3) ha2 [] (by simp) 0; omega) 0⟩, Nat.le_succ_of_le ho1, ho2⟩, by omega⟩, rfl, rfl⟩
                | exact ⟨⟨W.bases, W.attrs, W.objs ++ [⟨y29, []⟩]⟩, _, _, ⟨⟨⟨hb1, hb2, hb3⟩, ⟨by show W.attrs.length ≤ 10; omega, fun l hl => Nat.le_succ_of_le (ha2 l hl)⟩, by rw [List.length_append, List.length_singleton]; omega, app_all ho2 (by simp)⟩, by omega⟩, rfl, rfl⟩
                | exact ⟨⟨W.bases, W.attrs ++ [[]], W.objs⟩, _, _, ⟨⟨⟨hb1, hb2, hb3⟩, ⟨by rw [List.length_append, List.length_singleton]; omega, app_all (fun l hl => Nat.le_succ_of_le (ha2 l hl)) (by simp)⟩, Nat.le_succ_of_le ho1, ho2⟩, by omega⟩, rfl, rfl⟩
                | exact ⟨⟨W.bases, W.attrs, W.objs⟩, _, _, ⟨⟨⟨hb1, hb2, hb3⟩, ⟨by show W.attrs.length ≤ 10; omega, fun l hl => Nat.le_succ_of_le (ha2 l hl)⟩, Nat.le_succ_of_le ho1, ho2⟩, by omega⟩, rfl, rfl⟩
            · refine sb_one 11 rfl (by kernel_rfl) ?_
              refine vo_appendU E84 rfl (by omega) rfl rfl rfl sd sd fun Rt20 => ?_
              refine vo_stM ?_
              try simp only [app_ints, app_intss, app_bools, app_attrs3]
              refine vo_done ⟨rfl, ?_⟩
              refine vb_any1 1 (by kernel_rfl) ?_
              refine sb_light 1 rfl rfl rfl (wnt_none rfl) (lb_load_var hC rfl rfl rfl rfl Try.underlying62 rfl rfl) ?_
              refine vb_light0 12 rfl rfl rfl (by kernel_rfl) (by kernel_rfl) (by kernel_rfl) (wnt_none rfl) (l0_index_ref rfl rfl rfl E62.und inf84 sz84 sd sd) ?_
              try simp only [Int.toNat_natCast]
              refine vb_one 13 rfl (by kernel_rfl) rfl ?_
              refine vo_totree 6 rfl ((by first | exact plain_nilO _ | exact plain_nil1 | exact plain_attrs _ | exact plain_pairsX _)) ?_
              refine vo_stM ?_
              refine vo_weaktree 6 rfl ?_
              refine vo_stM ?_
              refine vo_put (p := .sl _ _ _) rfl rfl rfl rfl rfl rfl rfl hC rfl (by first | decide | simp [refsOf]) inf84 sz84 sd ?_
              refine vo_stM ?_
              try simp only [List.set_set, set_attrss]
              refine vo_done ⟨rfl, ?_⟩
              refine vb_nil (by kernel_rfl) ?_
              refine hK3 _ ?_
              refine vc_seq fun K21 hK21 => ?_
              refine vc_region ?_
              refine vo_load_varG rfl rfl rfl Try.underlying65 rfl inf65 sz65 rfl ?_
              refine vo_stM ?_
              refine vo_store_varG rfl rfl rfl rfl inf65 sz65 rfl ?_
              refine vo_stM ?_
              refine vo_nil ?_
              refine hK21 _ ?_
              refine vc_treeown 2 (by omega) rfl ?_
              refine vc_stM ?_
              refine vc_expose 2 (by omega) rfl ?_
              refine vc_stM ?_
              refine vc_treeown 3 (by omega) rfl ?_
              refine vc_stM ?_
              refine vc_expose 3 (by omega) rfl ?_
              refine vc_stM ?_
              refine vc_ret ?_
              change retQ _ _ _ _ _
              refine retQ_sel [] (srows := []) (.inr rfl) hC rfl rfl rfl rfl rfl rfl rfl ?_
              first
                | exact ⟨⟨W.bases, W.attrs.set 0 (W.attrs.getD 0 [] ++ [⟨y18, 1, 0⟩]), W.objs⟩, _, _, ⟨⟨⟨hb1, hb2, hb3⟩, ⟨by rw [List.length_set]; omega, set_all (fun l hl => Nat.le_succ_of_le (ha2 l hl)) (by rw [List.length_append, List.length_singleton]; have := getD_all (p := fun l : List AttrM => l.length ≤ 3) ha2 [] (by simp) 0; omega) 0⟩, Nat.le_succ_of_le ho1, ho2⟩, by omega⟩, rfl, rfl⟩
                | exact ⟨⟨W.bases, W.attrs, W.objs ++ [⟨y29, []⟩]⟩, _, _, ⟨⟨⟨hb1, hb2, hb3⟩, ⟨by show W.attrs.length ≤ 10; omega, fun l hl => Nat.le_succ_of_le (ha2 l hl)⟩, by rw [List.length_append, List.length_singleton]; omega, app_all ho2 (by simp)⟩, by omega⟩, rfl, rfl⟩
                | exact ⟨⟨W.bases, W.attrs ++ [[]], W.objs⟩, _, _, ⟨⟨⟨hb1, hb2, hb3⟩, ⟨by rw [List.length_append, List.length_singleton]; omega, app_all (fun l hl => Nat.le_succ_of_le (ha2 l hl)) (by simp)⟩, Nat.le_succ_of_le ho1, ho2⟩, by omega⟩, rfl, rfl⟩
                | exact ⟨⟨W.bases, W.attrs, W.objs⟩, _, _, ⟨⟨⟨hb1, hb2, hb3⟩, ⟨by show W.attrs.length ≤ 10; omega, fun l hl => Nat.le_succ_of_le (ha2 l hl)⟩, Nat.le_succ_of_le ho1, ho2⟩, by omega⟩, rfl, rfl⟩
      · refine sb_call 8 [0] hC rfl rfl (wnt_none rfl) Try.func68 rfl rfl rfl rfl rfl rfl rfl (one_sat (list := [_,_]) hc (by omega) (by simp) (by simp)) ?_
        rintro _ _ ⟨y18, hy18, rfl, rfl⟩
        refine ⟨Nat.le_of_ble_eq_true rfl, ⟨rfl, rfl, rfl, rfl⟩, .inl rfl, ?_⟩
        refine vb_stM ?_
        refine vb_light0 9 rfl rfl rfl (by kernel_rfl) (by kernel_rfl) (by kernel_rfl) (wnt_none rfl) (l0_build S73 rfl rfl) ?_
        refine vb_stM ?_
        refine vb_any3 1 5 10 (by kernel_rfl) ?_ ?_ ?_
        · refine sb_light 1 rfl rfl rfl (wnt_none rfl) (lb_load_var hC rfl rfl rfl rfl Try.underlying62 rfl rfl) ?_
          refine vb_any2 5 10 (by kernel_rfl) ?_ ?_
          · refine sb_extE 5 rfl (fun _ => rfl) (xt_load_take1 rfl rfl (by omega) Try.underlying84 rfl (attrs_at0 (by omega))) fun Rf15 => ?_
            refine vb_stM ?_
            refine vb_treeown 6 (by omega) rfl ?_
            refine vb_stM ?_
            refine vb_ext 10 rfl (by kernel_rfl) rfl (xt_buildSlice E84 rfl rfl rfl rfl) ?_
            refine vb_stM ?_
            refine vb_one 11 rfl (by kernel_rfl) rfl ?_
            refine vo_appendU E84 rfl (by omega) rfl rfl rfl sd sd fun Rt21 => ?_
            refine vo_stM ?_
            try simp only [app_ints, app_intss, app_bools, app_attrs3]
            refine vo_done ⟨rfl, ?_⟩
            refine vb_light0 12 rfl rfl rfl (by kernel_rfl) (by kernel_rfl) (by kernel_rfl) (wnt_none rfl) (l0_index_ref rfl rfl rfl E62.und inf84 sz84 sd sd) ?_
            try simp only [Int.toNat_natCast]
            refine vb_one 13 rfl (by kernel_rfl) rfl ?_
            refine vo_totree 6 rfl ((by first | exact plain_nilO _ | exact plain_nil1 | exact plain_attrs _ | exact plain_pairsX _)) ?_
            refine vo_stM ?_
            refine vo_weaktree 6 rfl ?_
            refine vo_stM ?_
            refine vo_put (p := .sl _ _ _) rfl rfl rfl rfl rfl rfl rfl hC rfl (by first | decide | simp [refsOf]) inf84 sz84 sd ?_
            refine vo_stM ?_
            try simp only [List.set_set, set_attrss]
            refine vo_done ⟨rfl, ?_⟩
            refine vb_nil (by kernel_rfl) ?_
            refine hK3 _ ?_
            refine vc_seq fun K22 hK22 => ?_
            refine vc_region ?_
            refine vo_load_varG rfl rfl rfl Try.underlying65 rfl inf65 sz65 rfl ?_
            refine vo_stM ?_
            refine vo_store_varG rfl rfl rfl rfl inf65 sz65 rfl ?_
            refine vo_stM ?_
            refine vo_nil ?_
            refine hK22 _ ?_
            refine vc_treeown 2 (by omega) rfl ?_
            refine vc_stM ?_
            refine vc_expose 2 (by omega) rfl ?_
            refine vc_stM ?_
            refine vc_treeown 3 (by omega) rfl ?_
            refine vc_stM ?_
            refine vc_expose 3 (by omega) rfl ?_
            refine vc_stM ?_
            refine vc_ret ?_
            change retQ _ _ _ _ _
            refine retQ_sel [] (srows := []) (.inr rfl) hC rfl rfl rfl rfl rfl rfl rfl ?_
            first
              | exact ⟨⟨W.bases, W.attrs.set 0 (W.attrs.getD 0 [] ++ [⟨y18, 1, 0⟩]), W.objs⟩, _, _, ⟨⟨⟨hb1, hb2, hb3⟩, ⟨by rw [List.length_set]; omega, set_all (fun l hl => Nat.le_succ_of_le (ha2 l hl)) (by rw [List.length_append, List.length_singleton]; have := getD_all (p := fun l : List AttrM => l.length ≤ 3) ha2 [] (by simp) 0; omega) 0⟩, Nat.le_succ_of_le ho1, ho2⟩, by omega⟩, rfl, rfl⟩
              | exact ⟨⟨W.bases, W.attrs, W.objs ++ [⟨y29, []⟩]⟩, _, _, ⟨⟨⟨hb1, hb2, hb3⟩, ⟨by show W.attrs.length ≤ 10; omega, fun l hl => Nat.le_succ_of_le (ha2 l hl)⟩, by rw [List.length_append, List.length_singleton]; omega, app_all ho2 (by simp)⟩, by omega⟩, rfl, rfl⟩
              | exact ⟨⟨W.bases, W.attrs ++ [[]], W.objs⟩, _, _, ⟨⟨⟨hb1, hb2, hb3⟩, ⟨by rw [List.length_append, List.length_singleton]; omega, app_all (fun l hl => Nat.le_succ_of_le (ha2 l hl)) (by simp)⟩, Nat.le_succ_of_le ho1, ho2⟩, by omega⟩, rfl, rfl⟩
              | exact ⟨⟨W.bases, W.attrs, W.objs⟩, _, _, ⟨⟨⟨hb1, hb2, hb3⟩, ⟨by show W.attrs.length ≤ 10; omega, fun l hl => Nat.le_succ_of_le (ha2 l hl)⟩, Nat.le_succ_of_le ho1, ho2⟩, by omega⟩, rfl, rfl⟩
          · refine sb_ext 10 rfl rfl (xt_buildSlice E84 rfl rfl rfl rfl) ?_
            refine vb_stM ?_
            refine vb_any1 5 (by kernel_rfl) ?_
            refine sb_extE 5 rfl (fun _ => rfl) (xt_load_take1 rfl rfl (by omega) Try.underlying84 rfl (attrs_at0 (by omega))) fun Rf15 => ?_
            refine vb_stM ?_
            refine vb_treeown 7 (by omega) rfl ?_
            refine vb_stM ?_
            refine vb_one 11 rfl (by kernel_rfl) rfl ?_
            refine vo_appendU E84 rfl (by omega) rfl rfl rfl sd sd fun Rt22 => ?_
            refine vo_stM ?_
            try simp only [app_ints, app_intss, app_bools, app_attrs3]
            refine vo_done ⟨rfl, ?_⟩
            refine vb_light0 12 rfl rfl rfl (by kernel_rfl) (by kernel_rfl) (by kernel_rfl) (wnt_none rfl) (l0_index_ref rfl rfl rfl E62.und inf84 sz84 sd sd) ?_
            try simp only [Int.toNat_natCast]
            refine vb_one 13 rfl (by kernel_rfl) rfl ?_
            refine vo_totree 7 rfl ((by first | exact plain_nilO _ | exact plain_nil1 | exact plain_attrs _ | exact plain_pairsX _)) ?_
            refine vo_stM ?_
            refine vo_weaktree 7 rfl ?_
            refine vo_stM ?_
            refine vo_put (p := .sl _ _ _) rfl rfl rfl rfl rfl rfl rfl hC rfl (by first | decide | simp [refsOf]) inf84 sz84 sd ?_
            refine vo_stM ?_
            try simp only [List.set_set, set_attrss]
            refine vo_done ⟨rfl, ?_⟩
            refine vb_nil (by kernel_rfl) ?_
            refine hK3 _ ?_
            refine vc_seq fun K23 hK23 => ?_
            refine vc_region ?_
            refine vo_load_varG rfl rfl rfl Try.underlying65 rfl inf65 sz65 rfl ?_
            refine vo_stM ?_
            refine vo_store_varG rfl rfl rfl rfl inf65 sz65 rfl ?_
            refine vo_stM ?_
            refine vo_nil ?_
            refine hK23 _ ?_
            refine vc_treeown 2 (by omega) rfl ?_
            refine vc_stM ?_
            refine vc_expose 2 (by omega) rfl ?_
            refine vc_stM ?_
            refine vc_treeown 3 (by omega) rfl ?_
            refine vc_stM ?_
            refine vc_expose 3 (by omega) rfl ?_
            refine vc_stM ?_
            refine vc_ret ?_
            change retQ _ _ _ _ _
            refine retQ_sel [] (srows := []) (.inr rfl) hC rfl rfl rfl rfl rfl rfl rfl ?_
            first
              | exact ⟨⟨W.bases, W.attrs.set 0 (W.attrs.getD 0 [] ++ [⟨y18, 1, 0⟩]), W.objs⟩, _, _, ⟨⟨⟨hb1, hb2, hb3⟩, ⟨by rw [List.length_set]; omega, set_all (fun l hl => Nat.le_succ_of_le (ha2 l hl)) (by rw [List.length_append, List.length_singleton]; have := getD_all (p := fun l : List AttrM => l.length ≤ 3) ha2 [] (by simp) 0; omega) 0⟩, Nat.le_succ_of_le ho1, ho2⟩, by omega⟩, rfl, rfl⟩
              | exact ⟨⟨W.bases, W.attrs, W.objs ++ [⟨y29, []⟩]⟩, _, _, ⟨⟨⟨hb1, hb2, hb3⟩, ⟨by show W.attrs.length ≤ 10; omega, fun l hl => Nat.le_succ_of_le (ha2 l hl)⟩, by rw [List.length_append, List.length_singleton]; omega, app_all ho2 (by simp)⟩, by omega⟩, rfl, rfl⟩
              | exact ⟨⟨W.bases, W.attrs ++ [[]], W.objs⟩, _, _, ⟨⟨⟨hb1, hb2, hb3⟩, ⟨by rw [List.length_append, List.length_singleton]; omega, app_all (fun l hl => Nat.le_succ_of_le (ha2 l hl)) (by simp)⟩, Nat.le_succ_of_le ho1, ho2⟩, by omega⟩, rfl, rfl⟩
              | exact ⟨⟨W.bases, W.attrs, W.objs⟩, _, _, ⟨⟨⟨hb1, hb2, hb3⟩, ⟨by show W.attrs.length ≤ 10; omega, fun l hl => Nat.le_succ_of_le (ha2 l hl)⟩, Nat.le_succ_of_le ho1, ho2⟩, by omega⟩, rfl, rfl⟩
        · refine sb_extE 5 rfl (fun _ => rfl) (xt_load_take1 rfl rfl (by omega) Try.underlying84 rfl (attrs_at0 (by omega))) fun Rf15 => ?_
          refine vb_stM ?_
          refine vb_treeown 6 (by omega) rfl ?_
          refine vb_stM ?_
          refine vb_any2 1 10 (by kernel_rfl) ?_ ?_
          · refine sb_light 1 rfl rfl rfl (wnt_none rfl) (lb_load_var hC rfl rfl rfl rfl Try.underlying62 rfl rfl) ?_
            refine vb_ext 10 rfl (by kernel_rfl) rfl (xt_buildSlice E84 rfl rfl rfl rfl) ?_
            refine vb_stM ?_
            refine vb_one 11 rfl (by kernel_rfl) rfl ?_
            refine vo_appendU E84 rfl (by omega) rfl rfl rfl sd sd fun Rt23 => ?_
            refine vo_stM ?_
            try simp only [app_ints, app_intss, app_bools, app_attrs3]
            refine vo_done ⟨rfl, ?_⟩
            refine vb_light0 12 rfl rfl rfl (by kernel_rfl) (by kernel_rfl) (by kernel_rfl) (wnt_none rfl) (l0_index_ref rfl rfl rfl E62.und inf84 sz84 sd sd) ?_
            try simp only [Int.toNat_natCast]
            refine vb_one 13 rfl (by kernel_rfl) rfl ?_
            refine vo_totree 6 rfl ((by first | exact plain_nilO _ | exact plain_nil1 | exact plain_attrs _ | exact plain_pairsX _)) ?_
            refine vo_stM ?_
            refine vo_weaktree 6 rfl ?_
            refine vo_stM ?_
            refine vo_put (p := .sl _ _ _) rfl rfl rfl rfl rfl rfl rfl hC rfl (by first | decide | simp [refsOf]) inf84 sz84 sd ?_
            refine vo_stM ?_
            try simp only [List.set_set, set_attrss]
            refine vo_done ⟨rfl, ?_⟩
            refine vb_nil (by kernel_rfl) ?_
            refine hK3 _ ?_
            refine vc_seq fun K24 hK24 => ?_
            refine vc_region ?_
            refine vo_load_varG rfl rfl rfl Try.underlying65 rfl inf65 sz65 rfl ?_
            refine vo_stM ?_
            refine vo_store_varG rfl rfl rfl rfl inf65 sz65 rfl ?_
            refine vo_stM ?_
            refine vo_nil ?_
            refine hK24 _ ?_
            refine vc_treeown 2 (by omega) rfl ?_
            refine vc_stM ?_
            refine vc_expose 2 (by omega) rfl ?_
            refine vc_stM ?_
            refine vc_treeown 3 (by omega) rfl ?_
            refine vc_stM ?_
            refine vc_expose 3 (by omega) rfl ?_
            refine vc_stM ?_
            refine vc_ret ?_
            change retQ _ _ _ _ _
            refine retQ_sel [] (srows := []) (.inr rfl) hC rfl rfl rfl rfl rfl rfl rfl ?_
            first
              | exact ⟨⟨W.bases, W.attrs.set 0 (W.attrs.getD 0 [] ++ [⟨y18, 1, 0⟩]), W.objs⟩, _, _, ⟨⟨⟨hb1, hb2, hb3⟩, ⟨by rw [List.length_set]; omega, set_all (fun l hl => Nat.le_succ_of_le (ha2 l hl)) (by rw [List.length_append, List.length_singleton]; have := getD_all (p := fun l : List AttrM => l.length ≤ 3) ha2 [] (by simp) 0; omega) 0⟩, Nat.le_succ_of_le ho1, ho2⟩, by omega⟩, rfl, rfl⟩
              | exact ⟨⟨W.bases, W.attrs, W.objs ++ [⟨y29, []⟩]⟩, _, _, ⟨⟨⟨hb1, hb2, hb3⟩, ⟨by show W.attrs.length ≤ 10; omega, fun l hl => Nat.le_succ_of_le (ha2 l hl)⟩, by rw [List.length_append, List.length_singleton]; omega, app_all ho2 (by simp)⟩, by omega⟩, rfl, rfl⟩
              | exact ⟨⟨W.bases, W.attrs ++ [[]], W.objs⟩, _, _, ⟨⟨⟨hb1, hb2, hb3⟩, ⟨by rw [List.length_append, List.length_singleton]; omega, app_all (fun l hl => Nat.le_succ_of_le (ha2 l hl)) (by simp)⟩, Nat.le_succ_of_le ho1, ho2⟩, by omega⟩, rfl, rfl⟩
              | exact ⟨⟨W.bases, W.attrs, W.objs⟩, _, _, ⟨⟨⟨hb1, hb2, hb3⟩, ⟨by show W.attrs.length ≤ 10; omega, fun l hl => Nat.le_succ_of_le (ha2 l hl)⟩, Nat.le_succ_of_le ho1, ho2⟩, by omega⟩, rfl, rfl⟩
          · refine sb_ext 10 rfl rfl (xt_buildSlice E84 rfl rfl rfl rfl) ?_
            refine vb_stM ?_
            refine vb_any2 1 11 (by kernel_rfl) ?_ ?_
            · refine sb_light 1 rfl rfl rfl (wnt_none rfl) (lb_load_var hC rfl rfl rfl rfl Try.underlying62 rfl rfl) ?_
              refine vb_one 11 rfl (by kernel_rfl) rfl ?_
              refine vo_appendU E84 rfl (by omega) rfl rfl rfl sd sd fun Rt24 => ?_
              refine vo_stM ?_
              try simp only [app_ints, app_intss, app_bools, app_attrs3]
              refine vo_done ⟨rfl, ?_⟩
              refine vb_light0 12 rfl rfl rfl (by kernel_rfl) (by kernel_rfl) (by kernel_rfl) (wnt_none rfl) (l0_index_ref rfl rfl rfl E62.und inf84 sz84 sd sd) ?_
              try simp only [Int.toNat_natCast]
              refine vb_one 13 rfl (by kernel_rfl) rfl ?_
              refine vo_totree 6 rfl ((by first | exact plain_nilO _ | exact plain_nil1 | exact plain_attrs _ | exact plain_pairsX _)) ?_
              refine vo_stM ?_
              refine vo_weaktree 6 rfl ?_
              refine vo_stM ?_
              refine vo_put (p := .sl _ _ _) rfl rfl rfl rfl rfl rfl rfl hC rfl (by first | decide | simp [refsOf]) inf84 sz84 sd ?_
              refine vo_stM ?_
              try simp only [List.set_set, set_attrss]
              refine vo_done ⟨rfl, ?_⟩
              refine vb_nil (by kernel_rfl) ?_
              refine hK3 _ ?_
              refine vc_seq fun K25 hK25 => ?_
              refine vc_region ?_
              refine vo_load_varG rfl rfl rfl Try.underlying65 rfl inf65 sz65 rfl ?_
              refine vo_stM ?_
              refine vo_store_varG rfl rfl rfl rfl inf65 sz65 rfl ?_
              refine vo_stM ?_
              refine vo_nil ?_
              refine hK25 _ ?_
              refine vc_treeown 2 (by omega) rfl ?_
              refine vc_stM ?_
              refine vc_expose 2 (by omega) rfl ?_
              refine vc_stM ?_
              refine vc_treeown 3 (by omega) rfl ?_
              refine vc_stM ?_
              refine vc_expose 3 (by omega) rfl ?_
              refine vc_stM ?_
              refine vc_ret ?_
              change retQ _ _ _ _ _
              refine retQ_sel [] (srows := []) (.inr rfl) hC rfl rfl rfl rfl rfl rfl rfl ?_
              first
                | exact ⟨⟨W.bases, W.attrs.set 0 (W.attrs.getD 0 [] ++ [⟨y18, 1, 0⟩]), W.objs⟩, _, _, ⟨⟨⟨hb1, hb2, hb3⟩, ⟨by rw [List.length_set]; omega, set_all (fun l hl => Nat.le_succ_of_le (ha2 l hl)) (by rw [List.length_append, List.length_singleton]; have := getD_all (p := fun l : List AttrM => l.length ≤ 3) ha2 [] (by simp) 0; omega) 0⟩, Nat.le_succ_of_le ho1, ho2⟩, by omega⟩, rfl, rfl⟩
                | exact ⟨⟨W.bases, W.attrs, W.objs ++ [⟨y29, []⟩]⟩, _, _, ⟨⟨⟨hb1, hb2, hb3⟩, ⟨by show W.attrs.length ≤ 10; omega, fun l hl => Nat.le_succ_of_le (ha2 l hl)⟩, by rw [List.length_append, List.length_singleton]; omega, app_all ho2 (by simp)⟩, by omega⟩, rfl, rfl⟩
                | exact ⟨⟨W.bases, W.attrs ++ [[]], W.objs⟩, _, _, ⟨⟨⟨hb1, hb2, hb3⟩, ⟨by rw [List.length_append, List.length_singleton]; omega, app_all (fun l hl => Nat.le_succ_of_le (ha2 l hl)) (by simp)⟩, Nat.le_succ_of_le ho1, ho2⟩, by omega⟩, rfl, rfl⟩
                | exact ⟨⟨W.bases, W.attrs, W.objs⟩, _, _, ⟨⟨⟨hb1, hb2, hb3⟩, ⟨by show W.attrs.length ≤ 10; omega, fun l hl => Nat.le_succ_of_le (ha2 l hl)⟩, Nat.le_succ_of_le ho1, ho2⟩, by omega⟩, rfl, rfl⟩
            · refine sb_one 11 rfl (by kernel_rfl) ?_
              refine vo_appendU E84 rfl (by omega) rfl rfl rfl sd sd fun Rt25 => ?_
              refine vo_stM ?_
              try simp only [app_ints, app_intss, app_bools, app_attrs3]
              refine vo_done ⟨rfl, ?_⟩
              refine vb_any1 1 (by kernel_rfl) ?_
              refine sb_light 1 rfl rfl rfl (wnt_none rfl) (lb_load_var hC rfl rfl rfl rfl Try.underlying62 rfl rfl) ?_
              refine vb_light0 12 rfl rfl rfl (by kernel_rfl) (by kernel_rfl) (by kernel_rfl) (wnt_none rfl) (l0_index_ref rfl rfl rfl E62.und inf84 sz84 sd sd) ?_
              try simp only [Int.toNat_natCast]
              refine vb_one 13 rfl (by kernel_rfl) rfl ?_
              refine vo_totree 6 rfl ((by first | exact plain_nilO _ | exact plain_nil1 | exact plain_attrs _ | exact plain_pairsX _)) ?_
              refine vo_stM ?_
              refine vo_weaktree 6 rfl ?_
              refine vo_stM ?_
              refine vo_put (p := .sl _ _ _) rfl rfl rfl rfl rfl rfl rfl hC rfl (by first | decide | simp [refsOf]) inf84 sz84 sd ?_
              refine vo_stM ?_
              try simp only [List.set_set, set_attrss]
              refine vo_done ⟨rfl, ?_⟩
              refine vb_nil (by kernel_rfl) ?_
              refine hK3 _ ?_
              refine vc_seq fun K26 hK26 => ?_
              refine vc_region ?_
              refine vo_load_varG rfl rfl rfl Try.underlying65 rfl inf65 sz65 rfl ?_
              refine vo_stM ?_
              refine vo_store_varG rfl rfl rfl rfl inf65 sz65 rfl ?_
              refine vo_stM ?_
              refine vo_nil ?_
              refine hK26 _ ?_
              refine vc_treeown 2 (by omega) rfl ?_
              refine vc_stM ?_
              refine vc_expose 2 (by omega) rfl ?_
              refine vc_stM ?_
              refine vc_treeown 3 (by omega) rfl ?_
              refine vc_stM ?_
              refine vc_expose 3 (by omega) rfl ?_
              refine vc_stM ?_
              refine vc_ret ?_
              change retQ _ _ _ _ _
              refine retQ_sel [] (srows := []) (.inr rfl) hC rfl rfl rfl rfl rfl rfl rfl ?_
              first
                | exact ⟨⟨W.bases, W.attrs.set 0 (W.attrs.getD 0 [] ++ [⟨y18, 1, 0⟩]), W.objs⟩, _, _, ⟨⟨⟨hb1, hb2, hb3⟩, ⟨by rw [List.length_set]; omega, set_all (fun l hl => Nat.le_succ_of_le (ha2 l hl)) (by rw [List.length_append, List.length_singleton]; have := getD_all (p := fun l : List AttrM => l.length ≤ 3) ha2 [] (by simp) 0; omega) 0⟩, Nat.le_succ_of_le ho1, ho2⟩, by omega⟩, rfl, rfl⟩
                | exact ⟨⟨W.bases, W.attrs, W.objs ++ [⟨y29, []⟩]⟩, _, _, ⟨⟨⟨hb1, hb2, hb3⟩, ⟨by show W.attrs.length ≤ 10; omega, fun l hl => Nat.le_succ_of_le (ha2 l hl)⟩, by rw [List.length_append, List.length_singleton]; omega, app_all ho2 (by simp)⟩, by omega⟩, rfl, rfl⟩
                | exact ⟨⟨W.bases, W.attrs ++ [[]], W.objs⟩, _, _, ⟨⟨⟨hb1, hb2, hb3⟩, ⟨by rw [List.length_append, List.length_singleton]; omega, app_all (fun l hl => Nat.le_succ_of_le (ha2 l hl)) (by simp)⟩, Nat.le_succ_of_le ho1, ho2⟩, by omega⟩, rfl, rfl⟩
                | exact ⟨⟨W.bases, W.attrs, W.objs⟩, _, _, ⟨⟨⟨hb1, hb2, hb3⟩, ⟨by show W.attrs.length ≤ 10; omega, fun l hl => Nat.le_succ_of_le (ha2 l hl)⟩, Nat.le_succ_of_le ho1, ho2⟩, by omega⟩, rfl, rfl⟩
        · refine sb_ext 10 rfl rfl (xt_buildSlice E84 rfl rfl rfl rfl) ?_
          refine vb_stM ?_
          refine vb_any2 1 5 (by kernel_rfl) ?_ ?_
          · refine sb_light 1 rfl rfl rfl (wnt_none rfl) (lb_load_var hC rfl rfl rfl rfl Try.underlying62 rfl rfl) ?_
            refine vb_any1 5 (by kernel_rfl) ?_
            refine sb_extE 5 rfl (fun _ => rfl) (xt_load_take1 rfl rfl (by omega) Try.underlying84 rfl (attrs_at0 (by omega))) fun Rf15 => ?_
            refine vb_stM ?_
            refine vb_treeown 7 (by omega) rfl ?_
            refine vb_stM ?_
            refine vb_one 11 rfl (by kernel_rfl) rfl ?_
            refine vo_appendU E84 rfl (by omega) rfl rfl rfl sd sd fun Rt26 => ?_
            refine vo_stM ?_
            try simp only [app_ints, app_intss, app_bools, app_attrs3]
            refine vo_done ⟨rfl, ?_⟩
            refine vb_light0 12 rfl rfl rfl (by kernel_rfl) (by kernel_rfl) (by kernel_rfl) (wnt_none rfl) (l0_index_ref rfl rfl rfl E62.und inf84 sz84 sd sd) ?_
            try simp only [Int.toNat_natCast]
            refine vb_one 13 rfl (by kernel_rfl) rfl ?_
            refine vo_totree 7 rfl ((by first | exact plain_nilO _ | exact plain_nil1 | exact plain_attrs _ | exact plain_pairsX _)) ?_
            refine vo_stM ?_
            refine vo_weaktree 7 rfl ?_
            refine vo_stM ?_
            refine vo_put (p := .sl _ _ _) rfl rfl rfl rfl rfl rfl rfl hC rfl (by first | decide | simp [refsOf]) inf84 sz84 sd ?_
            refine vo_stM ?_
            try simp only [List.set_set, set_attrss]
            refine vo_done ⟨rfl, ?_⟩
            refine vb_nil (by kernel_rfl) ?_
            refine hK3 _ ?_
            refine vc_seq fun K27 hK27 => ?_
            refine vc_region ?_
            refine vo_load_varG rfl rfl rfl Try.underlying65 rfl inf65 sz65 rfl ?_
            refine vo_stM ?_
            refine vo_store_varG rfl rfl rfl rfl inf65 sz65 rfl ?_
            refine vo_stM ?_
            refine vo_nil ?_
            refine hK27 _ ?_
            refine vc_treeown 2 (by omega) rfl ?_
            refine vc_stM ?_
            refine vc_expose 2 (by omega) rfl ?_
            refine vc_stM ?_
            refine vc_treeown 3 (by omega) rfl ?_
            refine vc_stM ?_
            refine vc_expose 3 (by omega) rfl ?_
            refine vc_stM ?_
            refine vc_ret ?_
            change retQ _ _ _ _ _
            refine retQ_sel [] (srows := []) (.inr rfl) hC rfl rfl rfl rfl rfl rfl rfl ?_
            first
              | exact ⟨⟨W.bases, W.attrs.set 0 (W.attrs.getD 0 [] ++ [⟨y18, 1, 0⟩]), W.objs⟩, _, _, ⟨⟨⟨hb1, hb2, hb3⟩, ⟨by rw [List.length_set]; omega, set_all (fun l hl => Nat.le_succ_of_le (ha2 l hl)) (by rw [List.length_append, List.length_singleton]; have := getD_all (p := fun l : List AttrM => l.length ≤ 3) ha2 [] (by simp) 0; omega) 0⟩, Nat.le_succ_of_le ho1, ho2⟩, by omega⟩, rfl, rfl⟩
              | exact ⟨⟨W.bases, W.attrs, W.objs ++ [⟨y29, []⟩]⟩, _, _, ⟨⟨⟨hb1, hb2, hb3⟩, ⟨by show W.attrs.length ≤ 10; omega, fun l hl => Nat.le_succ_of_le (ha2 l hl)⟩, by rw [List.length_append, List.length_singleton]; omega, app_all ho2 (by simp)⟩, by omega⟩, rfl, rfl⟩
              | exact ⟨⟨W.bases, W.attrs ++ [[]], W.objs⟩, _, _, ⟨⟨⟨hb1, hb2, hb3⟩, ⟨by rw [List.length_append, List.length_singleton]; omega, app_all (fun l hl => Nat.le_succ_of_le (ha2 l hl)) (by simp)⟩, Nat.le_succ_of_le ho1, ho2⟩, by omega⟩, rfl, rfl⟩
              | exact ⟨⟨W.bases, W.attrs, W.objs⟩, _, _, ⟨⟨⟨hb1, hb2, hb3⟩, ⟨by show W.attrs.length ≤ 10; omega, fun l hl => Nat.le_succ_of_le (ha2 l hl)⟩, Nat.le_succ_of_le ho1, ho2⟩, by omega⟩, rfl, rfl⟩
          · refine sb_extE 5 rfl (fun _ => rfl) (xt_load_take1 rfl rfl (by omega) Try.underlying84 rfl (attrs_at0 (by omega))) fun Rf15 => ?_
            refine vb_stM ?_
            refine vb_treeown 7 (by omega) rfl ?_
            refine vb_stM ?_
            refine vb_any2 1 11 (by kernel_rfl) ?_ ?_
            · refine sb_light 1 rfl rfl rfl (wnt_none rfl) (lb_load_var hC rfl rfl rfl rfl Try.underlying62 rfl rfl) ?_
              refine vb_one 11 rfl (by kernel_rfl) rfl ?_
              refine vo_appendU E84 rfl (by omega) rfl rfl rfl sd sd fun Rt27 => ?_
              refine vo_stM ?_
              try simp only [app_ints, app_intss, app_bools, app_attrs3]
              refine vo_done ⟨rfl, ?_⟩
              refine vb_light0 12 rfl rfl rfl (by kernel_rfl) (by kernel_rfl) (by kernel_rfl) (wnt_none rfl) (l0_index_ref rfl rfl rfl E62.und inf84 sz84 sd sd) ?_
              try simp only [Int.toNat_natCast]
              refine vb_one 13 rfl (by kernel_rfl) rfl ?_
              refine vo_totree 7 rfl ((by first | exact plain_nilO _ | exact plain_nil1 | exact plain_attrs _ | exact plain_pairsX _)) ?_
              refine vo_stM ?_
              refine vo_weaktree 7 rfl ?_
              refine vo_stM ?_
              refine vo_put (p := .sl _ _ _) rfl rfl rfl rfl rfl rfl rfl hC rfl (by first | decide | simp [refsOf]) inf84 sz84 sd ?_
              refine vo_stM ?_
              try simp only [List.set_set, set_attrss]
              refine vo_done ⟨rfl, ?_⟩
              refine vb_nil (by kernel_rfl) ?_
              refine hK3 _ ?_
              refine vc_seq fun K28 hK28 => ?_
              refine vc_region ?_
              refine vo_load_varG rfl rfl rfl Try.underlying65 rfl inf65 sz65 rfl ?_
              refine vo_stM ?_
              refine vo_store_varG rfl rfl rfl rfl inf65 sz65 rfl ?_
              refine vo_stM ?_
              refine vo_nil ?_
              refine hK28 _ ?_
              refine vc_treeown 2 (by omega) rfl ?_
              refine vc_stM ?_
              refine vc_expose 2 (by omega) rfl ?_
              refine vc_stM ?_
              refine vc_treeown 3 (by omega) rfl ?_
              refine vc_stM ?_
              refine vc_expose 3 (by omega) rfl ?_
              refine vc_stM ?_
              refine vc_ret ?_
              change retQ _ _ _ _ _
              refine retQ_sel [] (srows := []) (.inr rfl) hC rfl rfl rfl rfl rfl rfl rfl ?_
              first
                | exact ⟨⟨W.bases, W.attrs.set 0 (W.attrs.getD 0 [] ++ [⟨y18, 1, 0⟩]), W.objs⟩, _, _, ⟨⟨⟨hb1, hb2, hb3⟩, ⟨by rw [List.length_set]; omega, set_all (fun l hl => Nat.le_succ_of_le (ha2 l hl)) (by rw [List.length_append, List.length_singleton]; have := getD_all (p := fun l : List AttrM => l.length ≤ 3) ha2 [] (by simp) 0; omega) 0⟩, Nat.le_succ_of_le ho1, ho2⟩, by omega⟩, rfl, rfl⟩
                | exact ⟨⟨W.bases, W.attrs, W.objs ++ [⟨y29, []⟩]⟩, _, _, ⟨⟨⟨hb1, hb2, hb3⟩, ⟨by show W.attrs.length ≤ 10; omega, fun l hl => Nat.le_succ_of_le (ha2 l hl)⟩, by rw [List.length_append, List.length_singleton]; omega, app_all ho2 (by simp)⟩, by omega⟩, rfl, rfl⟩
                | exact ⟨⟨W.bases, W.attrs ++ [[]], W.objs⟩, _, _, ⟨⟨⟨hb1, hb2, hb3⟩, ⟨by rw [List.length_append, List.length_singleton]; omega, app_all (fun l hl => Nat.le_succ_of_le (ha2 l hl)) (by simp)⟩, Nat.le_succ_of_le ho1, ho2⟩, by omega⟩, rfl, rfl⟩
                | exact ⟨⟨W.bases, W.attrs, W.objs⟩, _, _, ⟨⟨⟨hb1, hb2, hb3⟩, ⟨by show W.attrs.length ≤ 10; omega, fun l hl => Nat.le_succ_of_le (ha2 l hl)⟩, Nat.le_succ_of_le ho1, ho2⟩, by omega⟩, rfl, rfl⟩
            · refine sb_one 11 rfl (by kernel_rfl) ?_
              refine vo_appendU E84 rfl (by omega) rfl rfl rfl sd sd fun Rt28 => ?_
              refine vo_stM ?_
              try simp only [app_ints, app_intss, app_bools, app_attrs3]
              refine vo_done ⟨rfl, ?_⟩
              refine vb_any1 1 (by kernel_rfl) ?_
              refine sb_light 1 rfl rfl rfl (wnt_none rfl) (lb_load_var hC rfl rfl rfl rfl Try.underlying62 rfl rfl) ?_
              refine vb_light0 12 rfl rfl rfl (by kernel_rfl) (by kernel_rfl) (by kernel_rfl) (wnt_none rfl) (l0_index_ref rfl rfl rfl E62.und inf84 sz84 sd sd) ?_
              try simp only [Int.toNat_natCast]
              refine vb_one 13 rfl (by kernel_rfl) rfl ?_
              refine vo_totree 7 rfl ((by first | exact plain_nilO _ | exact plain_nil1 | exact plain_attrs _ | exact plain_pairsX _)) ?_
              refine vo_stM ?_
              refine vo_weaktree 7 rfl ?_
              refine vo_stM ?_
              refine vo_put (p := .sl _ _ _) rfl rfl rfl rfl rfl rfl rfl hC rfl (by first | decide | simp [refsOf]) inf84 sz84 sd ?_
              refine vo_stM ?_
              try simp only [List.set_set, set_attrss]
              refine vo_done ⟨rfl, ?_⟩
              refine vb_nil (by kernel_rfl) ?_
              refine hK3 _ ?_
              refine vc_seq fun K29 hK29 => ?_
              refine vc_region ?_
              refine vo_load_varG rfl rfl rfl Try.underlying65 rfl inf65 sz65 rfl ?_
              refine vo_stM ?_
              refine vo_store_varG rfl rfl rfl rfl inf65 sz65 rfl ?_
              refine vo_stM ?_
              refine vo_nil ?_
              refine hK29 _ ?_
              refine vc_treeown 2 (by omega) rfl ?_
              refine vc_stM ?_
              refine vc_expose 2 (by omega) rfl ?_
              refine vc_stM ?_
              refine vc_treeown 3 (by omega) rfl ?_
              refine vc_stM ?_
              refine vc_expose 3 (by omega) rfl ?_
              refine vc_stM ?_
              refine vc_ret ?_
              change retQ _ _ _ _ _
              refine retQ_sel [] (srows := []) (.inr rfl) hC rfl rfl rfl rfl rfl rfl rfl ?_
              first
                | exact ⟨⟨W.bases, W.attrs.set 0 (W.attrs.getD 0 [] ++ [⟨y18, 1, 0⟩]), W.objs⟩, _, _, ⟨⟨⟨hb1, hb2, hb3⟩, ⟨by rw [List.length_set]; omega, set_all (fun l hl => Nat.le_succ_of_le (ha2 l hl)) (by rw [List.length_append, List.length_singleton]; have := getD_all (p := fun l : List AttrM => l.length ≤ 3) ha2 [] (by simp) 0; omega) 0⟩, Nat.le_succ_of_le ho1, ho2⟩, by omega⟩, rfl, rfl⟩
                | exact ⟨⟨W.bases, W.attrs, W.objs ++ [⟨y29, []⟩]⟩, _, _, ⟨⟨⟨hb1, hb2, hb3⟩, ⟨by show W.attrs.length ≤ 10; omega, fun l hl => Nat.le_succ_of_le (ha2 l hl)⟩, by rw [List.length_append, List.length_singleton]; omega, app_all ho2 (by simp)⟩, by omega⟩, rfl, rfl⟩
                | exact ⟨⟨W.bases, W.attrs ++ [[]], W.objs⟩, _, _, ⟨⟨⟨hb1, hb2, hb3⟩, ⟨by rw [List.length_append, List.length_singleton]; omega, app_all (fun l hl => Nat.le_succ_of_le (ha2 l hl)) (by simp)⟩, Nat.le_succ_of_le ho1, ho2⟩, by omega⟩, rfl, rfl⟩
                | exact ⟨⟨W.bases, W.attrs, W.objs⟩, _, _, ⟨⟨⟨hb1, hb2, hb3⟩, ⟨by show W.attrs.length ≤ 10; omega, fun l hl => Nat.le_succ_of_le (ha2 l hl)⟩, Nat.le_succ_of_le ho1, ho2⟩, by omega⟩, rfl, rfl⟩
  · try simp only [decide_eq_true_eq, decide_eq_false_iff_not, beq_iff_eq, bne_iff_ne, beq_eq_false_iff_ne, bne_eq_false_iff_eq, Bool.not_eq_true, Bool.not_eq_false, Bool.not_eq_eq_eq_not, Bool.not_true, Bool.not_false, List.length_map, Int.not_lt, Int.not_le, ne_eq, Decidable.not_not] at hc1
    refine vc_seq fun K30 hK30 => ?_
    refine vc_region ?_
    refine vo_binI rfl rfl rfl rfl trivial ?_
    refine vo_assign_pv rfl rfl ?_
    refine vo_nil ?_
    refine hK30 _ ?_
    refine vc_cond rfl (fun hc2 => ?_) (fun hc2 => ?_)
    · try simp only [decide_eq_true_eq, decide_eq_false_iff_not, beq_iff_eq, bne_iff_ne, beq_eq_false_iff_ne, bne_eq_false_iff_eq, Bool.not_eq_true, Bool.not_eq_false, Bool.not_eq_eq_eq_not, Bool.not_true, Bool.not_false, List.length_map, Int.not_lt, Int.not_le, ne_eq, Decidable.not_not] at hc2
      refine vc_drawB [7, 9] (by kernel_rfl) ?_
      change VLB [7, 9] _ _ _ 10 _ _ _
      refine vb_light0 0 rfl rfl rfl (by kernel_rfl) (by kernel_rfl) (by kernel_rfl) (wnt_none rfl) (l0_fieldAddr_ptr rfl Try.underlying65 rfl inf63 (by rw [sz63]; decide)) ?_
      try simp only [Nat.zero_add]
      refine vb_light 1 [0, 2, 3, 4, 5, 6] rfl rfl rfl (by kernel_rfl) (by kernel_rfl) (by kernel_rfl) (by kernel_rfl) (by kernel_rfl) (wnt_none rfl) (lb_load_var hC rfl rfl rfl rfl Try.underlying63 rfl rfl) ?_
      refine vb_light0 2 rfl rfl rfl (by kernel_rfl) (by kernel_rfl) (by kernel_rfl) (wnt_none rfl) (l0_move_ptr rfl) ?_
      refine vb_ext 3 rfl (by kernel_rfl) rfl (xt_buildSlice E36 rfl rfl rfl rfl) ?_
      refine vb_stM ?_
      refine vb_expose 5 (by omega) rfl ?_
      refine vb_stM ?_
      refine vb_weaken 28 rfl ?_
      refine vb_stM ?_
      refine vb_any1 4 (by kernel_rfl) ?_
      refine sb_call 4 [0] hC rfl rfl (wnt_none rfl) Try.func68 rfl rfl rfl rfl rfl rfl rfl (one_sat (list := [_,_]) hc (by omega) (by simp) (by simp)) ?_
      rintro _ _ ⟨y29, hy29, rfl, rfl⟩
      refine ⟨Nat.le_of_ble_eq_true rfl, ⟨rfl, rfl, rfl, rfl⟩, .inl rfl, ?_⟩
      refine vb_stM ?_
      refine vb_light0 5 rfl rfl rfl (by kernel_rfl) (by kernel_rfl) (by kernel_rfl) (wnt_none rfl) (l0_build S118n rfl rfl) ?_
      refine vb_stM ?_
      refine vb_ext 6 rfl (by kernel_rfl) rfl (xt_buildSlice E63 rfl rfl rfl rfl) ?_
      refine vb_stM ?_
      refine vb_one 7 rfl (by kernel_rfl) rfl ?_
      refine vo_totree 6 rfl ((by first | exact plain_nilO _ | exact plain_nil1 | exact plain_attrs _ | exact plain_pairsX _)) ?_
      refine vo_stM ?_
      refine vo_append_treeG E63 rfl (by omega) (by omega) rfl rfl rfl rfl rfl sd sd sd ?_
      refine vo_stM ?_
      try simp only [app_ints, app_intss, app_bools, app_attrs3]
      refine vo_nilcell 3 (W.objs.length) 1 2 (p' := .agg _) rfl (get_endP _ _ _) rfl rfl ?_
      refine vo_stM ?_
      try simp only [PV.cells, List.set_cons_succ, List.set_cons_zero, set_endO]
      refine vo_done ⟨rfl, ?_⟩
      refine vb_light0 8 rfl rfl rfl (by kernel_rfl) (by kernel_rfl) (by kernel_rfl) (wnt_none rfl) (l0_fieldAddr_ptr rfl Try.underlying65 rfl inf63 (by rw [sz63]; decide)) ?_
      try simp only [Nat.zero_add]
      refine vb_one 9 rfl (by kernel_rfl) rfl ?_
      refine vo_store_varG rfl rfl rfl rfl inf63 sz63 rfl ?_
      refine vo_stM ?_
      refine vo_done ⟨rfl, ?_⟩
      refine vb_nil (by kernel_rfl) ?_
      refine hK3 _ ?_
      refine vc_seq fun K31 hK31 => ?_
      refine vc_region ?_
      refine vo_load_varG rfl rfl rfl Try.underlying65 rfl inf65 sz65 rfl ?_
      refine vo_stM ?_
      refine vo_store_varG rfl rfl rfl rfl inf65 sz65 rfl ?_
      refine vo_stM ?_
      refine vo_nil ?_
      refine hK31 _ ?_
      refine vc_treeown 2 (by omega) rfl ?_
      refine vc_stM ?_
      refine vc_expose 2 (by omega) rfl ?_
      refine vc_stM ?_
      refine vc_treeown 3 (by omega) rfl ?_
      refine vc_stM ?_
      refine vc_expose 3 (by omega) rfl ?_
      refine vc_stM ?_
      refine vc_ret ?_
      change retQ _ _ _ _ _
      refine retQ_sel [] (srows := []) (.inr rfl) hC rfl rfl rfl rfl rfl rfl rfl ?_
      first
        | exact ⟨⟨W.bases, W.attrs.set 0 (W.attrs.getD 0 [] ++ [⟨y18, 1, 0⟩]), W.objs⟩, _, _, ⟨⟨⟨hb1, hb2, hb3⟩, ⟨by rw [List.length_set]; omega, set_all (fun l hl => Nat.le_succ_of_le (ha2 l hl)) (by rw [List.length_append, List.length_singleton]; have := getD_all (p := fun l : List AttrM => l.length ≤ 3) ha2 [] (by simp) 0; omega) 0⟩, Nat.le_succ_of_le ho1, ho2⟩, by omega⟩, rfl, rfl⟩
        | exact ⟨⟨W.bases, W.attrs, W.objs ++ [⟨y29, []⟩]⟩, _, _, ⟨⟨⟨hb1, hb2, hb3⟩, ⟨by show W.attrs.length ≤ 10; omega, fun l hl => Nat.le_succ_of_le (ha2 l hl)⟩, by rw [List.length_append, List.length_singleton]; omega, app_all ho2 (by simp)⟩, by omega⟩, rfl, rfl⟩
        | exact ⟨⟨W.bases, W.attrs ++ [[]], W.objs⟩, _, _, ⟨⟨⟨hb1, hb2, hb3⟩, ⟨by rw [List.length_append, List.length_singleton]; omega, app_all (fun l hl => Nat.le_succ_of_le (ha2 l hl)) (by simp)⟩, Nat.le_succ_of_le ho1, ho2⟩, by omega⟩, rfl, rfl⟩
        | exact ⟨⟨W.bases, W.attrs, W.objs⟩, _, _, ⟨⟨⟨hb1, hb2, hb3⟩, ⟨by show W.attrs.length ≤ 10; omega, fun l hl => Nat.le_succ_of_le (ha2 l hl)⟩, Nat.le_succ_of_le ho1, ho2⟩, by omega⟩, rfl, rfl⟩
    · try simp only [decide_eq_true_eq, decide_eq_false_iff_not, beq_iff_eq, bne_iff_ne, beq_eq_false_iff_ne, bne_eq_false_iff_eq, Bool.not_eq_true, Bool.not_eq_false, Bool.not_eq_eq_eq_not, Bool.not_true, Bool.not_false, List.length_map, Int.not_lt, Int.not_le, ne_eq, Decidable.not_not] at hc2
      refine vc_seq fun K32 hK32 => ?_
      refine vc_region ?_
      refine vo_binI rfl rfl rfl rfl trivial ?_
      refine vo_assign_pv rfl rfl ?_
      refine vo_nil ?_
      refine hK32 _ ?_
      refine vc_cond rfl (fun hc3 => ?_) (fun hc3 => ?_)
      · try simp only [decide_eq_true_eq, decide_eq_false_iff_not, beq_iff_eq, bne_iff_ne, beq_eq_false_iff_ne, bne_eq_false_iff_eq, Bool.not_eq_true, Bool.not_eq_false, Bool.not_eq_eq_eq_not, Bool.not_true, Bool.not_false, List.length_map, Int.not_lt, Int.not_le, ne_eq, Decidable.not_not] at hc3
        refine vc_region ?_
        refine vo_fieldAddr_ptr rfl rfl Try.underlying65 rfl inf62 (by rw [sz62]; decide) ?_
        try simp only [Nat.zero_add]
        refine vo_load_var rfl rfl rfl Try.underlying62 rfl rfl ?_
        refine vo_buildSlice E62 rfl rfl rfl rfl rfl ?_
        refine vo_stM ?_
        refine vo_totree 5 rfl ((by first | exact plain_nilO _ | exact plain_nil1 | exact plain_attrs _ | exact plain_pairsX _)) ?_
        refine vo_stM ?_
        refine vo_append_treeG E62 rfl (by omega) (by omega) rfl rfl rfl rfl rfl sd sd sd ?_
        refine vo_stM ?_
        try simp only [app_ints, app_intss, app_bools, app_attrs3]
        refine vo_nilcell 2 (W.attrs.length) 0 3 (p' := .sl none 3 []) rfl (get_endP _ _ _) rfl rfl ?_
        refine vo_stM ?_
        try simp only [set_endA]
        refine vo_fieldAddr_ptr rfl rfl Try.underlying65 rfl inf62 (by rw [sz62]; decide) ?_
        try simp only [Nat.zero_add]
        refine vo_store_varG rfl rfl rfl rfl inf62 sz62 rfl ?_
        refine vo_stM ?_
        refine vo_nil ?_
        refine hK3 _ ?_
        refine vc_seq fun K33 hK33 => ?_
        refine vc_region ?_
        refine vo_load_varG rfl rfl rfl Try.underlying65 rfl inf65 sz65 rfl ?_
        refine vo_stM ?_
        refine vo_store_varG rfl rfl rfl rfl inf65 sz65 rfl ?_
        refine vo_stM ?_
        refine vo_nil ?_
        refine hK33 _ ?_
        refine vc_treeown 2 (by omega) rfl ?_
        refine vc_stM ?_
        refine vc_expose 2 (by omega) rfl ?_
        refine vc_stM ?_
        refine vc_treeown 3 (by omega) rfl ?_
        refine vc_stM ?_
        refine vc_expose 3 (by omega) rfl ?_
        refine vc_stM ?_
        refine vc_ret ?_
        change retQ _ _ _ _ _
        refine retQ_sel [] (srows := []) (.inr rfl) hC rfl rfl rfl rfl rfl rfl rfl ?_
        first
          | exact ⟨⟨W.bases, W.attrs.set 0 (W.attrs.getD 0 [] ++ [⟨y18, 1, 0⟩]), W.objs⟩, _, _, ⟨⟨⟨hb1, hb2, hb3⟩, ⟨by rw [List.length_set]; omega, set_all (fun l hl => Nat.le_succ_of_le (ha2 l hl)) (by rw [List.length_append, List.length_singleton]; have := getD_all (p := fun l : List AttrM => l.length ≤ 3) ha2 [] (by simp) 0; omega) 0⟩, Nat.le_succ_of_le ho1, ho2⟩, by omega⟩, rfl, rfl⟩
          | exact ⟨⟨W.bases, W.attrs, W.objs ++ [⟨y29, []⟩]⟩, _, _, ⟨⟨⟨hb1, hb2, hb3⟩, ⟨by show W.attrs.length ≤ 10; omega, fun l hl => Nat.le_succ_of_le (ha2 l hl)⟩, by rw [List.length_append, List.length_singleton]; omega, app_all ho2 (by simp)⟩, by omega⟩, rfl, rfl⟩
          | exact ⟨⟨W.bases, W.attrs ++ [[]], W.objs⟩, _, _, ⟨⟨⟨hb1, hb2, hb3⟩, ⟨by rw [List.length_append, List.length_singleton]; omega, app_all (fun l hl => Nat.le_succ_of_le (ha2 l hl)) (by simp)⟩, Nat.le_succ_of_le ho1, ho2⟩, by omega⟩, rfl, rfl⟩
          | exact ⟨⟨W.bases, W.attrs, W.objs⟩, _, _, ⟨⟨⟨hb1, hb2, hb3⟩, ⟨by show W.attrs.length ≤ 10; omega, fun l hl => Nat.le_succ_of_le (ha2 l hl)⟩, Nat.le_succ_of_le ho1, ho2⟩, by omega⟩, rfl, rfl⟩
      · try simp only [decide_eq_true_eq, decide_eq_false_iff_not, beq_iff_eq, bne_iff_ne, beq_eq_false_iff_ne, bne_eq_false_iff_eq, Bool.not_eq_true, Bool.not_eq_false, Bool.not_eq_eq_eq_not, Bool.not_true, Bool.not_false, List.length_map, Int.not_lt, Int.not_le, ne_eq, Decidable.not_not] at hc3
        refine vc_skip ?_
        refine hK3 _ ?_
        refine vc_seq fun K34 hK34 => ?_
        refine vc_region ?_
        refine vo_load_varG rfl rfl rfl Try.underlying65 rfl inf65 sz65 rfl ?_
        refine vo_stM ?_
        refine vo_store_varG rfl rfl rfl rfl inf65 sz65 rfl ?_
        refine vo_stM ?_
        refine vo_nil ?_
        refine hK34 _ ?_
        refine vc_treeown 2 (by omega) rfl ?_
        refine vc_stM ?_
        refine vc_expose 2 (by omega) rfl ?_
        refine vc_stM ?_
        refine vc_treeown 3 (by omega) rfl ?_
        refine vc_stM ?_
        refine vc_expose 3 (by omega) rfl ?_
        refine vc_stM ?_
        refine vc_ret ?_
        change retQ _ _ _ _ _
        refine retQ_sel [] (srows := []) (.inr rfl) hC rfl rfl rfl rfl rfl rfl rfl ?_
        first
          | exact ⟨⟨W.bases, W.attrs.set 0 (W.attrs.getD 0 [] ++ [⟨y18, 1, 0⟩]), W.objs⟩, _, _, ⟨⟨⟨hb1, hb2, hb3⟩, ⟨by rw [List.length_set]; omega, set_all (fun l hl => Nat.le_succ_of_le (ha2 l hl)) (by rw [List.length_append, List.length_singleton]; have := getD_all (p := fun l : List AttrM => l.length ≤ 3) ha2 [] (by simp) 0; omega) 0⟩, Nat.le_succ_of_le ho1, ho2⟩, by omega⟩, rfl, rfl⟩
          | exact ⟨⟨W.bases, W.attrs, W.objs ++ [⟨y29, []⟩]⟩, _, _, ⟨⟨⟨hb1, hb2, hb3⟩, ⟨by show W.attrs.length ≤ 10; omega, fun l hl => Nat.le_succ_of_le (ha2 l hl)⟩, by rw [List.length_append, List.length_singleton]; omega, app_all ho2 (by simp)⟩, by omega⟩, rfl, rfl⟩
          | exact ⟨⟨W.bases, W.attrs ++ [[]], W.objs⟩, _, _, ⟨⟨⟨hb1, hb2, hb3⟩, ⟨by rw [List.length_append, List.length_singleton]; omega, app_all (fun l hl => Nat.le_succ_of_le (ha2 l hl)) (by simp)⟩, Nat.le_succ_of_le ho1, ho2⟩, by omega⟩, rfl, rfl⟩
          | exact ⟨⟨W.bases, W.attrs, W.objs⟩, _, _, ⟨⟨⟨hb1, hb2, hb3⟩, ⟨by show W.attrs.length ≤ 10; omega, fun l hl => Nat.le_succ_of_le (ha2 l hl)⟩, Nat.le_succ_of_le ho1, ho2⟩, by omega⟩, rfl, rfl⟩

end Go.Vl

/- Arguments of which less is said: what a contract says of those holds of them. -/
namespace Go.Vl
set_option linter.unusedVariables false
set_option linter.unusedSimpArgs false
open Go.RowKit

mutual
def PV.wk : PV → PV
  | .sl _ e xs => .sl none e (PV.wks xs)
  | .agg cs => .agg (PV.wks cs)
  | p => p
def PV.wks : List PV → List PV
  | [] => []
  | x :: xs => x.wk :: PV.wks xs
end
theorem PV.wks_map : ∀ l : List PV, PV.wks l = l.map PV.wk
  | [] => by simp [PV.wks]
  | x :: l => by simp [PV.wks, PV.wks_map l]
theorem PV.wk_sl (nl : Option Bool) (e : Nat) (xs : List PV) : (PV.sl nl e xs).wk = .sl none e (xs.map PV.wk) := by simp [PV.wk, PV.wks_map]
theorem PV.wk_agg (cs : List PV) : (PV.agg cs).wk = .agg (cs.map PV.wk) := by simp [PV.wk, PV.wks_map]
theorem PV.wk_int (k : IntKind) (n : Int) : (PV.int k n).wk = .int k n := by simp [PV.wk]
theorem PV.wk_bool (b : Bool) : (PV.bool b).wk = .bool b := by simp [PV.wk]
theorem PV.wk_isAgg (p : PV) : p.wk.isAgg = p.isAgg := by cases p <;> simp [PV.wk, PV.isAgg]
theorem PV.wk_cells (p : PV) : p.wk.cells = p.cells.map PV.wk := by
  cases p <;> simp [PV.wk, PV.cells, PV.wks_map]
theorem PV.wk_fits {p : PV} {e : Nat} (h : p.fits e) : p.wk.fits e := by
  refine ⟨by rw [PV.wk_cells, List.length_map]; exact h.1, fun j c hc => ?_⟩
  rw [PV.wk_cells] at hc
  simp only [List.getElem?_map, Option.map_eq_some_iff] at hc
  obtain ⟨c', hc', rfl⟩ := hc
  rw [PV.wk_isAgg]; exact h.2 j c' hc'
theorem RP.wk {w : World} {G : Nat → Prop} {p : PV} {v : Value} (h : RP w G p v) : RP w G p.wk v := by
  induction h with
  | int k n => rw [PV.wk_int]; exact .int k n
  | bool b => rw [PV.wk_bool]; exact .bool b
  | str s => simp only [PV.wk]; exact .str s
  | nilsl nl e h => rw [PV.wk_sl]; exact .nilsl none e (by simp)
  | sl nl e xs a len cap f h hs hl hcap hg hw hc hr ih =>
    rw [PV.wk_sl]
    refine .sl none e _ a len cap f (by simp) (fun h => hs (by simpa using h)) (by simpa using hl) hcap (fun h => hg (by simpa using h)) (fun i x hx => ?_) (fun i x j c hx hcj => ?_) (fun i x j c hx hcj => ?_)
    · simp only [List.getElem?_map, Option.map_eq_some_iff] at hx
      obtain ⟨x', hx', rfl⟩ := hx
      exact PV.wk_fits (hw i x' hx')
    · simp only [List.getElem?_map, Option.map_eq_some_iff] at hx
      obtain ⟨x', hx', rfl⟩ := hx
      rw [PV.wk_cells] at hcj
      simp only [List.getElem?_map, Option.map_eq_some_iff] at hcj
      obtain ⟨c', hc', rfl⟩ := hcj
      exact hc i x' j c' hx' hc'
    · simp only [List.getElem?_map, Option.map_eq_some_iff] at hx
      obtain ⟨x', hx', rfl⟩ := hx
      rw [PV.wk_cells] at hcj
      simp only [List.getElem?_map, Option.map_eq_some_iff] at hcj
      obtain ⟨c', hc', rfl⟩ := hcj
      exact ih i x' j c' hx' hc'
  | agg cs vs hl h1 h ih =>
    rw [PV.wk_agg]
    refine .agg _ vs (by simpa using hl) (fun j c hc => ?_) (fun j c v hc hv => ?_)
    · simp only [List.getElem?_map, Option.map_eq_some_iff] at hc
      obtain ⟨c', hc', rfl⟩ := hc
      rw [PV.wk_isAgg]; exact h1 j c' hc'
    · simp only [List.getElem?_map, Option.map_eq_some_iff] at hc
      obtain ⟨c', hc', rfl⟩ := hc
      exact ih j c' v hc' hv
  | gone v h => simp only [PV.wk]; exact .gone v h
  | ifc t p v h ih => simp only [PV.wk]; exact .ifc t p v h
  | nilifc => simp only [PV.wk]; exact .nilifc

def SV.wk : SV → SV
  | .pv f p => .pv f p.wk
  | s => s

theorem SatAt.wk {P : Program} {f : FuncId} {args args2 : List SV} {rows : List Row} {R : List SV → List Row → Prop} (e : args.map SV.wk = args2) (h : SatAt P f args2 rows R) : SatAt P f args rows R := by
  subst e
  intro C m vals hnb hA hv hs
  refine h C m vals hnb hA (by simpa using hv) { hs with env := fun t => ?_ }
  have := hs.env t
  show RS _ _ _ _ (look (enumE 0 (args.map SV.wk)) t) _
  change RS _ _ _ _ (look (enumE 0 args) t) _ at this
  rw [look_enumE] at this ⊢
  simp only [Nat.zero_le, if_true, Nat.sub_zero, List.getElem?_map] at this ⊢
  cases ht : args[t]? with
  | none => rw [ht] at this; simpa using this
  | some x =>
    rw [ht] at this
    simp only [Option.getD_some, Option.map_some] at this ⊢
    generalize vals.getD t undef = v at this ⊢
    cases this with
    | pv fr p v hp => exact .pv _ _ _ hp.wk
    | any v => exact .any v
    | val u => exact .val _
    | und => exact .und
    | ref id h => exact .ref id h
    | ptr id e i o b hid h => exact .ptr id e i o b hid h
    | adr fr cs a f hs hg h1 hc hr => exact .adr fr cs a f hs hg h1 hc hr
    | tup vs us hl h => exact .tup vs us hl h
    | ag vs us hl h h1 => exact .ag vs us hl h h1
    | sub id e l h c v hid hs => exact .sub id e l h c _ hid hs
end Go.Vl

/- '==' and '!=' on structs of three and four numbers. -/
namespace Go.Vl
set_option linter.unusedVariables false
set_option linter.unusedSimpArgs false
open Go.RowKit

/-- Structs of 3 numbers are compared number by number. -/
def EqI3 (P : Program) (T : TypeId) : Prop :=
  (∀ (x1 x2 x3 y1 y2 y3 : Int) (w : World), (Op.equalIn 10000 T (.agg #[.int .i64 x1, .int .i64 x2, .int .i64 x3]) (.agg #[.int .i64 y1, .int .i64 y2, .int .i64 y3])).run P w = .ok (x1 == y1 && x2 == y2 && x3 == y3) w) ∧ P.eqGuardType P.depth T = false

theorem RP.agg3 {w : World} {G : Nat → Prop} {a1 a2 a3 : Int} {v : Value} (h : RP w G (.agg [.int .i64 a1, .int .i64 a2, .int .i64 a3]) v) : v = .agg #[.int .i64 a1, .int .i64 a2, .int .i64 a3] := by
  cases h with
  | agg _ vs hl h1 h =>
    simp only [List.length_cons, List.length_nil] at hl
    have e0 : vs[0]? = some vs[0] := Array.getElem?_eq_getElem (by omega)
    have e1 : vs[1]? = some vs[1] := Array.getElem?_eq_getElem (by omega)
    have e2 : vs[2]? = some vs[2] := Array.getElem?_eq_getElem (by omega)
    have h10 := h 0 _ _ rfl e0
    have h11 := h 1 _ _ rfl e1
    have h12 := h 2 _ _ rfl e2
    have k0 : vs[0] = .int .i64 a1 := by generalize vs[0] = u at h10; cases h10; rfl
    have k1 : vs[1] = .int .i64 a2 := by generalize vs[1] = u at h11; cases h11; rfl
    have k2 : vs[2] = .int .i64 a3 := by generalize vs[2] = u at h12; cases h12; rfl
    congr 1
    apply Array.ext
    · simp; omega
    · intro i hi hi2
      match i, hi with
      | 0, _ => exact k0
      | 1, _ => exact k1
      | 2, _ => exact k2
      | i+3, hi => omega

section
variable {P : Program} {C : Ctx} {Q : Go.Exit → St → Prop} {s : St} {ops : Array Oper} {rest : List Oper} {t : Nat} {ty : TypeId} {pos : String} {af : Array Edge}

theorem lt_eqS3 {xt yt : TypeId} {x y : Operand} {a1 a2 a3 b1 b2 b3 : Int} {f1 f2 : Bool} (h : EqI3 P xt) (hx : getO s.env x = .pv f1 (.agg [.int .i64 a1, .int .i64 a2, .int .i64 a3])) (hy : getO s.env y = .pv f2 (.agg [.int .i64 b1, .int .i64 b2, .int .i64 b3])) :
    Lt P C s ⟨some t, .binOp .eql xt x y yt, ty, pos, af, none⟩ (.pv true (.bool (a1 == b1 && a2 == b2 && a3 == b3))) := by
  intro m a w hs
  have e1 := hs.get x
  rw [hx] at e1
  have e1 := e1.pv_inv.agg3
  have e2 := hs.get y
  rw [hy] at e2
  have e2 := e2.pv_inv.agg3
  refine ⟨_, fun w' _ => ?_, .pv _ _ _ (.bool _)⟩
  have hg : (eqGuard .eql xt x y (.agg #[.int .i64 a1, .int .i64 a2, .int .i64 a3]) (.agg #[.int .i64 b1, .int .i64 b2, .int .i64 b3])).run P w' = .ok () w' := run_eqGuard_agg w' .eql xt x y _ _ h.2
  have hb : (binOp .eql xt (.agg #[.int .i64 a1, .int .i64 a2, .int .i64 a3]) (.agg #[.int .i64 b1, .int .i64 b2, .int .i64 b3])).run P w' = .ok (.bool (a1 == b1 && a2 == b2 && a3 == b3)) w' := by
    rw [run_eql_struct, h.1]; rfl
  simp only [execOp, e1, e2, Sem.run_bind, hg, Result.andThen_ok, hb]
  rfl

theorem vo_eqS3 {xt yt : TypeId} {x y : Operand} {a1 a2 a3 b1 b2 b3 : Int} {f1 f2 : Bool} (h : EqI3 P xt) (ht : Nat.blt t s.n = true) (hx : getO s.env x = .pv f1 (.agg [.int .i64 a1, .int .i64 a2, .int .i64 a3])) (hy : getO s.env y = .pv f2 (.agg [.int .i64 b1, .int .i64 b2, .int .i64 b3]))
    (next : VO P C ops rest Q (s.put t (.pv true (.bool (a1 == b1 && a2 == b2 && a3 == b3))))) : VO P C ops (⟨some t, .binOp .eql xt x y yt, ty, pos, af, none⟩ :: rest) Q s :=
  vo_pure ht (lt_eqS3 h hx hy) next

theorem lt_neqS3 {xt yt : TypeId} {x y : Operand} {a1 a2 a3 b1 b2 b3 : Int} {f1 f2 : Bool} (h : EqI3 P xt) (hx : getO s.env x = .pv f1 (.agg [.int .i64 a1, .int .i64 a2, .int .i64 a3])) (hy : getO s.env y = .pv f2 (.agg [.int .i64 b1, .int .i64 b2, .int .i64 b3])) :
    Lt P C s ⟨some t, .binOp .neq xt x y yt, ty, pos, af, none⟩ (.pv true (.bool (!(a1 == b1 && a2 == b2 && a3 == b3)))) := by
  intro m a w hs
  have e1 := hs.get x
  rw [hx] at e1
  have e1 := e1.pv_inv.agg3
  have e2 := hs.get y
  rw [hy] at e2
  have e2 := e2.pv_inv.agg3
  refine ⟨_, fun w' _ => ?_, .pv _ _ _ (.bool _)⟩
  have hg : (eqGuard .neq xt x y (.agg #[.int .i64 a1, .int .i64 a2, .int .i64 a3]) (.agg #[.int .i64 b1, .int .i64 b2, .int .i64 b3])).run P w' = .ok () w' := run_eqGuard_agg w' .neq xt x y _ _ h.2
  have hb : (binOp .neq xt (.agg #[.int .i64 a1, .int .i64 a2, .int .i64 a3]) (.agg #[.int .i64 b1, .int .i64 b2, .int .i64 b3])).run P w' = .ok (.bool (!(a1 == b1 && a2 == b2 && a3 == b3))) w' := by
    rw [run_neq_struct, h.1]; rfl
  simp only [execOp, e1, e2, Sem.run_bind, hg, Result.andThen_ok, hb]
  rfl

theorem vo_neqS3 {xt yt : TypeId} {x y : Operand} {a1 a2 a3 b1 b2 b3 : Int} {f1 f2 : Bool} (h : EqI3 P xt) (ht : Nat.blt t s.n = true) (hx : getO s.env x = .pv f1 (.agg [.int .i64 a1, .int .i64 a2, .int .i64 a3])) (hy : getO s.env y = .pv f2 (.agg [.int .i64 b1, .int .i64 b2, .int .i64 b3]))
    (next : VO P C ops rest Q (s.put t (.pv true (.bool (!(a1 == b1 && a2 == b2 && a3 == b3)))))) : VO P C ops (⟨some t, .binOp .neq xt x y yt, ty, pos, af, none⟩ :: rest) Q s :=
  vo_pure ht (lt_neqS3 h hx hy) next
end

/-- Structs of 4 numbers are compared number by number. -/
def EqI4 (P : Program) (T : TypeId) : Prop :=
  (∀ (x1 x2 x3 x4 y1 y2 y3 y4 : Int) (w : World), (Op.equalIn 10000 T (.agg #[.int .i64 x1, .int .i64 x2, .int .i64 x3, .int .i64 x4]) (.agg #[.int .i64 y1, .int .i64 y2, .int .i64 y3, .int .i64 y4])).run P w = .ok (x1 == y1 && x2 == y2 && x3 == y3 && x4 == y4) w) ∧ P.eqGuardType P.depth T = false

section
variable {P : Program} {C : Ctx} {Q : Go.Exit → St → Prop} {s : St} {ops : Array Oper} {rest : List Oper} {t : Nat} {ty : TypeId} {pos : String} {af : Array Edge}

end
end Go.Vl

/- An operation that makes memory, under a guard; 'make' in a statement whose order of evaluation is open. -/
namespace Go.Vl
set_option linter.unusedVariables false
set_option linter.unusedSimpArgs false
open Go.RowKit
section
variable {late : List Nat} {P : Program} {C : Ctx} {ops : Array Oper} {K : St → Prop} {s s1 : St} {n : Nat} {listed : Array Bool}
end
section
variable {P : Program} {C : Ctx} {s : St} {t : Nat} {ty : TypeId} {pos : String} {af : Array Edge}
end
end Go.Vl

namespace Go.Vl
set_option linter.unusedVariables false
set_option linter.unusedSimpArgs false
open Go.Proofs

theorem Q73 : EqI3 Try.prog 73 := by
  refine ⟨fun x1 x2 x3 y1 y2 y3 w => ?_, by kernel_rfl⟩
  have hS : Try.prog.underlying 73 = some (.struct (Try.prog.fieldsOf 73)) := by kernel_rfl
  have hp : Try.prog.stoodInHeld 73 = false := by kernel_rfl
  have u3 := Try.underlying3
  have a3 := Try.isAgg3
  have z3 := Try.sizeOf3
  rw [show (10000 : Nat) = 9999 + 1 from rfl, run_equalIn_agg w 9999 73 _ _ hS hp]
  simp only [Program.fieldsOf, Try.underlying73]
  go_simp
  by_cases h0 : x1 = y1 <;> by_cases h1 : x2 = y2 <;> by_cases h2 : x3 = y3 <;> simp [h0, h1, h2]

theorem askOf_sat {nl : Option Bool} {c : List (Fin 256)} {p : Nat} (hc : c.length ≤ 2000) (hp : p < 980000) : SatAt Try.prog 110 [.ptr 0 0 0 0] [rdr nl c p] (fun res rows => ∃ (W : WorldM) (q : Nat) (f : Bool) (z y : Int), (medW W ∧ q ≤ p + 430) ∧ res = [.pv f (worldP W), i64 z, i64 y] ∧ rows = [rdr nl c q]) := by
  refine sat_entry_G (rs := [(2, some (65, 3)), (3, none), (4, none)]) Try.func110 rfl rfl (Nat.le_of_ble_eq_true rfl) (Nat.le_of_ble_eq_true rfl) (resTs3 ⟨_, _, Try.underlying65, rfl, inf65, sz65⟩ trivial trivial) fun C hC => ?_
  rw [Try.ntmps110]
  replace hC : C.nb = 1 := hC
  refine vc_seq fun K1 hK1 => ?_
  refine vc_region ?_
  refine vo_alloc Z65 rfl ?_
  refine vo_stM ?_
  refine vo_assign_pv rfl rfl ?_
  refine vo_assign_pv rfl rfl ?_
  refine vo_nil ?_
  refine hK1 _ ?_
  refine vc_seq fun K2 hK2 => ?_
  refine vc_region ?_
  refine vo_move_ptr rfl rfl ?_
  refine vo_call [0] Try.func106 rfl rfl rfl rfl rfl rfl rfl (anyWorld_sat hc (by omega)) ?_
  rintro _ _ ⟨W, q, f, ⟨hW, hq⟩, rfl, rfl⟩
  refine ⟨Nat.le_of_ble_eq_true rfl, ⟨rfl, rfl, rfl, rfl⟩, .inl rfl, ?_⟩
  refine vo_stM ?_
  have hW2 := hW
  obtain ⟨⟨hb1, hb2, hb3⟩, ⟨hb4, hb5⟩, hb6, hb7⟩ := hW2
  refine vo_alloc Z65 rfl ?_
  refine vo_stM ?_
  refine vo_store_varS rfl rfl rfl inf65 sz65 rfl ?_
  refine vo_stM ?_
  refine vo_nil ?_
  refine hK2 _ ?_
  refine vc_seq fun K3 hK3 => ?_
  refine vc_drawBD [22] [0, 1, 2, 3, 4, 5, 6, 7, 8, 9, 10, 11, 12, 13, 14, 15, 16, 17, 18, 19, 20, 21, 22, 23, 24] [0, 1, 2, 3, 4, 5, 6, 7, 8, 9, 10, 11, 12, 13, 14, 15, 16, 17, 18, 19, 20, 21, 22, 23, 24] (by kernel_rfl) (by kernel_rfl) (by kernel_rfl) (by kernel_rfl) ?_
  change VLB [22] _ _ _ 25 _ _ _
  refine vb_light 0 [1, 2, 3, 4, 5, 6, 7, 8, 9, 10, 11, 12, 13, 14, 15, 16, 17, 18, 19, 20, 21] rfl rfl rfl (by kernel_rfl) (by kernel_rfl) (by kernel_rfl) (by kernel_rfl) (by kernel_rfl) (wnt_none rfl) (lb_load_varS hC rfl rfl rfl rfl Try.underlying65 rfl inf65 sz65 rfl rfl) ?_
  refine vb_light0 1 rfl rfl rfl (by kernel_rfl) (by kernel_rfl) (by kernel_rfl) (wnt_none rfl) (l0_move_ptr rfl) ?_
  refine vb_light0 2 rfl rfl rfl (by kernel_rfl) (by kernel_rfl) (by kernel_rfl) (wnt_none rfl) (l0_fieldAddr_ptr rfl Try.underlying65 rfl inf22 (by rw [sz22]; decide)) ?_
  try simp only [Nat.zero_add]
  refine vb_light 3 [0, 1, 2, 6, 7, 8, 9, 10, 11, 12, 13, 14, 17, 18] rfl rfl rfl (by kernel_rfl) (by kernel_rfl) (by kernel_rfl) (by kernel_rfl) (by kernel_rfl) (wnt_none rfl) (lb_load_var hC rfl rfl rfl rfl Try.underlying22 rfl rfl) ?_
  refine vb_light0 4 rfl rfl rfl (by kernel_rfl) (by kernel_rfl) (by kernel_rfl) (wnt_none rfl) (l0_len_pv rfl Try.underlying22) ?_
  refine vb_light0 5 rfl rfl rfl (by kernel_rfl) (by kernel_rfl) (by kernel_rfl) (wnt_none rfl) (l0_binI rfl rfl rfl sd) ?_
  refine vb_light0 6 rfl rfl rfl (by kernel_rfl) (by kernel_rfl) (by kernel_rfl) (wnt_none rfl) (l0_move_ptr rfl) ?_
  refine vb_light0 7 rfl rfl rfl (by kernel_rfl) (by kernel_rfl) (by kernel_rfl) (wnt_none rfl) (l0_fieldAddr_ptr rfl Try.underlying65 rfl inf22 (by rw [sz22]; decide)) ?_
  try simp only [Nat.zero_add]
  refine vb_light 8 [0, 1, 2, 3, 4, 5, 6, 7, 11, 12, 13, 14, 17, 18] rfl rfl rfl (by kernel_rfl) (by kernel_rfl) (by kernel_rfl) (by kernel_rfl) (by kernel_rfl) (wnt_none rfl) (lb_load_var hC rfl rfl rfl rfl Try.underlying22 rfl rfl) ?_
  refine vb_light0 9 rfl rfl rfl (by kernel_rfl) (by kernel_rfl) (by kernel_rfl) (wnt_none rfl) (l0_len_pv rfl Try.underlying22) ?_
  refine vb_light0 11 rfl rfl rfl (by kernel_rfl) (by kernel_rfl) (by kernel_rfl) (wnt_none rfl) (l0_fieldAddr_ptr rfl Try.underlying65 rfl inf22 (by rw [sz22]; decide)) ?_
  try simp only [Nat.zero_add]
  refine vb_light 12 [0, 1, 2, 3, 4, 5, 6, 7, 8, 9, 10, 11, 17, 18] rfl rfl rfl (by kernel_rfl) (by kernel_rfl) (by kernel_rfl) (by kernel_rfl) (by kernel_rfl) (wnt_none rfl) (lb_load_var hC rfl rfl rfl rfl Try.underlying22 rfl rfl) ?_
  refine vb_light0 13 rfl rfl rfl (by kernel_rfl) (by kernel_rfl) (by kernel_rfl) (wnt_none rfl) (l0_len_pv rfl Try.underlying22) ?_
  refine vb_light0 14 rfl rfl rfl (by kernel_rfl) (by kernel_rfl) (by kernel_rfl) (wnt_none rfl) (l0_binI rfl rfl rfl sd) ?_
  refine vb_light0 17 rfl rfl rfl (by kernel_rfl) (by kernel_rfl) (by kernel_rfl) (wnt_none rfl) (l0_move_ptr rfl) ?_
  refine vb_light0 18 rfl rfl rfl (by kernel_rfl) (by kernel_rfl) (by kernel_rfl) (wnt_none rfl) (l0_move_ptr rfl) ?_
  refine vb_any1 10 (by kernel_rfl) ?_
  refine sb_call 10 [0] hC rfl rfl (wnt_none rfl) Try.func69 rfl rfl rfl rfl rfl rfl rfl (pick_sat hc (by omega)) ?_
  rintro _ _ ⟨x18, ⟨hx180, hx181⟩, rfl, rfl⟩
  refine ⟨Nat.le_of_ble_eq_true rfl, ⟨rfl, rfl, rfl, rfl⟩, .inl rfl, ?_⟩
  refine vb_stM ?_
  refine vb_ext 15 rfl (by kernel_rfl) rfl (xt_buildSlice E36 rfl rfl rfl rfl) ?_
  refine vb_stM ?_
  refine vb_expose 3 (by omega) rfl ?_
  refine vb_stM ?_
  refine vb_weaken 23 rfl ?_
  refine vb_stM ?_
  refine vb_any1 16 (by kernel_rfl) ?_
  refine sb_call 16 [0] hC rfl rfl (wnt_none rfl) Try.func68 rfl rfl rfl rfl rfl rfl rfl (one_sat (list := [_,_,_,_,_]) hc (by omega) (by simp) (by simp)) ?_
  rintro _ _ ⟨y24, hy24, rfl, rfl⟩
  refine ⟨Nat.le_of_ble_eq_true rfl, ⟨rfl, rfl, rfl, rfl⟩, .inl rfl, ?_⟩
  refine vb_stM ?_
  refine vb_any1 19 (by kernel_rfl) ?_
  refine sb_call 19 [0] hC rfl rfl (wnt_none rfl) Try.func69 rfl rfl rfl rfl rfl rfl rfl (pick_sat hc (by omega)) ?_
  rintro _ _ ⟨x27, ⟨hx270, hx271⟩, rfl, rfl⟩
  refine ⟨Nat.le_of_ble_eq_true rfl, ⟨rfl, rfl, rfl, rfl⟩, .inl rfl, ?_⟩
  refine vb_stM ?_
  refine vb_ext 20 rfl (by kernel_rfl) rfl (xt_buildSlice E36 rfl rfl rfl rfl) ?_
  refine vb_stM ?_
  refine vb_expose 4 (by omega) rfl ?_
  refine vb_stM ?_
  refine vb_weaken 28 rfl ?_
  refine vb_stM ?_
  refine vb_any1 21 (by kernel_rfl) ?_
  refine sb_call 21 [0] hC rfl rfl (wnt_none rfl) Try.func68 rfl rfl rfl rfl rfl rfl rfl (one_sat (list := [_,_,_,_,_,_,_]) hc (by omega) (by simp) (by simp)) ?_
  rintro _ _ ⟨y29, hy29, rfl, rfl⟩
  refine ⟨Nat.le_of_ble_eq_true rfl, ⟨rfl, rfl, rfl, rfl⟩, .inl rfl, ?_⟩
  refine vb_stM ?_
  refine vb_one 22 rfl (by kernel_rfl) rfl ?_
  refine vo_store_varS rfl rfl rfl inf65 sz65 rfl ?_
  refine vo_stM ?_
  refine vo_done ⟨rfl, ?_⟩
  refine vb_light0 23 rfl rfl rfl (by kernel_rfl) (by kernel_rfl) (by kernel_rfl) (wnt_none rfl) (l0_assign_pv rfl) ?_
  refine vb_light0 24 rfl rfl rfl (by kernel_rfl) (by kernel_rfl) (by kernel_rfl) (wnt_none rfl) (l0_assign_pv rfl) ?_
  refine vb_nil (by kernel_rfl) ?_
  refine hK3 _ ?_
  refine vc_ret ?_
  change retQ _ _ _ _ _
  refine retQ_sel [] (srows := []) (.inr rfl) hC rfl rfl rfl rfl rfl rfl rfl ?_
  exact ⟨W, _, _, _, _, ⟨hW, by omega⟩, rfl, rfl⟩


theorem DrawFindIn_sat {nl : Option Bool} {c : List (Fin 256)} (hl : c.length < 1000000000) : SatAt Try.prog 58 [.pv false (.sl nl 1 (c.map byteP))] [] (fun res rows => ∃ (W : WorldM) (f : Bool) (z y : Int), medW W ∧ res = [.pv f (worldP W), i64 z, i64 y] ∧ rows = []) := by
  refine sat_entry_G (rs := [(2, some (65, 3)), (3, none), (4, none)]) Try.func58 rfl rfl (Nat.le_of_ble_eq_true rfl) (Nat.le_of_ble_eq_true rfl) (resTs3 ⟨_, _, Try.underlying65, rfl, inf65, sz65⟩ trivial trivial) fun C hC => ?_
  rw [Try.ntmps58]
  replace hC : C.nb = 0 := hC
  refine vc_seq fun K1 hK1 => ?_
  refine vc_region ?_
  refine vo_alloc Z65 rfl ?_
  refine vo_stM ?_
  refine vo_assign_pv rfl rfl ?_
  refine vo_assign_pv rfl rfl ?_
  refine vo_nil ?_
  refine hK1 _ ?_
  refine vc_seq fun K2 hK2 => ?_
  refine vc_region ?_
  refine vo_move_pv rfl rfl ?_
  refine vo_call [] Try.func66 rfl rfl rfl rfl rfl rfl rfl (newReader_sat (by omega)) ?_
  rintro _ _ ⟨nl2, c2, hc, rfl, rfl⟩
  refine ⟨Nat.le_of_ble_eq_true rfl, ⟨rfl, rfl, rfl, rfl⟩, .inl rfl, ?_⟩
  refine vo_stM ?_
  refine vo_call [1] Try.func110 rfl rfl rfl rfl rfl rfl rfl (askOf_sat hc (by omega)) ?_
  rintro _ _ ⟨W, q, f, z, y, ⟨hW, hq⟩, rfl, rfl⟩
  refine ⟨Nat.le_of_ble_eq_true rfl, ⟨rfl, rfl, rfl, rfl⟩, .inl rfl, ?_⟩
  refine vo_stM ?_
  refine vo_extract rfl rfl rfl ?_
  refine vo_extract rfl rfl rfl ?_
  refine vo_extract rfl rfl rfl ?_
  refine vo_store_varS rfl rfl rfl inf65 sz65 rfl ?_
  refine vo_stM ?_
  refine vo_assign_pv rfl rfl ?_
  refine vo_assign_pv rfl rfl ?_
  refine vo_nil ?_
  refine hK2 _ ?_
  refine vc_ret ?_
  change retQ _ _ _ _ _
  refine retQ_sel [] (srows := []) (.inr rfl) hC rfl rfl rfl rfl rfl rfl rfl ?_
  exact ⟨W, _, z, y, hW, rfl, rfl⟩


end Go.Vl

namespace Go.Vl
set_option linter.unusedVariables false
set_option linter.unusedSimpArgs false
open Go.Proofs

theorem attr_beq (a b : AttrM) : (a.name == b.name && a.kind == b.kind && a.value == b.value) = decide (a = b) := by
  cases a; cases b; simp only [AttrM.mk.injEq, Bool.and_assoc, Bool.decide_and]; rfl
theorem mem_take_succ {α : Type} [DecidableEq α] {l : List α} {k : Nat} (h : k < l.length) (d a : α) : decide (a ∈ l.take (k + 1)) = (decide (a ∈ l.take k) || decide (l.getD k d = a)) := by
  have e : a ∈ l.take (k + 1) ↔ a ∈ l.take k ∨ l.getD k d = a := by
    rw [List.take_add_one, List.getElem?_eq_getElem h, List.getD_eq_getElem?_getD, List.getElem?_eq_getElem h]
    simp only [List.mem_append, Option.toList_some, List.mem_singleton, Option.getD_some, eq_comm (a := a)]
  rw [decide_eq_decide.2 e, Bool.decide_or]
theorem findA_name {n : Int} {l : List AttrM} (h : 0 ≤ findM n (anms l) 0) : (l.getD (findM n (anms l) 0).toNat ⟨0, 0, 0⟩).name = n := by
  obtain ⟨i, hi, e1, e2, _⟩ := findM_pos_iff (by omega) h
  rw [anms_len] at hi
  have : (anms l).getD i 0 = (l.getD i ⟨0, 0, 0⟩).name := by simp [anms, hi]
  rw [e1, show ((0 : Int) + i).toNat = i by omega, ← this, e2]
theorem ownM_found {w : WorldM} {c name : Int} (h : 0 < (ownM w c name).length) : 0 ≤ (fndM w c name).1 ∧ (fndM w c name).1 < w.attrs.length ∧ (ownM w c name).getD 0 0 = (fndM w c name).1 ∧ (fndM w c name).2.name = name ∧ (fndM w c name).2 ∈ w.attrs.getD (fndM w c name).1.toNat [] := by
  obtain ⟨x, r, ex⟩ : ∃ x r, ownM w c name = x :: r := by
    cases h9 : ownM w c name with
    | nil => rw [h9] at h; exact absurd h (by simp)
    | cons x r => exact ⟨x, r, rfl⟩
  obtain ⟨h1, h2, h3, h4⟩ := ownM_cons ex
  rw [h1, ex]
  have h5 := findA_lt h2
  have h6 : (findM name (anms (w.attrs.getD x.toNat [])) 0).toNat < (w.attrs.getD x.toNat []).length := by omega
  exact ⟨h3, h4, rfl, findA_name h2, getD_mem h6 _⟩

theorem FnFindIn_sat {nl : Option Bool} {code : List (Fin 256)} : SatAt Try.prog 13 [.pv false (.sl nl 1 (code.map byteP))] [] (fun res rows => res = [bo true] ∧ rows = []) := by
  refine sat_entry_G (rs := [(2, none)]) Try.func13 rfl rfl (Nat.le_of_ble_eq_true rfl) (Nat.le_of_ble_eq_true rfl) (resTs1 trivial) fun C hC => ?_
  rw [Try.ntmps13]
  replace hC : C.nb = 0 := hC
  refine vc_seq fun K1 hK1 => ?_
  refine vc_region ?_
  refine vo_assign_pv rfl rfl ?_
  refine vo_nil ?_
  refine hK1 _ ?_
  refine vc_seq fun K2 hK2 => ?_
  refine vc_seq fun K3 hK3 => ?_
  refine vc_region ?_
  refine vo_move_pv rfl rfl ?_
  refine vo_len_pv rfl rfl Try.underlying31 ?_
  refine vo_binI rfl rfl rfl rfl trivial ?_
  refine vo_nil ?_
  refine hK3 _ ?_
  refine vc_cond rfl (fun hc1 => ?_) (fun hc1 => ?_)
  · try simp only [decide_eq_true_eq, decide_eq_false_iff_not, beq_iff_eq, bne_iff_ne, beq_eq_false_iff_ne, bne_eq_false_iff_eq, Bool.not_eq_true, Bool.not_eq_false, Bool.not_eq_eq_eq_not, Bool.not_true, Bool.not_false, List.length_map, Int.not_lt, Int.not_le, ne_eq, Decidable.not_not] at hc1
    refine vc_seq fun K4 hK4 => ?_
    refine vc_region ?_
    refine vo_assign_pv rfl rfl ?_
    refine vo_nil ?_
    refine hK4 _ ?_
    refine vc_ret ?_
    change retQ _ _ _ _ _
    refine retQ_sel [] (srows := []) (.inr rfl) hC rfl rfl rfl rfl rfl rfl rfl ?_
    first | exact ⟨rfl, rfl⟩ | (exfalso; simp_all; done) | (refine ⟨(congrArg (fun b => [bo b]) (?_ : _ = true) : [bo _] = [bo true]), rfl⟩; first | simp_all | (simp; omega)) | (simp [hn]) | (simp [hf5, hf6, hmt])
  · try simp only [decide_eq_true_eq, decide_eq_false_iff_not, beq_iff_eq, bne_iff_ne, beq_eq_false_iff_ne, bne_eq_false_iff_eq, Bool.not_eq_true, Bool.not_eq_false, Bool.not_eq_eq_eq_not, Bool.not_true, Bool.not_false, List.length_map, Int.not_lt, Int.not_le, ne_eq, Decidable.not_not] at hc1
    refine vc_skip ?_
    refine hK2 _ ?_
    refine vc_seq fun K5 hK5 => ?_
    refine vc_region ?_
    refine vo_move_pv rfl rfl ?_
    refine vo_call0 Try.func58 rfl rfl rfl rfl (DrawFindIn_sat (by omega)) ?_
    rintro _ _ ⟨W, f, z, y, hW, rfl, rfl⟩
    refine ⟨rfl, rfl, .inl rfl, ?_⟩
    refine vo_stM ?_
    have hW2 := hW
    obtain ⟨⟨hb1, hb2, hb3⟩, ⟨hb4, hb5⟩, hb6, hb7⟩ := hW2
    refine vo_move rfl ?_
    refine vo_stM ?_
    refine vo_extract rfl rfl rfl ?_
    refine vo_extract rfl rfl rfl ?_
    refine vo_extract rfl rfl rfl ?_
    refine vo_alloc Z65 rfl ?_
    refine vo_stM ?_
    refine vo_store_varS rfl rfl rfl inf65 sz65 rfl ?_
    refine vo_stM ?_
    refine vo_assign_pv rfl rfl ?_
    refine vo_assign_pv rfl rfl ?_
    refine vo_nil ?_
    refine hK5 _ ?_
    refine vc_seq fun K6 hK6 => ?_
    refine vc_region ?_
    refine vo_load_varS rfl rfl rfl Try.underlying65 rfl inf65 sz65 rfl rfl ?_
    refine vo_move_pv rfl rfl ?_
    refine vo_move_pv rfl rfl ?_
    refine vo_call0 Try.func46 rfl rfl rfl rfl (implFindIn_sat hW.sw) ?_
    rintro _ _ ⟨rfl, rfl⟩
    refine ⟨rfl, rfl, .inl rfl, ?_⟩
    refine vo_stM ?_
    refine vo_move rfl ?_
    refine vo_stM ?_
    refine vo_extract rfl rfl rfl ?_
    refine vo_extract rfl rfl rfl ?_
    refine vo_alloc Z73 rfl ?_
    refine vo_stM ?_
    refine vo_assign_pv rfl rfl ?_
    refine vo_store_varS rfl rfl rfl inf73 sz73 rfl ?_
    refine vo_stM ?_
    refine vo_nil ?_
    refine hK6 _ ?_
    refine vc_seq fun K7 hK7 => ?_
    refine vc_region ?_
    refine vo_load_varS rfl rfl rfl Try.underlying65 rfl inf65 sz65 rfl rfl ?_
    refine vo_move_pv rfl rfl ?_
    refine vo_move_pv rfl rfl ?_
    refine vo_call0 Try.func45 rfl rfl rfl rfl (specFindIn_sat hW.sw) ?_
    rintro _ _ ⟨rfl, rfl⟩
    refine ⟨rfl, rfl, .inl rfl, ?_⟩
    refine vo_stM ?_
    refine vo_move rfl ?_
    refine vo_stM ?_
    refine vo_extract rfl rfl rfl ?_
    refine vo_extract rfl rfl rfl ?_
    refine vo_alloc Z73 rfl ?_
    refine vo_stM ?_
    refine vo_assign_pv rfl rfl ?_
    refine vo_store_varS rfl rfl rfl inf73 sz73 rfl ?_
    refine vo_stM ?_
    refine vo_nil ?_
    refine hK7 _ ?_
    refine vc_seq fun K8 hK8 => ?_
    refine vc_seq fun K9 hK9 => ?_
    refine vc_region ?_
    refine vo_move_pv rfl rfl ?_
    refine vo_move_pv rfl rfl ?_
    refine vo_binI rfl rfl rfl rfl trivial ?_
    refine vo_move_pv rfl rfl ?_
    refine vo_split 39 rfl (fun hg2 => ?_) (fun hg2 => ?_)
    · try simp only [decide_eq_true_eq, decide_eq_false_iff_not, beq_iff_eq, bne_iff_ne, beq_eq_false_iff_ne, bne_eq_false_iff_eq, Bool.not_eq_true, Bool.not_eq_false, Bool.not_eq_eq_eq_not, Bool.not_true, Bool.not_false, List.length_map, Int.not_lt, Int.not_le, ne_eq, Decidable.not_not] at hg2
      refine vo_guard_off rfl rfl rfl rfl rfl ?_
      refine vo_guard_off rfl rfl rfl rfl rfl ?_
      refine vo_guard_off rfl rfl rfl rfl rfl ?_
      refine vo_pick_t rfl rfl ?_
      refine vo_move_pv rfl rfl ?_
      refine vo_guard_off rfl rfl rfl rfl rfl ?_
      refine vo_guard_off rfl rfl rfl rfl rfl ?_
      refine vo_guard_off rfl rfl rfl rfl rfl ?_
      refine vo_pick_t rfl rfl ?_
      refine vo_move_pv rfl rfl ?_
      refine vo_guard_off rfl rfl rfl rfl rfl ?_
      refine vo_guard_off rfl rfl rfl rfl rfl ?_
      refine vo_pick_t rfl rfl ?_
      refine vo_move_pv rfl rfl ?_
      refine vo_guard_off rfl rfl rfl rfl rfl ?_
      refine vo_guard_off rfl rfl rfl rfl rfl ?_
      refine vo_guard_off rfl rfl rfl rfl rfl ?_
      refine vo_guard_off rfl rfl rfl rfl rfl ?_
      refine vo_guard_off rfl rfl rfl rfl rfl ?_
      refine vo_pick_t rfl rfl ?_
      refine vo_nil ?_
      refine hK9 _ ?_
      refine vc_cond_t rfl ?_
      refine vc_seq fun K10 hK10 => ?_
      refine vc_region ?_
      refine vo_move_pv rfl rfl ?_
      refine vo_move_pv rfl rfl ?_
      refine vo_binI rfl rfl rfl rfl trivial ?_
      refine vo_move_pv rfl rfl ?_
      refine vo_split 63 rfl (fun hg3 => ?_) (fun hg3 => ?_)
      · try simp only [decide_eq_true_eq, decide_eq_false_iff_not, beq_iff_eq, bne_iff_ne, beq_eq_false_iff_ne, bne_eq_false_iff_eq, Bool.not_eq_true, Bool.not_eq_false, Bool.not_eq_eq_eq_not, Bool.not_true, Bool.not_false, List.length_map, Int.not_lt, Int.not_le, ne_eq, Decidable.not_not] at hg3
        refine vo_guard_on rfl rfl rfl ?_
        refine vo_load_varS rfl rfl rfl Try.underlying73 rfl inf73 sz73 rfl rfl ?_
        refine vo_guard_on rfl rfl rfl ?_
        refine vo_load_varS rfl rfl rfl Try.underlying73 rfl inf73 sz73 rfl rfl ?_
        refine vo_guard_on rfl rfl rfl ?_
        refine vo_eqS3 Q73 rfl rfl rfl ?_
        refine vo_pick_t rfl rfl ?_
        refine vo_assign_pv rfl rfl ?_
        refine vo_nil ?_
        refine hK10 _ ?_
        refine vc_ret ?_
        change retQ _ _ _ _ _
        refine retQ_sel [] (srows := []) (.inr rfl) hC rfl rfl rfl rfl rfl rfl rfl ?_
        first | exact ⟨rfl, rfl⟩ | (exfalso; simp_all; done) | (refine ⟨(congrArg (fun b => [bo b]) (?_ : _ = true) : [bo _] = [bo true]), rfl⟩; first | simp_all | (simp; omega)) | (simp [hn]) | (simp [hf5, hf6, hmt])
      · try simp only [decide_eq_true_eq, decide_eq_false_iff_not, beq_iff_eq, bne_iff_ne, beq_eq_false_iff_ne, bne_eq_false_iff_eq, Bool.not_eq_true, Bool.not_eq_false, Bool.not_eq_eq_eq_not, Bool.not_true, Bool.not_false, List.length_map, Int.not_lt, Int.not_le, ne_eq, Decidable.not_not] at hg3
        refine vo_guard_off rfl rfl rfl rfl rfl ?_
        refine vo_guard_off rfl rfl rfl rfl rfl ?_
        refine vo_guard_off rfl rfl rfl rfl rfl ?_
        refine vo_pick_f rfl rfl ?_
        refine vo_assign_pv rfl rfl ?_
        refine vo_nil ?_
        refine hK10 _ ?_
        refine vc_ret ?_
        change retQ _ _ _ _ _
        refine retQ_sel [] (srows := []) (.inr rfl) hC rfl rfl rfl rfl rfl rfl rfl ?_
        first | exact ⟨rfl, rfl⟩ | (exfalso; simp_all; done) | (refine ⟨(congrArg (fun b => [bo b]) (?_ : _ = true) : [bo _] = [bo true]), rfl⟩; first | simp_all | (simp; omega)) | (simp [hn]) | (simp [hf5, hf6, hmt])
    · try simp only [decide_eq_true_eq, decide_eq_false_iff_not, beq_iff_eq, bne_iff_ne, beq_eq_false_iff_ne, bne_eq_false_iff_eq, Bool.not_eq_true, Bool.not_eq_false, Bool.not_eq_eq_eq_not, Bool.not_true, Bool.not_false, List.length_map, Int.not_lt, Int.not_le, ne_eq, Decidable.not_not] at hg2
      refine vo_guard_on rfl rfl rfl ?_
      refine vo_load_varS rfl rfl rfl Try.underlying73 rfl inf73 sz73 rfl rfl ?_
      refine vo_guard_on rfl rfl rfl ?_
      refine vo_load_varS rfl rfl rfl Try.underlying73 rfl inf73 sz73 rfl rfl ?_
      refine vo_guard_on rfl rfl rfl ?_
      refine vo_neqS3 Q73 rfl rfl rfl ?_
      refine vo_pick_f rfl rfl ?_
      refine vo_move_pv rfl rfl ?_
      refine vo_split 44 rfl (fun hg4 => ?_) (fun hg4 => ?_)
      · try simp only [decide_eq_true_eq, decide_eq_false_iff_not, beq_iff_eq, bne_iff_ne, beq_eq_false_iff_ne, bne_eq_false_iff_eq, Bool.not_eq_true, Bool.not_eq_false, Bool.not_eq_eq_eq_not, Bool.not_true, Bool.not_false, List.length_map, Int.not_lt, Int.not_le, ne_eq, Decidable.not_not] at hg4
        refine vo_guard_off rfl rfl rfl rfl rfl ?_
        refine vo_guard_off rfl rfl rfl rfl rfl ?_
        refine vo_guard_off rfl rfl rfl rfl rfl ?_
        refine vo_pick_t rfl rfl ?_
        refine vo_move_pv rfl rfl ?_
        refine vo_guard_off rfl rfl rfl rfl rfl ?_
        refine vo_guard_off rfl rfl rfl rfl rfl ?_
        refine vo_pick_t rfl rfl ?_
        refine vo_move_pv rfl rfl ?_
        refine vo_guard_off rfl rfl rfl rfl rfl ?_
        refine vo_guard_off rfl rfl rfl rfl rfl ?_
        refine vo_guard_off rfl rfl rfl rfl rfl ?_
        refine vo_guard_off rfl rfl rfl rfl rfl ?_
        refine vo_guard_off rfl rfl rfl rfl rfl ?_
        refine vo_pick_t rfl rfl ?_
        refine vo_nil ?_
        refine hK9 _ ?_
        refine vc_cond_t rfl ?_
        refine vc_seq fun K11 hK11 => ?_
        refine vc_region ?_
        refine vo_move_pv rfl rfl ?_
        refine vo_move_pv rfl rfl ?_
        refine vo_binI rfl rfl rfl rfl trivial ?_
        refine vo_move_pv rfl rfl ?_
        refine vo_split 63 rfl (fun hg5 => ?_) (fun hg5 => ?_)
        · try simp only [decide_eq_true_eq, decide_eq_false_iff_not, beq_iff_eq, bne_iff_ne, beq_eq_false_iff_ne, bne_eq_false_iff_eq, Bool.not_eq_true, Bool.not_eq_false, Bool.not_eq_eq_eq_not, Bool.not_true, Bool.not_false, List.length_map, Int.not_lt, Int.not_le, ne_eq, Decidable.not_not] at hg5
          refine vo_guard_on rfl rfl rfl ?_
          refine vo_load_varS rfl rfl rfl Try.underlying73 rfl inf73 sz73 rfl rfl ?_
          refine vo_guard_on rfl rfl rfl ?_
          refine vo_load_varS rfl rfl rfl Try.underlying73 rfl inf73 sz73 rfl rfl ?_
          refine vo_guard_on rfl rfl rfl ?_
          refine vo_eqS3 Q73 rfl rfl rfl ?_
          refine vo_pick_t rfl rfl ?_
          refine vo_assign_pv rfl rfl ?_
          refine vo_nil ?_
          refine hK11 _ ?_
          refine vc_ret ?_
          change retQ _ _ _ _ _
          refine retQ_sel [] (srows := []) (.inr rfl) hC rfl rfl rfl rfl rfl rfl rfl ?_
          first | exact ⟨rfl, rfl⟩ | (exfalso; simp_all; done) | (refine ⟨(congrArg (fun b => [bo b]) (?_ : _ = true) : [bo _] = [bo true]), rfl⟩; first | simp_all | (simp; omega)) | (simp [hn]) | (simp [hf5, hf6, hmt])
        · try simp only [decide_eq_true_eq, decide_eq_false_iff_not, beq_iff_eq, bne_iff_ne, beq_eq_false_iff_ne, bne_eq_false_iff_eq, Bool.not_eq_true, Bool.not_eq_false, Bool.not_eq_eq_eq_not, Bool.not_true, Bool.not_false, List.length_map, Int.not_lt, Int.not_le, ne_eq, Decidable.not_not] at hg5
          refine vo_guard_off rfl rfl rfl rfl rfl ?_
          refine vo_guard_off rfl rfl rfl rfl rfl ?_
          refine vo_guard_off rfl rfl rfl rfl rfl ?_
          refine vo_pick_f rfl rfl ?_
          refine vo_assign_pv rfl rfl ?_
          refine vo_nil ?_
          refine hK11 _ ?_
          refine vc_ret ?_
          change retQ _ _ _ _ _
          refine retQ_sel [] (srows := []) (.inr rfl) hC rfl rfl rfl rfl rfl rfl rfl ?_
          first | exact ⟨rfl, rfl⟩ | (exfalso; simp_all; done) | (refine ⟨(congrArg (fun b => [bo b]) (?_ : _ = true) : [bo _] = [bo true]), rfl⟩; first | simp_all | (simp; omega)) | (simp [hn]) | (simp [hf5, hf6, hmt])
      · try simp only [decide_eq_true_eq, decide_eq_false_iff_not, beq_iff_eq, bne_iff_ne, beq_eq_false_iff_ne, bne_eq_false_iff_eq, Bool.not_eq_true, Bool.not_eq_false, Bool.not_eq_eq_eq_not, Bool.not_true, Bool.not_false, List.length_map, Int.not_lt, Int.not_le, ne_eq, Decidable.not_not] at hg4
        refine vo_guard_on rfl rfl rfl ?_
        refine vo_load_varS rfl rfl rfl Try.underlying65 rfl inf65 sz65 rfl rfl ?_
        refine vo_guard_on rfl rfl rfl ?_
        refine vo_call0 Try.func55 rfl rfl rfl rfl (implValidWorld_sat hW.sw) ?_
        rintro _ _ ⟨rfl, rfl⟩
        refine ⟨rfl, rfl, .inl rfl, ?_⟩
        refine vo_stM ?_
        refine vo_guard_on rfl rfl rfl ?_
        refine vo_not rfl rfl ?_
        refine vo_pick_f rfl rfl ?_
        refine vo_move_pv rfl rfl ?_
        refine vo_split 49 rfl (fun hg6 => ?_) (fun hg6 => ?_)
        · try simp only [decide_eq_true_eq, decide_eq_false_iff_not, beq_iff_eq, bne_iff_ne, beq_eq_false_iff_ne, bne_eq_false_iff_eq, Bool.not_eq_true, Bool.not_eq_false, Bool.not_eq_eq_eq_not, Bool.not_true, Bool.not_false, List.length_map, Int.not_lt, Int.not_le, ne_eq, Decidable.not_not] at hg6
          refine vo_guard_off rfl rfl rfl rfl rfl ?_
          refine vo_guard_off rfl rfl rfl rfl rfl ?_
          refine vo_pick_t rfl rfl ?_
          refine vo_move_pv rfl rfl ?_
          refine vo_guard_off rfl rfl rfl rfl rfl ?_
          refine vo_guard_off rfl rfl rfl rfl rfl ?_
          refine vo_guard_off rfl rfl rfl rfl rfl ?_
          refine vo_guard_off rfl rfl rfl rfl rfl ?_
          refine vo_guard_off rfl rfl rfl rfl rfl ?_
          refine vo_pick_t rfl rfl ?_
          refine vo_nil ?_
          refine hK9 _ ?_
          refine vc_cond_t rfl ?_
          refine vc_seq fun K12 hK12 => ?_
          refine vc_region ?_
          refine vo_move_pv rfl rfl ?_
          refine vo_move_pv rfl rfl ?_
          refine vo_binI rfl rfl rfl rfl trivial ?_
          refine vo_move_pv rfl rfl ?_
          refine vo_split 63 rfl (fun hg7 => ?_) (fun hg7 => ?_)
          · try simp only [decide_eq_true_eq, decide_eq_false_iff_not, beq_iff_eq, bne_iff_ne, beq_eq_false_iff_ne, bne_eq_false_iff_eq, Bool.not_eq_true, Bool.not_eq_false, Bool.not_eq_eq_eq_not, Bool.not_true, Bool.not_false, List.length_map, Int.not_lt, Int.not_le, ne_eq, Decidable.not_not] at hg7
            refine vo_guard_on rfl rfl rfl ?_
            refine vo_load_varS rfl rfl rfl Try.underlying73 rfl inf73 sz73 rfl rfl ?_
            refine vo_guard_on rfl rfl rfl ?_
            refine vo_load_varS rfl rfl rfl Try.underlying73 rfl inf73 sz73 rfl rfl ?_
            refine vo_guard_on rfl rfl rfl ?_
            refine vo_eqS3 Q73 rfl rfl rfl ?_
            refine vo_pick_t rfl rfl ?_
            refine vo_assign_pv rfl rfl ?_
            refine vo_nil ?_
            refine hK12 _ ?_
            refine vc_ret ?_
            change retQ _ _ _ _ _
            refine retQ_sel [] (srows := []) (.inr rfl) hC rfl rfl rfl rfl rfl rfl rfl ?_
            first | exact ⟨rfl, rfl⟩ | (exfalso; simp_all; done) | (refine ⟨(congrArg (fun b => [bo b]) (?_ : _ = true) : [bo _] = [bo true]), rfl⟩; first | simp_all | (simp; omega)) | (simp [hn]) | (simp [hf5, hf6, hmt])
          · try simp only [decide_eq_true_eq, decide_eq_false_iff_not, beq_iff_eq, bne_iff_ne, beq_eq_false_iff_ne, bne_eq_false_iff_eq, Bool.not_eq_true, Bool.not_eq_false, Bool.not_eq_eq_eq_not, Bool.not_true, Bool.not_false, List.length_map, Int.not_lt, Int.not_le, ne_eq, Decidable.not_not] at hg7
            refine vo_guard_off rfl rfl rfl rfl rfl ?_
            refine vo_guard_off rfl rfl rfl rfl rfl ?_
            refine vo_guard_off rfl rfl rfl rfl rfl ?_
            refine vo_pick_f rfl rfl ?_
            refine vo_assign_pv rfl rfl ?_
            refine vo_nil ?_
            refine hK12 _ ?_
            refine vc_ret ?_
            change retQ _ _ _ _ _
            refine retQ_sel [] (srows := []) (.inr rfl) hC rfl rfl rfl rfl rfl rfl rfl ?_
            first | exact ⟨rfl, rfl⟩ | (exfalso; simp_all; done) | (refine ⟨(congrArg (fun b => [bo b]) (?_ : _ = true) : [bo _] = [bo true]), rfl⟩; first | simp_all | (simp; omega)) | (simp [hn]) | (simp [hf5, hf6, hmt])
        · try simp only [decide_eq_true_eq, decide_eq_false_iff_not, beq_iff_eq, bne_iff_ne, beq_eq_false_iff_ne, bne_eq_false_iff_eq, Bool.not_eq_true, Bool.not_eq_false, Bool.not_eq_eq_eq_not, Bool.not_true, Bool.not_false, List.length_map, Int.not_lt, Int.not_le, ne_eq, Decidable.not_not] at hg6
          refine vo_guard_on rfl rfl rfl ?_
          refine vo_move_pv rfl rfl ?_
          refine vo_guard_on rfl rfl rfl ?_
          refine vo_binI rfl rfl rfl rfl trivial ?_
          refine vo_pick_f rfl rfl ?_
          refine vo_move_pv rfl rfl ?_
          refine vo_split 53 rfl (fun hg8 => ?_) (fun hg8 => ?_)
          · try simp only [decide_eq_true_eq, decide_eq_false_iff_not, beq_iff_eq, bne_iff_ne, beq_eq_false_iff_ne, bne_eq_false_iff_eq, Bool.not_eq_true, Bool.not_eq_false, Bool.not_eq_eq_eq_not, Bool.not_true, Bool.not_false, List.length_map, Int.not_lt, Int.not_le, ne_eq, Decidable.not_not] at hg8
            refine vo_guard_off rfl rfl rfl rfl rfl ?_
            refine vo_guard_off rfl rfl rfl rfl rfl ?_
            refine vo_guard_off rfl rfl rfl rfl rfl ?_
            refine vo_guard_off rfl rfl rfl rfl rfl ?_
            refine vo_guard_off rfl rfl rfl rfl rfl ?_
            refine vo_pick_t rfl rfl ?_
            refine vo_nil ?_
            refine hK9 _ ?_
            refine vc_cond_t rfl ?_
            refine vc_seq fun K13 hK13 => ?_
            refine vc_region ?_
            refine vo_move_pv rfl rfl ?_
            refine vo_move_pv rfl rfl ?_
            refine vo_binI rfl rfl rfl rfl trivial ?_
            refine vo_move_pv rfl rfl ?_
            refine vo_split 63 rfl (fun hg9 => ?_) (fun hg9 => ?_)
            · try simp only [decide_eq_true_eq, decide_eq_false_iff_not, beq_iff_eq, bne_iff_ne, beq_eq_false_iff_ne, bne_eq_false_iff_eq, Bool.not_eq_true, Bool.not_eq_false, Bool.not_eq_eq_eq_not, Bool.not_true, Bool.not_false, List.length_map, Int.not_lt, Int.not_le, ne_eq, Decidable.not_not] at hg9
              refine vo_guard_on rfl rfl rfl ?_
              refine vo_load_varS rfl rfl rfl Try.underlying73 rfl inf73 sz73 rfl rfl ?_
              refine vo_guard_on rfl rfl rfl ?_
              refine vo_load_varS rfl rfl rfl Try.underlying73 rfl inf73 sz73 rfl rfl ?_
              refine vo_guard_on rfl rfl rfl ?_
              refine vo_eqS3 Q73 rfl rfl rfl ?_
              refine vo_pick_t rfl rfl ?_
              refine vo_assign_pv rfl rfl ?_
              refine vo_nil ?_
              refine hK13 _ ?_
              refine vc_ret ?_
              change retQ _ _ _ _ _
              refine retQ_sel [] (srows := []) (.inr rfl) hC rfl rfl rfl rfl rfl rfl rfl ?_
              first | exact ⟨rfl, rfl⟩ | (exfalso; simp_all; done) | (refine ⟨(congrArg (fun b => [bo b]) (?_ : _ = true) : [bo _] = [bo true]), rfl⟩; first | simp_all | (simp; omega)) | (simp [hn]) | (simp [hf5, hf6, hmt])
            · try simp only [decide_eq_true_eq, decide_eq_false_iff_not, beq_iff_eq, bne_iff_ne, beq_eq_false_iff_ne, bne_eq_false_iff_eq, Bool.not_eq_true, Bool.not_eq_false, Bool.not_eq_eq_eq_not, Bool.not_true, Bool.not_false, List.length_map, Int.not_lt, Int.not_le, ne_eq, Decidable.not_not] at hg9
              refine vo_guard_off rfl rfl rfl rfl rfl ?_
              refine vo_guard_off rfl rfl rfl rfl rfl ?_
              refine vo_guard_off rfl rfl rfl rfl rfl ?_
              refine vo_pick_f rfl rfl ?_
              refine vo_assign_pv rfl rfl ?_
              refine vo_nil ?_
              refine hK13 _ ?_
              refine vc_ret ?_
              change retQ _ _ _ _ _
              refine retQ_sel [] (srows := []) (.inr rfl) hC rfl rfl rfl rfl rfl rfl rfl ?_
              first | exact ⟨rfl, rfl⟩ | (exfalso; simp_all; done) | (refine ⟨(congrArg (fun b => [bo b]) (?_ : _ = true) : [bo _] = [bo true]), rfl⟩; first | simp_all | (simp; omega)) | (simp [hn]) | (simp [hf5, hf6, hmt])
          · try simp only [decide_eq_true_eq, decide_eq_false_iff_not, beq_iff_eq, bne_iff_ne, beq_eq_false_iff_ne, bne_eq_false_iff_eq, Bool.not_eq_true, Bool.not_eq_false, Bool.not_eq_eq_eq_not, Bool.not_true, Bool.not_false, List.length_map, Int.not_lt, Int.not_le, ne_eq, Decidable.not_not] at hg8
            refine vo_guard_on rfl rfl rfl ?_
            refine vo_move_pv rfl rfl ?_
            refine vo_guard_on rfl rfl rfl ?_
            refine vo_fieldAddr_ptr rfl rfl Try.underlying65 rfl inf22 (by rw [sz22]; decide) ?_
            try simp only [Nat.zero_add]
            refine vo_guard_on rfl rfl rfl ?_
            refine vo_load_var rfl rfl rfl Try.underlying22 rfl rfl ?_
            refine vo_guard_on rfl rfl rfl ?_
            refine vo_len_pv rfl rfl Try.underlying22 ?_
            refine vo_guard_on rfl rfl rfl ?_
            refine vo_binI rfl rfl rfl rfl trivial ?_
            refine vo_pick_f rfl rfl ?_
            refine vo_nil ?_
            refine hK9 _ ?_
            refine vc_cond rfl (fun hc10 => ?_) (fun hc10 => ?_)
            · try simp only [decide_eq_true_eq, decide_eq_false_iff_not, beq_iff_eq, bne_iff_ne, beq_eq_false_iff_ne, bne_eq_false_iff_eq, Bool.not_eq_true, Bool.not_eq_false, Bool.not_eq_eq_eq_not, Bool.not_true, Bool.not_false, List.length_map, Int.not_lt, Int.not_le, ne_eq, Decidable.not_not] at hc10
              refine vc_seq fun K14 hK14 => ?_
              refine vc_region ?_
              refine vo_move_pv rfl rfl ?_
              refine vo_move_pv rfl rfl ?_
              refine vo_binI rfl rfl rfl rfl trivial ?_
              refine vo_move_pv rfl rfl ?_
              refine vo_split 63 rfl (fun hg11 => ?_) (fun hg11 => ?_)
              · try simp only [decide_eq_true_eq, decide_eq_false_iff_not, beq_iff_eq, bne_iff_ne, beq_eq_false_iff_ne, bne_eq_false_iff_eq, Bool.not_eq_true, Bool.not_eq_false, Bool.not_eq_eq_eq_not, Bool.not_true, Bool.not_false, List.length_map, Int.not_lt, Int.not_le, ne_eq, Decidable.not_not] at hg11
                refine vo_guard_on rfl rfl rfl ?_
                refine vo_load_varS rfl rfl rfl Try.underlying73 rfl inf73 sz73 rfl rfl ?_
                refine vo_guard_on rfl rfl rfl ?_
                refine vo_load_varS rfl rfl rfl Try.underlying73 rfl inf73 sz73 rfl rfl ?_
                refine vo_guard_on rfl rfl rfl ?_
                refine vo_eqS3 Q73 rfl rfl rfl ?_
                refine vo_pick_t rfl rfl ?_
                refine vo_assign_pv rfl rfl ?_
                refine vo_nil ?_
                refine hK14 _ ?_
                refine vc_ret ?_
                change retQ _ _ _ _ _
                refine retQ_sel [] (srows := []) (.inr rfl) hC rfl rfl rfl rfl rfl rfl rfl ?_
                first | exact ⟨rfl, rfl⟩ | (exfalso; simp_all; done) | (refine ⟨(congrArg (fun b => [bo b]) (?_ : _ = true) : [bo _] = [bo true]), rfl⟩; first | simp_all | (simp; omega)) | (simp [hn]) | (simp [hf5, hf6, hmt])
              · try simp only [decide_eq_true_eq, decide_eq_false_iff_not, beq_iff_eq, bne_iff_ne, beq_eq_false_iff_ne, bne_eq_false_iff_eq, Bool.not_eq_true, Bool.not_eq_false, Bool.not_eq_eq_eq_not, Bool.not_true, Bool.not_false, List.length_map, Int.not_lt, Int.not_le, ne_eq, Decidable.not_not] at hg11
                refine vo_guard_off rfl rfl rfl rfl rfl ?_
                refine vo_guard_off rfl rfl rfl rfl rfl ?_
                refine vo_guard_off rfl rfl rfl rfl rfl ?_
                refine vo_pick_f rfl rfl ?_
                refine vo_assign_pv rfl rfl ?_
                refine vo_nil ?_
                refine hK14 _ ?_
                refine vc_ret ?_
                change retQ _ _ _ _ _
                refine retQ_sel [] (srows := []) (.inr rfl) hC rfl rfl rfl rfl rfl rfl rfl ?_
                first | exact ⟨rfl, rfl⟩ | (exfalso; simp_all; done) | (refine ⟨(congrArg (fun b => [bo b]) (?_ : _ = true) : [bo _] = [bo true]), rfl⟩; first | simp_all | (simp; omega)) | (simp [hn]) | (simp [hf5, hf6, hmt])
            · try simp only [decide_eq_true_eq, decide_eq_false_iff_not, beq_iff_eq, bne_iff_ne, beq_eq_false_iff_ne, bne_eq_false_iff_eq, Bool.not_eq_true, Bool.not_eq_false, Bool.not_eq_eq_eq_not, Bool.not_true, Bool.not_false, List.length_map, Int.not_lt, Int.not_le, ne_eq, Decidable.not_not] at hc10
              refine vc_skip ?_
              refine hK8 _ ?_
              refine vc_seq fun K15 hK15 => ?_
              refine vc_region ?_
              refine vo_load_varS rfl rfl rfl Try.underlying65 rfl inf65 sz65 rfl rfl ?_
              refine vo_move_pv rfl rfl ?_
              refine vo_move_pv rfl rfl ?_
              refine vo_call0 Try.func49 rfl rfl rfl rfl (ownersOf_sat hW.sw) ?_
              rintro _ _ ⟨nlo, rfl, rfl⟩
              refine ⟨rfl, rfl, .inl rfl, ?_⟩
              refine vo_stM ?_
              refine vo_assign_pv rfl rfl ?_
              refine vo_nil ?_
              refine hK15 _ ?_
              refine vc_seq fun K16 hK16 => ?_
              refine vc_seq fun K17 hK17 => ?_
              refine vc_region ?_
              refine vo_move_pv rfl rfl ?_
              refine vo_len_pv rfl rfl Try.underlying36 ?_
              refine vo_binI rfl rfl rfl rfl trivial ?_
              refine vo_nil ?_
              refine hK17 _ ?_
              refine vc_cond rfl (fun hc12 => ?_) (fun hc12 => ?_)
              · try simp only [decide_eq_true_eq, decide_eq_false_iff_not, beq_iff_eq, bne_iff_ne, beq_eq_false_iff_ne, bne_eq_false_iff_eq, Bool.not_eq_true, Bool.not_eq_false, Bool.not_eq_eq_eq_not, Bool.not_true, Bool.not_false, List.length_map, Int.not_lt, Int.not_le, ne_eq, Decidable.not_not] at hc12
                have hn := ownM_nil (List.length_eq_zero_iff.1 (by omega : (ownM W z y).length = 0))
                refine vc_seq fun K18 hK18 => ?_
                refine vc_region ?_
                refine vo_move_pv rfl rfl ?_
                refine vo_binI rfl rfl rfl rfl trivial ?_
                refine vo_move_pv rfl rfl ?_
                refine vo_split 77 rfl (fun hg13 => ?_) (fun hg13 => ?_)
                · try simp only [decide_eq_true_eq, decide_eq_false_iff_not, beq_iff_eq, bne_iff_ne, beq_eq_false_iff_ne, bne_eq_false_iff_eq, Bool.not_eq_true, Bool.not_eq_false, Bool.not_eq_eq_eq_not, Bool.not_true, Bool.not_false, List.length_map, Int.not_lt, Int.not_le, ne_eq, Decidable.not_not] at hg13
                  refine vo_guard_on rfl rfl rfl ?_
                  refine vo_load_varS rfl rfl rfl Try.underlying73 rfl inf73 sz73 rfl rfl ?_
                  refine vo_guard_on rfl rfl rfl ?_
                  refine vo_build S73 rfl rfl rfl ?_
                  refine vo_stM ?_
                  refine vo_guard_on rfl rfl rfl ?_
                  refine vo_eqS3 Q73 rfl rfl rfl ?_
                  refine vo_pick_t rfl rfl ?_
                  refine vo_assign_pv rfl rfl ?_
                  refine vo_nil ?_
                  refine hK18 _ ?_
                  refine vc_ret ?_
                  change retQ _ _ _ _ _
                  refine retQ_sel [] (srows := []) (.inr rfl) hC rfl rfl rfl rfl rfl rfl rfl ?_
                  first | exact ⟨rfl, rfl⟩ | (exfalso; simp_all; done) | (refine ⟨(congrArg (fun b => [bo b]) (?_ : _ = true) : [bo _] = [bo true]), rfl⟩; first | simp_all | (simp; omega)) | (simp [hn]) | (simp [hf5, hf6, hmt])
                · try simp only [decide_eq_true_eq, decide_eq_false_iff_not, beq_iff_eq, bne_iff_ne, beq_eq_false_iff_ne, bne_eq_false_iff_eq, Bool.not_eq_true, Bool.not_eq_false, Bool.not_eq_eq_eq_not, Bool.not_true, Bool.not_false, List.length_map, Int.not_lt, Int.not_le, ne_eq, Decidable.not_not] at hg13
                  refine vo_guard_off rfl rfl rfl rfl rfl ?_
                  refine vo_guard_off rfl rfl rfl rfl rfl ?_
                  refine vo_guard_off rfl rfl rfl rfl rfl ?_
                  refine vo_pick_f rfl rfl ?_
                  refine vo_assign_pv rfl rfl ?_
                  refine vo_nil ?_
                  refine hK18 _ ?_
                  refine vc_ret ?_
                  change retQ _ _ _ _ _
                  refine retQ_sel [] (srows := []) (.inr rfl) hC rfl rfl rfl rfl rfl rfl rfl ?_
                  first | exact ⟨rfl, rfl⟩ | (exfalso; simp_all; done) | (refine ⟨(congrArg (fun b => [bo b]) (?_ : _ = true) : [bo _] = [bo true]), rfl⟩; first | simp_all | (simp; omega)) | (simp [hn]) | (simp [hf5, hf6, hmt])
              · try simp only [decide_eq_true_eq, decide_eq_false_iff_not, beq_iff_eq, bne_iff_ne, beq_eq_false_iff_ne, bne_eq_false_iff_eq, Bool.not_eq_true, Bool.not_eq_false, Bool.not_eq_eq_eq_not, Bool.not_true, Bool.not_false, List.length_map, Int.not_lt, Int.not_le, ne_eq, Decidable.not_not] at hc12
                have hln : 0 < (ownM W z y).length := by omega
                obtain ⟨hf3, hf4, hf5, hf6, hf7⟩ := ownM_found hln
                have hA4 : (W.attrs.getD (fndM W z y).1.toNat []).length ≤ 4 := hb5 _ (getD_mem (by omega) _)
                refine vc_skip ?_
                refine hK16 _ ?_
                refine vc_seq fun K19 hK19 => ?_
                refine vc_region ?_
                refine vo_assign_pv rfl rfl ?_
                refine vo_nil ?_
                refine hK19 _ ?_
                refine vc_seq fun K20 hK20 => ?_
                refine vc_seq fun K21 hK21 => ?_
                refine vc_region ?_
                refine vo_assign_pv rfl rfl ?_
                refine vo_nil ?_
                refine hK21 _ ?_
                refine vc_block ?_
                refine vc_stM ?_
                refine vc_loopE [3, 5, 6, 7, 10] [11, 12] [] _ _ (fun mz vs rs => ∃ (k : Nat) (mb : Bool), mz = (W.attrs.getD (fndM W z y).1.toNat []).length - k ∧ (k ≤ (W.attrs.getD (fndM W z y).1.toNat []).length) ∧ ((mb = decide ((fndM W z y).2 ∈ (W.attrs.getD (fndM W z y).1.toNat []).take k))) ∧ vs = [.pv true (.bool mb), i64 k] ∧ rs = []) ((W.attrs.getD (fndM W z y).1.toNat []).length) rfl rfl (le_len hC rfl) ⟨rfl, rfl, rfl⟩ rfl ⟨0, _, rfl, Nat.zero_le _, (by simp), rfl, rfl⟩ ?_
                rintro mz vs rs - - ⟨k, mb, rfl, hk, hm, rfl, rfl⟩
                refine vc_stM ?_
                refine vc_seq fun K22 hK22 => ?_
                refine vc_seq fun K23 hK23 => ?_
                refine vc_region ?_
                refine vo_move_pv rfl rfl ?_
                refine vo_fieldAddr_ptr rfl rfl Try.underlying65 rfl inf62 (by rw [sz62]; decide) ?_
                try simp only [Nat.zero_add]
                refine vo_load_var rfl rfl rfl Try.underlying62 rfl rfl ?_
                refine vo_move_pv rfl rfl ?_
                refine vo_index_pv (.sl none 3 []) rfl rfl rfl E62.und inf84 sz84 sd sd ?_
                simp only [Int.toNat_natCast, Int.toNat_zero, getD_ints, getD_intss, getD_bools, getD_bytes, PV.cells, getD_ops, getD_pairs, getD_insts, getD_attrs, getD_attrss, getD_objs, getD_ordP]
                refine vo_load_adr rfl rfl Try.underlying84 rfl ?_
                refine vo_len_pv rfl rfl Try.underlying84 ?_
                refine vo_binI rfl rfl rfl rfl trivial ?_
                refine vo_nil ?_
                refine hK23 _ ?_
                refine vc_cond rfl (fun hc14 => ?_) (fun hc14 => ?_)
                · try simp only [decide_eq_true_eq, decide_eq_false_iff_not, beq_iff_eq, bne_iff_ne, beq_eq_false_iff_ne, bne_eq_false_iff_eq, Bool.not_eq_true, Bool.not_eq_false, Bool.not_eq_eq_eq_not, Bool.not_true, Bool.not_false, List.length_map, Int.not_lt, Int.not_le, ne_eq, Decidable.not_not] at hc14
                  refine vc_skip ?_
                  refine hK22 _ ?_
                  refine vc_seq fun K24 hK24 => ?_
                  refine vc_block ?_
                  refine vc_draw (by kernel_rfl) ?_
                  change VD _ _ _ 14 _ _ _
                  refine vd_light 0 rfl rfl rfl (by kernel_rfl) (by kernel_rfl) (by kernel_rfl) (wnt_none rfl) (lt_move_pv rfl) ?_
                  refine vd_light 1 rfl rfl rfl (by kernel_rfl) (by kernel_rfl) (by kernel_rfl) (wnt_none rfl) (lt_move_pv rfl) ?_
                  refine vd_split 93 rfl (fun hg15 => ?_) (fun hg15 => ?_)
                  · try simp only [decide_eq_true_eq, decide_eq_false_iff_not, beq_iff_eq, bne_iff_ne, beq_eq_false_iff_ne, bne_eq_false_iff_eq, Bool.not_eq_true, Bool.not_eq_false, Bool.not_eq_eq_eq_not, Bool.not_true, Bool.not_false, List.length_map, Int.not_lt, Int.not_le, ne_eq, Decidable.not_not] at hg15
                    refine vd_skip 2 rfl rfl rfl (by kernel_rfl) (by kernel_rfl) (by kernel_rfl) (wnt_off rfl rfl rfl rfl rfl) ?_
                    refine vd_skip 3 rfl rfl rfl (by kernel_rfl) (by kernel_rfl) (by kernel_rfl) (wnt_off rfl rfl rfl rfl rfl) ?_
                    refine vd_skip 4 rfl rfl rfl (by kernel_rfl) (by kernel_rfl) (by kernel_rfl) (wnt_off rfl rfl rfl rfl rfl) ?_
                    refine vd_skip 5 rfl rfl rfl (by kernel_rfl) (by kernel_rfl) (by kernel_rfl) (wnt_off rfl rfl rfl rfl rfl) ?_
                    refine vd_skip 6 rfl rfl rfl (by kernel_rfl) (by kernel_rfl) (by kernel_rfl) (wnt_off rfl rfl rfl rfl rfl) ?_
                    refine vd_skip 7 rfl rfl rfl (by kernel_rfl) (by kernel_rfl) (by kernel_rfl) (wnt_off rfl rfl rfl rfl rfl) ?_
                    refine vd_skip 8 rfl rfl rfl (by kernel_rfl) (by kernel_rfl) (by kernel_rfl) (wnt_off rfl rfl rfl rfl rfl) ?_
                    refine vd_skip 9 rfl rfl rfl (by kernel_rfl) (by kernel_rfl) (by kernel_rfl) (wnt_off rfl rfl rfl rfl rfl) ?_
                    refine vd_skip 10 rfl rfl rfl (by kernel_rfl) (by kernel_rfl) (by kernel_rfl) (wnt_off rfl rfl rfl rfl rfl) ?_
                    refine vd_skip 11 rfl rfl rfl (by kernel_rfl) (by kernel_rfl) (by kernel_rfl) (wnt_off rfl rfl rfl rfl rfl) ?_
                    refine vd_light 12 rfl rfl rfl (by kernel_rfl) (by kernel_rfl) (by kernel_rfl) (wnt_none rfl) (lt_pick_t rfl) ?_
                    refine vd_light 13 rfl rfl rfl (by kernel_rfl) (by kernel_rfl) (by kernel_rfl) (wnt_none rfl) (lt_assign_pv rfl) ?_
                    refine vd_nil (by kernel_rfl) ?_
                    refine hK24 _ ?_
                    refine vc_region ?_
                    refine vo_move_pv rfl rfl ?_
                    refine vo_binI rfl rfl rfl rfl sd ?_
                    refine vo_assign_pv rfl rfl ?_
                    refine vo_nil ?_
                    change againE _ _ _ _ _ _ _ _ _ _
                    refine againE_mk rfl rfl rfl rfl rfl rfl ⟨_, ?_, k + 1, _, rfl, ?_, ?_, rfl, rfl⟩
                    · omega
                    · omega
                    · rw [mem_take_succ (by omega) ⟨0, 0, 0⟩, ← hm]; first | (simp only [attr_beq]; simp_all; done) | (simp_all; done)
                  · try simp only [decide_eq_true_eq, decide_eq_false_iff_not, beq_iff_eq, bne_iff_ne, beq_eq_false_iff_ne, bne_eq_false_iff_eq, Bool.not_eq_true, Bool.not_eq_false, Bool.not_eq_eq_eq_not, Bool.not_true, Bool.not_false, List.length_map, Int.not_lt, Int.not_le, ne_eq, Decidable.not_not] at hg15
                    refine vd_light 2 rfl rfl rfl (by kernel_rfl) (by kernel_rfl) (by kernel_rfl) (wnt_on rfl rfl rfl rfl) (lt_fieldAddr_ptr rfl Try.underlying65 rfl inf62 (by rw [sz62]; decide)) ?_
                    try simp only [Nat.zero_add]
                    refine vd_light 3 rfl rfl rfl (by kernel_rfl) (by kernel_rfl) (by kernel_rfl) (wnt_on rfl rfl rfl rfl) (lt_load_var rfl rfl Try.underlying62 rfl rfl) ?_
                    refine vd_light 4 rfl rfl rfl (by kernel_rfl) (by kernel_rfl) (by kernel_rfl) (wnt_on rfl rfl rfl rfl) (lt_move_pv rfl) ?_
                    refine vd_light 5 rfl rfl rfl (by kernel_rfl) (by kernel_rfl) (by kernel_rfl) (wnt_on rfl rfl rfl rfl) (lt_index_pv (.sl none 3 []) rfl rfl E62.und inf84 sz84 sd sd) ?_
                    simp only [Int.toNat_natCast, Int.toNat_zero, getD_ints, getD_intss, getD_bools, getD_bytes, PV.cells, getD_ops, getD_pairs, getD_insts, getD_attrs, getD_attrss, getD_objs, getD_ordP]
                    refine vd_light 6 rfl rfl rfl (by kernel_rfl) (by kernel_rfl) (by kernel_rfl) (wnt_on rfl rfl rfl rfl) (lt_load_adr rfl Try.underlying84 rfl) ?_
                    refine vd_light 7 rfl rfl rfl (by kernel_rfl) (by kernel_rfl) (by kernel_rfl) (wnt_on rfl rfl rfl rfl) (lt_move_pv rfl) ?_
                    refine vd_light 8 rfl rfl rfl (by kernel_rfl) (by kernel_rfl) (by kernel_rfl) (wnt_on rfl rfl rfl rfl) (lt_index_pv (.agg [(.int .i64 0), (.int .i64 0), (.int .i64 0)]) rfl rfl E84.und inf73 sz73 sd sd) ?_
                    simp only [Int.toNat_natCast, Int.toNat_zero, getD_ints, getD_intss, getD_bools, getD_bytes, PV.cells, getD_ops, getD_pairs, getD_insts, getD_attrs, getD_attrss, getD_objs, getD_ordP]
                    refine vd_light 9 rfl rfl rfl (by kernel_rfl) (by kernel_rfl) (by kernel_rfl) (wnt_on rfl rfl rfl rfl) (lt_load_adrS rfl Try.underlying73 rfl inf73 sz73 rfl) ?_
                    refine vd_st (by (try simp only [St.put, PV.cells, PV.scal, List.drop_succ_cons, List.drop_zero, List.take_succ_cons, List.take_zero, List.map_cons, List.map_nil, Bool.or_true, Bool.or_false, Bool.false_or, Bool.true_or, opP, pairP, instP, heapP]); exact eq_refl _) ?_
                    refine vd_light 10 rfl rfl rfl (by kernel_rfl) (by kernel_rfl) (by kernel_rfl) (wnt_on rfl rfl rfl rfl) (lt_load_varS rfl rfl Try.underlying73 rfl inf73 sz73 rfl rfl) ?_
                    refine vd_light 11 rfl rfl rfl (by kernel_rfl) (by kernel_rfl) (by kernel_rfl) (wnt_on rfl rfl rfl rfl) (lt_eqS3 Q73 rfl rfl) ?_
                    refine vd_light 12 rfl rfl rfl (by kernel_rfl) (by kernel_rfl) (by kernel_rfl) (wnt_none rfl) (lt_pick_f rfl) ?_
                    refine vd_light 13 rfl rfl rfl (by kernel_rfl) (by kernel_rfl) (by kernel_rfl) (wnt_none rfl) (lt_assign_pv rfl) ?_
                    refine vd_nil (by kernel_rfl) ?_
                    refine hK24 _ ?_
                    refine vc_region ?_
                    refine vo_move_pv rfl rfl ?_
                    refine vo_binI rfl rfl rfl rfl sd ?_
                    refine vo_assign_pv rfl rfl ?_
                    refine vo_nil ?_
                    change againE _ _ _ _ _ _ _ _ _ _
                    refine againE_mk rfl rfl rfl rfl rfl rfl ⟨_, ?_, k + 1, _, rfl, ?_, ?_, rfl, rfl⟩
                    · omega
                    · omega
                    · rw [mem_take_succ (by omega) ⟨0, 0, 0⟩, ← hm]; first | (simp only [attr_beq]; simp_all; done) | (simp_all; done)
                · try simp only [decide_eq_true_eq, decide_eq_false_iff_not, beq_iff_eq, bne_iff_ne, beq_eq_false_iff_ne, bne_eq_false_iff_eq, Bool.not_eq_true, Bool.not_eq_false, Bool.not_eq_eq_eq_not, Bool.not_true, Bool.not_false, List.length_map, Int.not_lt, Int.not_le, ne_eq, Decidable.not_not] at hc14
                  have hmt : mb = true := by rw [hm, take_all (by omega)]; exact decide_eq_true hf7
                  refine vc_exit ?_
                  refine hK20 _ ?_
                  refine vc_seq fun K25 hK25 => ?_
                  refine vc_region ?_
                  refine vo_move_pv rfl rfl ?_
                  refine vo_move_pv rfl rfl ?_
                  refine vo_index_pv (.int .i64 0) rfl rfl rfl E36.und inf3 sz3 sd sd ?_
                  simp only [Int.toNat_natCast, Int.toNat_zero, getD_ints, getD_intss, getD_bools, getD_bytes, PV.cells, getD_ops, getD_pairs, getD_insts, getD_attrs, getD_attrss, getD_objs, getD_ordP]
                  refine vo_load_adr rfl rfl Try.underlying3 rfl ?_
                  refine vo_binI rfl rfl rfl rfl trivial ?_
                  refine vo_move_pv rfl rfl ?_
                  refine vo_split 110 rfl (fun hg16 => ?_) (fun hg16 => ?_)
                  · try simp only [decide_eq_true_eq, decide_eq_false_iff_not, beq_iff_eq, bne_iff_ne, beq_eq_false_iff_ne, bne_eq_false_iff_eq, Bool.not_eq_true, Bool.not_eq_false, Bool.not_eq_eq_eq_not, Bool.not_true, Bool.not_false, List.length_map, Int.not_lt, Int.not_le, ne_eq, Decidable.not_not] at hg16
                    refine vo_guard_on rfl rfl rfl ?_
                    refine vo_fieldAddr_ptr rfl rfl Try.underlying73 rfl inf3 (by rw [sz3]; decide) ?_
                    try simp only [Nat.zero_add]
                    refine vo_guard_on rfl rfl rfl ?_
                    refine vo_load_var rfl rfl rfl Try.underlying3 rfl rfl ?_
                    refine vo_guard_on rfl rfl rfl ?_
                    refine vo_move_pv rfl rfl ?_
                    refine vo_guard_on rfl rfl rfl ?_
                    refine vo_binI rfl rfl rfl rfl trivial ?_
                    refine vo_pick_t rfl rfl ?_
                    refine vo_move_pv rfl rfl ?_
                    refine vo_split 116 rfl (fun hg17 => ?_) (fun hg17 => ?_)
                    · try simp only [decide_eq_true_eq, decide_eq_false_iff_not, beq_iff_eq, bne_iff_ne, beq_eq_false_iff_ne, bne_eq_false_iff_eq, Bool.not_eq_true, Bool.not_eq_false, Bool.not_eq_eq_eq_not, Bool.not_true, Bool.not_false, List.length_map, Int.not_lt, Int.not_le, ne_eq, Decidable.not_not] at hg17
                      refine vo_guard_on rfl rfl rfl ?_
                      refine vo_move_pv rfl rfl ?_
                      refine vo_pick_t rfl rfl ?_
                      refine vo_assign_pv rfl rfl ?_
                      refine vo_nil ?_
                      refine hK25 _ ?_
                      refine vc_ret ?_
                      change retQ _ _ _ _ _
                      refine retQ_sel [] (srows := []) (.inr rfl) hC rfl rfl rfl rfl rfl rfl rfl ?_
                      first | exact ⟨rfl, rfl⟩ | (exfalso; simp_all; done) | (refine ⟨(congrArg (fun b => [bo b]) (?_ : _ = true) : [bo _] = [bo true]), rfl⟩; first | simp_all | (simp; omega)) | (simp [hn]) | (simp [hf5, hf6, hmt])
                    · try simp only [decide_eq_true_eq, decide_eq_false_iff_not, beq_iff_eq, bne_iff_ne, beq_eq_false_iff_ne, bne_eq_false_iff_eq, Bool.not_eq_true, Bool.not_eq_false, Bool.not_eq_eq_eq_not, Bool.not_true, Bool.not_false, List.length_map, Int.not_lt, Int.not_le, ne_eq, Decidable.not_not] at hg17
                      refine vo_guard_off rfl rfl rfl rfl rfl ?_
                      refine vo_pick_f rfl rfl ?_
                      refine vo_assign_pv rfl rfl ?_
                      refine vo_nil ?_
                      refine hK25 _ ?_
                      refine vc_ret ?_
                      change retQ _ _ _ _ _
                      refine retQ_sel [] (srows := []) (.inr rfl) hC rfl rfl rfl rfl rfl rfl rfl ?_
                      first | exact ⟨rfl, rfl⟩ | (exfalso; simp_all; done) | (refine ⟨(congrArg (fun b => [bo b]) (?_ : _ = true) : [bo _] = [bo true]), rfl⟩; first | simp_all | (simp; omega)) | (simp [hn]) | (simp [hf5, hf6, hmt])
                  · try simp only [decide_eq_true_eq, decide_eq_false_iff_not, beq_iff_eq, bne_iff_ne, beq_eq_false_iff_ne, bne_eq_false_iff_eq, Bool.not_eq_true, Bool.not_eq_false, Bool.not_eq_eq_eq_not, Bool.not_true, Bool.not_false, List.length_map, Int.not_lt, Int.not_le, ne_eq, Decidable.not_not] at hg16
                    refine vo_guard_off rfl rfl rfl rfl rfl ?_
                    refine vo_guard_off rfl rfl rfl rfl rfl ?_
                    refine vo_guard_off rfl rfl rfl rfl rfl ?_
                    refine vo_guard_off rfl rfl rfl rfl rfl ?_
                    refine vo_pick_f rfl rfl ?_
                    refine vo_move_pv rfl rfl ?_
                    refine vo_guard_off rfl rfl rfl rfl rfl ?_
                    refine vo_pick_f rfl rfl ?_
                    refine vo_assign_pv rfl rfl ?_
                    refine vo_nil ?_
                    refine hK25 _ ?_
                    refine vc_ret ?_
                    change retQ _ _ _ _ _
                    refine retQ_sel [] (srows := []) (.inr rfl) hC rfl rfl rfl rfl rfl rfl rfl ?_
                    first | exact ⟨rfl, rfl⟩ | (exfalso; simp_all; done) | (refine ⟨(congrArg (fun b => [bo b]) (?_ : _ = true) : [bo _] = [bo true]), rfl⟩; first | simp_all | (simp; omega)) | (simp [hn]) | (simp [hf5, hf6, hmt])

end Go.Vl

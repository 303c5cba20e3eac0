import Derived.Test.YtfdokliebmepladVladT25
import Derived.Test.YtfdokliebmepladVlDraw2
namespace Go.Vl
set_option linter.unusedVariables false
set_option linter.unusedSimpArgs false
open Go.Proofs
theorem vd_st {P : Program} {C : Ctx} {ops : Array Oper} {K : St → Prop} {s s' : St} {n : Nat} {listed : Array Bool} (h : s = s') (next : VD P C ops n listed K s') : VD P C ops n listed K s := by rw [h]; exact next
theorem ord_head {b : List (List Int)} {c : Nat} (h : ordM b c ≠ []) : (c : Int) ∈ ordM b c := by rw [(ordM_ne h).2.2]; exact List.mem_cons_self
theorem ord_abv {b : List (List Int)} (hv : VB b) : ∀ c, c < b.length → ∀ y ∈ ordM b c, Abv b c y.toNat := by
  intro c
  induction c using Nat.strongRecOn with
  | ind c ih =>
    intro hc y hy
    have hne : ordM b c ≠ [] := fun e => by rw [e] at hy; cases hy
    rw [(ordM_ne hne).2.2] at hy
    rcases List.mem_cons.1 hy with e | hm
    · subst e; exact .refl c
    · obtain ⟨l, hl, hyl⟩ := mergeF_mem _ _ _ hm
      rcases List.mem_append.1 hl with h4 | h4
      · obtain ⟨x, hx, rfl⟩ := List.mem_map.1 h4
        have hb := (hv.at hc).2.2 x hx
        rw [ordT_at hv hc hx] at hyl
        have h5 := ih x.toNat (by omega) (by omega) y hyl
        exact .step (d := x.toNat) (by rw [show ((x.toNat : Nat) : Int) = x by omega]; exact hx) h5
      · rw [List.mem_singleton.1 h4] at hyl
        have hb := (hv.at hc).2.2 y hyl
        exact .step (d := y.toNat) (by rw [show ((y.toNat : Nat) : Int) = y by omega]; exact hyl) (.refl _)
theorem abv_ord {b : List (List Int)} (hv : VB b) {c x : Nat} (h : Abv b c x) : c < b.length → ordM b c ≠ [] → (x : Int) ∈ ordM b c := by
  induction h with
  | refl c => exact fun _ h => ord_head h
  | @step c d x h1 h2 ih =>
    intro hc hne
    have h3 := (ordM_sub hv c hc c (ord_head hne)).2.2
    have h4 : (d : Int) ∈ ordM b c := h3.subset h1
    have h5 := ordM_sub hv c hc d h4
    have hb := (hv.at hc).2.2 d h1
    exact h5.2.1.subset (ih (by omega) h5.1)
theorem ord_mem {b : List (List Int)} {z : Int} (h : orOK b z) (y : Int) : y ∈ orR b z ↔ y ∈ abvR b z := by
  rw [orR_yes h]
  obtain ⟨⟨hv, h0, h1⟩, hne⟩ := h
  obtain ⟨c, rfl⟩ := Int.eq_ofNat_of_zero_le h0
  constructor
  · intro hy
    have h2 := ord_abv hv c (by omega) y hy
    have h3 := (ordM_ok hv c (by omega)).2 y hy
    have := abvR_of_Abv hv (by omega) h2
    rwa [show ((y.toNat : Nat) : Int) = y by omega] at this
  · intro hy
    obtain ⟨_, h2, h3, h4⟩ := abvR_mem hy
    have := abv_ord hv h4 (by omega) hne
    rwa [show ((y.toNat : Nat) : Int) = y by omega] at this
theorem nodup_sub : ∀ (a b : List Int), a.Nodup → (∀ x ∈ a, x ∈ b) → a.length ≤ b.length
  | [], _, _, _ => Nat.zero_le _
  | x :: a, b, h, hs => by
    have hx := hs x List.mem_cons_self
    have h1 := nodup_sub a (b.erase x) (List.nodup_cons.1 h).2 fun y hy => by
      have hne : y ≠ x := fun e => (List.nodup_cons.1 h).1 (e ▸ hy)
      exact (List.mem_erase_of_ne hne).2 (hs y (List.mem_cons_of_mem _ hy))
    rw [List.length_erase_of_mem hx] at h1
    have := List.length_pos_of_mem hx
    rw [List.length_cons]; omega
theorem orR_nodup {b : List (List Int)} {z : Int} (h : orOK b z) : (orR b z).Nodup := by
  rw [orR_yes h]; exact (ordM_ok h.1.1 _ (by have := h.1; omega)).1
theorem abvR_nodup (b : List (List Int)) (z : Int) : (abvR b z).Nodup := (abvR_asc b z).imp fun h => by omega
theorem ord_len {b : List (List Int)} {z : Int} (h : orOK b z) : (orR b z).length = (abvR b z).length :=
  Nat.le_antisymm (nodup_sub _ _ (orR_nodup h) fun x hx => (ord_mem h x).1 hx) (nodup_sub _ _ (abvR_nodup b z) fun x hx => (ord_mem h x).2 hx)
theorem after_not {o t : List Int} {y : Int} {i : Nat} (hn : o.Nodup) (hi : i < o.length) (hy : o.getD i 0 = y) (hs : (y :: t).Sublist o) : ∀ x ∈ t, x ∉ o.take (i+1) := by
  have ey : o[i] = y := by rw [← hy, List.getD, List.getElem?_eq_getElem hi]; rfl
  have e : o = o.take i ++ y :: o.drop (i+1) := by rw [← ey, ← List.drop_eq_getElem_cons hi, List.take_append_drop]
  have hyt : y ∉ o.take i := by
    intro hm
    rw [e] at hn
    exact (List.nodup_append.1 hn).2.2 y hm y List.mem_cons_self rfl
  rw [e] at hs
  obtain ⟨l1, l2, h1, h2, h3⟩ := List.sublist_append_iff.1 hs
  have ht : t.Sublist (o.drop (i+1)) := by
    cases l1 with
    | nil =>
      rw [List.nil_append] at h1
      rw [← h1] at h3
      exact List.cons_sublist_cons.1 h3
    | cons a l1 =>
      rw [List.cons_append] at h1
      injection h1 with h4 h5
      exact (hyt (by rw [h4]; exact h2.subset List.mem_cons_self)).elim
  intro x hx hm
  have h4 := ht.subset hx
  have h5 : (o.take (i+1) ++ o.drop (i+1)).Nodup := by rw [List.take_append_drop]; exact hn
  exact (List.nodup_append.1 h5).2.2 x hm x h4 rfl
theorem mem_take {l : List Int} {k j : Nat} (h : k < l.length) (hj : k < j) : l.getD k 0 ∈ l.take j := by
  have h1 : (l.take j).getD k 0 = l.getD k 0 := by simp only [List.getD, List.getElem?_take]; rw [if_pos hj]
  rw [← h1]; exact getD_mem (by rw [List.length_take]; omega) 0
theorem not_take {l : List Int} {i : Nat} (hn : l.Nodup) (h : i < l.length) : l.getD i 0 ∉ l.take i := by
  intro hm
  have h5 : (l.take i ++ l.drop i).Nodup := by rw [List.take_append_drop]; exact hn
  have e : l.getD i 0 = l[i] := by rw [List.getD, List.getElem?_eq_getElem h]; rfl
  exact (List.nodup_append.1 h5).2.2 _ hm _ (by rw [List.drop_eq_getElem_cons h, e]; exact List.mem_cons_self) rfl
theorem orR_cons {b : List (List Int)} {z : Int} (h : orOK b z) : ∃ t, orR b z = z :: t := by
  have h1 := h.1
  refine ⟨(mergeM (ordL (ordT b z.toNat) (b.getD z.toNat []) ++ [b.getD z.toNat []])).1, ?_⟩
  rw [orR_yes h, (ordM_ne h.2).2.2, show ((z.toNat : Nat) : Int) = z by omega]
theorem ord_low {b : List (List Int)} {z : Int} (h : orOK b z) {i k : Nat} (hi : i < (orR b z).length) (hk : k < i) : (orR b z).getD k 0 ∉ abvR b ((orR b z).getD i 0) := by
  intro hm
  obtain ⟨g1, g2, _⟩ := keep_ord h (getD_mem hi 0)
  have hn := orR_nodup h
  rw [← ord_mem g1] at hm
  obtain ⟨t, ht⟩ := orR_cons g1
  have hsub : (orR b ((orR b z).getD i 0)).Sublist (orR b z) := by
    have := g2.2.2
    exact (kpN_sub _ _ 0 (Nat.zero_le _)).1 this
  rw [ht] at hsub hm
  rcases List.mem_cons.1 hm with h5 | h5
  · exact not_take hn hi (h5 ▸ mem_take (by omega) hk)
  · exact after_not hn hi rfl hsub _ h5 (mem_take (by omega) (by omega))
theorem ord_last {b : List (List Int)} {z : Int} (h : orOK b z) : (orR b z).getD ((orR b z).length - 1) 0 = 0 := by
  obtain ⟨t0, h0⟩ := orR_cons h
  have hp : 0 < (orR b z).length := by rw [h0]; simp
  have hi : (orR b z).length - 1 < (orR b z).length := by omega
  obtain ⟨g1, g2, _, g3, g4⟩ := keep_ord h (getD_mem hi 0)
  obtain ⟨t, ht⟩ := orR_cons g1
  have hsub : (orR b ((orR b z).getD ((orR b z).length - 1) 0)).Sublist (orR b z) := (kpN_sub _ _ 0 (Nat.zero_le _)).1 g2.2.2
  rw [ht] at hsub
  have hz : (0 : Int) ∈ abvR b ((orR b z).getD ((orR b z).length - 1) 0) := by
    have h1 := abvR_zero g1.1.1 g3 g4
    have h2 : 0 < (abvR b ((orR b z).getD ((orR b z).length - 1) 0)).length := by rw [← ord_len g1, ht]; simp
    have := getD_mem h2 0
    rwa [h1] at this
  rw [← ord_mem g1, ht] at hz
  rcases List.mem_cons.1 hz with h5 | h5
  · exact h5.symm
  · have h6 := after_not (orR_nodup h) hi rfl hsub _ h5
    rw [List.take_of_length_le (by omega)] at h6
    exact (h6 (hsub.subset (List.mem_cons_of_mem _ h5))).elim
def srtL (l : List Int) (n : Nat) : List Int := ((List.range n).filter (fun (i : Nat) => decide ((i : Int) ∈ l))).map (fun (i : Nat) => (i : Int))
theorem srt_succ (l : List Int) (n : Nat) : srtL l (n+1) = if (n : Int) ∈ l then srtL l n ++ [(n : Int)] else srtL l n := by
  unfold srtL
  rw [List.range_succ, List.filter_append, List.map_append]
  by_cases h : (n : Int) ∈ l <;> simp [h]
theorem srt_len (l : List Int) (n : Nat) : (srtL l n).length ≤ n := by
  unfold srtL
  rw [List.length_map]
  exact Nat.le_trans (List.length_filter_le _ _) (by simp)
theorem ord_srt {b : List (List Int)} {z : Int} (h : orOK b z) : srtL (orR b z) b.length = abvR b z := by
  have h1 := h.1
  have e : abvR b z = abvL b z.toNat := by
    have := abvR_of h1.1 (show z.toNat < b.length by omega)
    rwa [show ((z.toNat : Nat) : Int) = z by omega] at this
  rw [e]
  unfold srtL abvL idxB idxT
  rw [abvB_len]
  congr 1
  refine List.filter_congr fun i hi => ?_
  have h2 := ord_mem h (i : Int)
  rw [e] at h2
  have h3 := abvB_iff h1.1.bd' (show z.toNat < b.length by omega) i
  have h4 := mem_abvL h1.1.bd' (show z.toNat < b.length by omega) (i : Int)
  have h5 : (i : Int) ∈ orR b z ↔ (abvB b z.toNat).getD i false = true := by
    rw [h2, h4, h3]
    exact ⟨fun ⟨j, e1, e2⟩ => by rw [show i = j by omega]; exact e2, fun h => ⟨i, rfl, h⟩⟩
  by_cases h6 : (i : Int) ∈ orR b z
  · rw [decide_eq_true h6, h5.1 h6]
  · rw [decide_eq_false h6]
    exact (Bool.eq_false_iff.2 (fun e => h6 (h5.2 e))).symm

end Go.Vl

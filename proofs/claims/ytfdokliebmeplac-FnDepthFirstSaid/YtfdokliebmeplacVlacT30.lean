import Derived.Test.YtfdokliebmeplacVlacT27
import Derived.Test.YtfdokliebmeplacVlDraw2
namespace Go.Vl
set_option linter.unusedVariables false
set_option linter.unusedSimpArgs false
open Go.Proofs
theorem vd_st {P : Program} {C : Ctx} {ops : Array Oper} {K : St → Prop} {s s' : St} {n : Nat} {listed : Array Bool} (h : s = s') (next : VD P C ops n listed K s') : VD P C ops n listed K s := by rw [h]; exact next
theorem vd_expose {P : Program} {C : Ctx} {ops : Array Oper} {K : St → Prop} {s : St} {n : Nat} {listed : Array Bool} (id : Nat) {el e : Nat} {nl : Option Bool} {f : Bool} {xs : List PV} (hnb : C.nb ≤ id) (hrow : s.rows[id]? = some (.own el e nl f xs))
    (next : VD P C ops n listed K ⟨s.n, exposeE id (.pv f (.sl nl e xs)) s.env, (s.rows.map (Row.expose id (.pv f (.sl nl e xs)))).set id .dead⟩) : VD P C ops n listed K s :=
  fun m a w hs => next _ a w (hs.expose hnb hrow)
theorem vd_weaken {P : Program} {C : Ctx} {ops : Array Oper} {K : St → Prop} {s : St} {n : Nat} {listed : Array Bool} (u : Nat) {e : Nat} {nl : Option Bool} {f : Bool} {xs : List PV} (hu : look s.env u = .pv f (.sl nl e xs))
    (next : VD P C ops n listed K ⟨s.n, (u, .pv f (.sl none e xs)) :: s.env, s.rows⟩) : VD P C ops n listed K s := by
  intro m a w hs
  refine next m a w { hs with env := fun q => ?_ }
  show RS _ _ _ _ (look ((u, .pv f (.sl none e xs)) :: s.env) q) _
  rw [look_cons]
  split
  · rename_i e
    subst e
    have hv := hs.env q
    rw [hu] at hv
    exact .pv _ _ _ hv.pv_inv.weaken
  · exact hs.env q
def srtL (l : List Int) (n : Nat) : List Int := ((List.range n).filter (fun (i : Nat) => decide ((i : Int) ∈ l))).map (fun (i : Nat) => (i : Int))
theorem srt_succ (l : List Int) (n : Nat) : srtL l (n+1) = if (n : Int) ∈ l then srtL l n ++ [(n : Int)] else srtL l n := by
  unfold srtL
  rw [List.range_succ, List.filter_append, List.map_append]
  by_cases h : (n : Int) ∈ l <;> simp [h]
theorem srt_len (l : List Int) (n : Nat) : (srtL l n).length ≤ n := by
  unfold srtL
  rw [List.length_map]
  exact Nat.le_trans (List.length_filter_le _ _) (by simp)
theorem srt_abv {b : List (List Int)} {c : Nat} {l : List Int} (hv : VB b) (hc : c < b.length) (h : ∀ i : Nat, (i : Int) ∈ l ↔ Abv b c i) : srtL l b.length = abvR b c := by
  rw [abvR_of hv hc]
  unfold srtL abvL idxB idxT
  rw [abvB_len]
  congr 1
  refine List.filter_congr fun i _ => ?_
  have h5 : (i : Int) ∈ l ↔ (abvB b c).getD i false = true := by rw [h i, abvB_iff hv.bd' hc i]
  by_cases h6 : (i : Int) ∈ l
  · rw [decide_eq_true h6, h5.1 h6]
  · rw [decide_eq_false h6]
    exact (Bool.eq_false_iff.2 (fun e => h6 (h5.2 e))).symm
theorem wk_mem {b : List (List Int)} (hv : VB b) {c : Nat} (hc : c < b.length) (y : Int) : y ∈ wkM b c ↔ y = c ∨ ∃ x ∈ b.getD c [], y ∈ wkM b x.toNat := by
  show y ∈ _ :: _ ↔ _
  rw [List.mem_cons, List.mem_flatMap]
  constructor
  · rintro (h | ⟨x, hx, h⟩)
    · exact .inl h
    · exact .inr ⟨x, hx, by rwa [wkT_at hv hc hx] at h⟩
  · rintro (h | ⟨x, hx, h⟩)
    · exact .inl h
    · exact .inr ⟨x, hx, by rwa [wkT_at hv hc hx]⟩
theorem wk_bd {b : List (List Int)} (hv : VB b) : ∀ c, c < b.length → ∀ y ∈ wkM b c, 0 ≤ y ∧ y ≤ c := by
  intro c
  induction c using Nat.strongRecOn with
  | ind c ih =>
    intro hc y hy
    rcases (wk_mem hv hc y).1 hy with h | ⟨x, hx, h⟩
    · omega
    · have hb := (hv.at hc).2.2 x hx
      have := ih x.toNat (by omega) (by omega) y h
      omega
theorem wk_abv {b : List (List Int)} (hv : VB b) : ∀ c, c < b.length → ∀ i : Nat, (i : Int) ∈ wkM b c ↔ Abv b c i := by
  intro c
  induction c using Nat.strongRecOn with
  | ind c ih =>
    intro hc i
    rw [wk_mem hv hc]
    constructor
    · rintro (h | ⟨x, hx, h⟩)
      · rw [show i = c by omega]; exact .refl c
      · have hb := (hv.at hc).2.2 x hx
        exact .step (d := x.toNat) (by rw [show ((x.toNat : Nat) : Int) = x by omega]; exact hx) ((ih x.toNat (by omega) (by omega) i).1 h)
    · intro h
      cases h with
      | refl => exact .inl rfl
      | @step _ d _ h1 h2 =>
        have hb := (hv.at hc).2.2 d h1
        exact .inr ⟨d, h1, (ih d (by omega) (by omega) i).2 h2⟩
theorem once_mem : ∀ (l acc : List Int) (y : Int), y ∈ onceF acc l ↔ y ∈ acc ∨ y ∈ l
  | [], acc, y => by simp [onceF]
  | x :: l, acc, y => by
    rw [onceF, once_mem l]
    by_cases h : x ∈ acc
    · rw [if_pos h, List.mem_cons]
      constructor
      · rintro (h1 | h1)
        · exact .inl h1
        · exact .inr (.inr h1)
      · rintro (h1 | rfl | h1)
        · exact .inl h1
        · exact .inl h
        · exact .inr h1
    · rw [if_neg h, List.mem_append, List.mem_singleton, List.mem_cons]
      constructor
      · rintro ((h1 | h1) | h1)
        · exact .inl h1
        · exact .inr (.inl h1)
        · exact .inr (.inr h1)
      · rintro (h1 | h1 | h1)
        · exact .inl (.inl h1)
        · exact .inl (.inr h1)
        · exact .inr h1
theorem once_pre : ∀ (l acc : List Int), ∃ r, onceF acc l = acc ++ r
  | [], acc => ⟨[], by simp [onceF]⟩
  | x :: l, acc => by
    rw [onceF]
    split
    · exact once_pre l acc
    · obtain ⟨r, hr⟩ := once_pre l (acc ++ [x])
      exact ⟨[x] ++ r, by rw [hr, List.append_assoc]⟩
theorem once_app : ∀ (l1 l2 acc : List Int), onceF acc (l1 ++ l2) = onceF (onceF acc l1) l2
  | [], _, _ => rfl
  | x :: l1, l2, acc => by rw [List.cons_append, onceF, onceF, once_app l1]
theorem once_cons : ∀ (l acc : List Int) (c : Int), c ∉ l → onceF (c :: acc) l = c :: onceF acc l
  | [], _, _, _ => rfl
  | x :: l, acc, c, h => by
    have h1 : x ≠ c := fun e => h (e ▸ List.mem_cons_self)
    have h2 : c ∉ l := fun e => h (List.mem_cons_of_mem _ e)
    rw [onceF, onceF]
    by_cases hx : x ∈ acc
    · rw [if_pos hx, if_pos (List.mem_cons_of_mem _ hx)]; exact once_cons l acc c h2
    · rw [if_neg hx, if_neg (by simp [h1, hx]), List.cons_append]; exact once_cons l (acc ++ [x]) c h2
theorem df_cons {b : List (List Int)} {c : Nat} (hw : cwP b c) : ∃ r, dfR b c = (c : Int) :: r := by
  rw [dfR_yes hw]
  show ∃ r, onceF [] ((c : Int) :: _) = _
  rw [onceF]
  obtain ⟨r, hr⟩ := once_pre ((b.getD c []).flatMap (fun x => (wkT b c).getD x.toNat [])) [(c : Int)]
  exact ⟨r, by simpa using hr⟩
theorem df_part {b : List (List Int)} {c : Nat} (hw : cwP b c) (h0 : c ≠ 0) : cwP b ((b.getD c []).getD 0 0) ∧ ∃ r, dfR b c = (c : Int) :: (dfR b ((b.getD c []).getD 0 0) ++ r) := by
  obtain ⟨⟨hv, h1, h2⟩, h3⟩ := hw
  have hc : c < b.length := by omega
  have hCB := hv.2.2.2 c hc (by omega)
  have hpos : 0 < (b.getD c []).length := List.length_pos_iff.2 hCB.1
  have hm := getD_mem hpos 0
  have hb := (hv.at hc).2.2 _ hm
  have hw2 : cwP b ((b.getD c []).getD 0 0) := ⟨⟨hv, hb.1, by omega⟩, by omega⟩
  refine ⟨hw2, ?_⟩
  rw [dfR_yes hw2, dfR_yes ⟨⟨hv, h1, h2⟩, h3⟩]
  obtain ⟨r2, hr2⟩ : ∃ r2, wkM b c = (c : Int) :: (wkM b ((b.getD c []).getD 0 0).toNat ++ r2) := by
    unfold wkM wkS
    cases hl : b.getD c [] with
    | nil => exact absurd hl hCB.1
    | cons x l =>
      have hx := wkT_at hv hc (x := x) (by rw [hl]; exact List.mem_cons_self)
      refine ⟨l.flatMap (fun x => (wkT b c).getD x.toNat []), ?_⟩
      rw [List.flatMap_cons, hx]; rfl
  show ∃ r, onceF [] (wkM b c) = _
  rw [hr2]
  rw [onceF, if_neg (by simp), List.nil_append, once_app, once_cons _ [] _ (fun hm2 => by have := wk_bd hv _ (by omega) _ hm2; omega)]
  obtain ⟨r, hr⟩ := once_pre r2 ((c : Int) :: onceF [] (wkM b ((b.getD c []).getD 0 0).toNat))
  exact ⟨r, by rw [hr]; rfl⟩
theorem df_srt {b : List (List Int)} {c : Nat} (hw : cwP b c) : srtL (dfR b c) b.length = abvR b c :=
  srt_abv hw.1.1 (by have := hw.1; omega) fun i => by
    rw [dfR_yes hw]
    rw [once_mem]
    have := wk_abv hw.1.1 c (by have := hw.1; omega) i
    simpa using this

end Go.Vl

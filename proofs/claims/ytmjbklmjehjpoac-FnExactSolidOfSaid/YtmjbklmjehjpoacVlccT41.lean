import Derived.Test.YtmjbklmjehjpoacVlccT40
namespace Go.Vl
set_option linter.unusedVariables false
set_option linter.unusedSimpArgs false
open Go.Proofs

/- The fields of each class, as they are made, and as they are told. -/
theorem solM_root {b s : List (List Int)} (hs : VS b s) : solM b s 0 = 0 := by
  rw [solM_eq hs.1]
  have : solL b s 0 = [] := by unfold solL; rw [hs.1.2.2.1]; rfl
  rw [this, hs.2.2.1]; rfl
theorem solM_idem {b s : List (List Int)} (hs : VS b s) : ∀ c : Nat, c < b.length → 0 ≤ solM b s c → solM b s (solM b s c).toNat = solM b s c := by
  intro c
  induction c using Nat.strongRecOn with
  | ind c ih =>
    intro hc h
    have e := solM_eq hs.1 s c
    by_cases hneg : solF b 0 (solL b s c) < 0
    · rw [if_pos hneg] at e; omega
    · rw [if_neg hneg] at e
      by_cases hown : s.getD c [] = []
      · rw [if_pos hown] at e
        rcases (solF_pos (solL b s c) 0 (abvR_self hs.1 (by omega) (by omega)) (by omega)).1 with p1 | p1
        · rw [p1] at e; rw [e]; exact solM_root hs
        · obtain ⟨d, hd, e2⟩ := solL_mem.1 p1
          have hb := hs.1.bd hd
          rw [e, ← e2]
          exact ih d.toNat (by omega) (by omega) (by omega)
      · rw [if_neg hown] at e
        rw [e, Int.toNat_natCast]; exact e
/-- The base with whose layout a class goes on. -/
def bstM (b s : List (List Int)) (c : Nat) : Int := if c = 0 then -1 else if fba b (solL b s c) < 0 then -1 else (b.getD c []).getD (fba b (solL b s c)).toNat 0
def fldS (b s : List (List Int)) (o : List (List (Int × Int))) (c : Nat) : List (Int × Int) :=
  if bstM b s c < 0 then [] else o.getD (bstM b s c).toNat [] ++ (s.getD c []).map (fun n => ((c : Int), n))
def fldT (b s : List (List Int)) : Nat → List (List (Int × Int))
  | 0 => []
  | n+1 => fldT b s n ++ [fldS b s (fldT b s n) n]
def fldM (b s : List (List Int)) (c : Nat) : List (Int × Int) := fldS b s (fldT b s c) c
theorem fldT_len (b s : List (List Int)) : ∀ n, (fldT b s n).length = n
  | 0 => rfl
  | n+1 => by rw [fldT, List.length_append, fldT_len b s n]; rfl
theorem fldT_get (b s : List (List Int)) : ∀ (n k : Nat), k < n → (fldT b s n).getD k [] = fldM b s k
  | n+1, k, h => by
    rw [fldT]
    by_cases hk : k < n
    · rw [← fldT_get b s n k hk]; simp only [List.getD]; rw [List.getElem?_append_left (by rw [fldT_len]; exact hk)]
    · have : k = n := by omega
      subst this
      simp only [List.getD]; rw [List.getElem?_append_right (by rw [fldT_len]; exact Nat.le_refl _), fldT_len, Nat.sub_self]; rfl
theorem solL_getD {b s : List (List Int)} {c k : Nat} (h : k < (b.getD c []).length) : (solL b s c).getD k 0 = solM b s ((b.getD c []).getD k 0).toNat := by
  have e : (b.getD c []).getD k 0 = (b.getD c [])[k] := by rw [List.getD, List.getElem?_eq_getElem h]; rfl
  unfold solL
  rw [e, List.getD, List.getElem?_map, List.getElem?_eq_getElem h]; rfl
theorem solL_len (b s : List (List Int)) (c : Nat) : (solL b s c).length = (b.getD c []).length := List.length_map ..
theorem bst_spec {b s : List (List Int)} (hs : VS b s) {c : Nat} (hc : c < b.length) (hc0 : c ≠ 0) : (0 ≤ bstM b s c ↔ 0 ≤ solM b s c) ∧ (0 ≤ bstM b s c → bstM b s c ∈ b.getD c [] ∧ bstM b s c < c ∧ solM b s (bstM b s c).toNat = solF b 0 (solL b s c) ∧ 0 ≤ solF b 0 (solL b s c)) := by
  obtain ⟨f1, f2⟩ := fba_sol hs hc hc0
  have e := solM_eq hs.1 s c
  unfold bstM
  rw [if_neg hc0]
  by_cases h : fba b (solL b s c) < 0
  · rw [if_pos h]
    have : solF b 0 (solL b s c) < 0 := by
      rcases ilt_ge (solF b 0 (solL b s c)) 0 with h1 | h1
      · exact h1
      · have := f1.2 h1; omega
    rw [if_pos this] at e
    exact ⟨⟨fun h => by omega, fun h => by omega⟩, fun h => by omega⟩
  · rw [if_neg h]
    obtain ⟨g1, g2⟩ := f2 (by omega)
    have g3 := f1.1 (by omega)
    rw [if_neg (by omega)] at e
    have hm := getD_mem (show (fba b (solL b s c)).toNat < (b.getD c []).length by omega) 0
    have hb := hs.1.bd hm
    refine ⟨⟨fun _ => ?_, fun _ => hb.1⟩, fun _ => ⟨hm, hb.2, ?_, g3⟩⟩
    · rw [e]; split <;> omega
    · rw [← g2, solL_getD (by omega)]
theorem fldM_no {b s : List (List Int)} {c : Nat} (h : bstM b s c < 0) : fldM b s c = [] := if_pos h
theorem fldM_eq {b s : List (List Int)} (hs : VS b s) {c : Nat} (hc : c < b.length) (h : 0 ≤ bstM b s c) : fldM b s c = fldM b s (bstM b s c).toNat ++ (s.getD c []).map (fun n => ((c : Int), n)) := by
  have hc0 : c ≠ 0 := fun e => by unfold bstM at h; rw [if_pos e] at h; omega
  have := (bst_spec hs hc hc0).2 h
  show fldS b s _ c = _
  unfold fldS
  rw [if_neg (by omega), fldT_get b s c _ (by omega)]
/-- The classes with slots whose fields a class has. -/
def chnS (b s o : List (List Int)) (c : Nat) : List (List Int) := []
def chnT (b s : List (List Int)) : Nat → List (List Int)
  | 0 => []
  | n+1 => chnT b s n ++ [if solM b s n ≤ 0 then [] else (chnT b s n).getD (solF b 0 (solL b s (solM b s n).toNat)).toNat [] ++ [solM b s n]]
def chnM (b s : List (List Int)) (c : Nat) : List Int := if solM b s c ≤ 0 then [] else (chnT b s c).getD (solF b 0 (solL b s (solM b s c).toNat)).toNat [] ++ [solM b s c]
theorem chnT_len (b s : List (List Int)) : ∀ n, (chnT b s n).length = n
  | 0 => rfl
  | n+1 => by rw [chnT, List.length_append, chnT_len b s n]; rfl
theorem chnT_get (b s : List (List Int)) : ∀ (n k : Nat), k < n → (chnT b s n).getD k [] = chnM b s k
  | n+1, k, h => by
    rw [chnT]
    by_cases hk : k < n
    · rw [← chnT_get b s n k hk]; simp only [List.getD]; rw [List.getElem?_append_left (by rw [chnT_len]; exact hk)]
    · have : k = n := by omega
      subst this
      simp only [List.getD]; rw [List.getElem?_append_right (by rw [chnT_len]; exact Nat.le_refl _), chnT_len, Nat.sub_self]; rfl
theorem chnM_no {b s : List (List Int)} {c : Nat} (h : solM b s c ≤ 0) : chnM b s c = [] := if_pos h
/-- The lowest one below a class that is its own layout. -/
theorem low_spec {b s : List (List Int)} (hs : VS b s) {m : Nat} (hm : m < b.length) (hm0 : m ≠ 0) (h : solM b s m = m) : 0 ≤ solF b 0 (solL b s m) ∧ solF b 0 (solL b s m) < m ∧ solM b s (solF b 0 (solL b s m)).toNat = solF b 0 (solL b s m) := by
  have e := solM_eq hs.1 s m
  by_cases hneg : solF b 0 (solL b s m) < 0
  · rw [if_pos hneg] at e; omega
  · rcases (solF_pos (solL b s m) 0 (abvR_self hs.1 (by omega) (by omega)) (by omega)).1 with p1 | p1
    · rw [p1]; exact ⟨by omega, by omega, solM_root hs⟩
    · obtain ⟨d, hd, e2⟩ := solL_mem.1 p1
      have hb := hs.1.bd hd
      have hg := solM_G hs (c := d.toNat) (by omega) (by omega)
      have := abvR_mem hg.above
      refine ⟨by omega, by omega, ?_⟩
      rw [← e2]
      exact solM_idem hs d.toNat (by omega) (by omega)
theorem chnM_eq {b s : List (List Int)} (hs : VS b s) {c : Nat} (hc : c < b.length) (h : 0 < solM b s c) : chnM b s c = chnM b s (solF b 0 (solL b s (solM b s c).toNat)).toNat ++ [solM b s c] := by
  have hg := solM_G hs hc (by omega)
  have hle := abvR_mem hg.above
  have hid := solM_idem hs c hc (by omega)
  have hlow := low_spec hs (m := (solM b s c).toNat) (by omega) (by omega) (by omega)
  unfold chnM
  rw [if_neg (by omega), chnT_get b s c _ (by omega)]
  rfl
def flat (s : List (List Int)) (l : List Int) : List (Int × Int) := l.flatMap (fun x => (s.getD x.toNat []).map (fun n => (x, n)))
theorem chn_same {b s : List (List Int)} (hs : VS b s) {c d : Nat} (hc : c < b.length) (hd : d < b.length) (h : solM b s c = solM b s d) : chnM b s c = chnM b s d := by
  rcases ilt_ge 0 (solM b s c) with h1 | h1
  · rw [chnM_eq hs hc h1, chnM_eq hs hd (by omega), h]
  · rw [chnM_no h1, chnM_no (by omega)]
theorem fld_chn {b s : List (List Int)} (hs : VS b s) : ∀ c : Nat, c < b.length → 0 ≤ solM b s c → fldM b s c = flat s (chnM b s c) := by
  intro c
  induction c using Nat.strongRecOn with
  | ind c ih =>
    intro hc h
    by_cases hc0 : c = 0
    · subst hc0
      rw [chnM_no (by rw [solM_root hs]; omega), fldM_no (by unfold bstM; rw [if_pos rfl]; omega)]; rfl
    · obtain ⟨h1, h2⟩ := bst_spec hs hc hc0
      have hb := h1.2 h
      obtain ⟨g1, g2, g3, g4⟩ := h2 hb
      rw [fldM_eq hs hc hb, ih _ (by omega) (by omega) (by omega)]
      have e := solM_eq hs.1 s c
      rw [if_neg (by omega)] at e
      by_cases hown : s.getD c [] = []
      · rw [if_pos hown] at e
        rw [hown, List.map_nil, List.append_nil, chn_same hs (d := (bstM b s c).toNat) hc (by omega) (by omega)]
      · rw [if_neg hown] at e
        have e5 : (solM b s c).toNat = c := by omega
        rw [chnM_eq hs hc (by omega), e5]
        have hlow := low_spec hs hc hc0 e
        rw [chn_same hs (d := (bstM b s c).toNat) (c := (solF b 0 (solL b s c)).toNat) (by omega) (by omega) (by omega)]
        unfold flat
        rw [List.flatMap_append]
        congr 1
        simp [e]
/-- As the chain finds the lowest one. -/
def bstF (b : List (List Int)) (best : Int) : List Int → Int
  | [] => best
  | t :: r => if best ∈ abvR b t then bstF b t r else bstF b best r
theorem bstF_eq {b : List (List Int)} : ∀ (L : List Int) (best : Int), 0 ≤ solF b best L → bstF b best L = solF b best L
  | [], _, _ => rfl
  | t :: r, best, h => by
    unfold solF at h ⊢
    unfold bstF
    by_cases h1 : t < 0
    · rw [if_pos h1] at h; omega
    · rw [if_neg h1] at h ⊢
      by_cases h2 : best ∈ abvR b t
      · rw [if_pos h2] at h ⊢; rw [if_pos h2]; exact bstF_eq r t h
      · rw [if_neg h2] at h ⊢
        rw [if_neg h2]
        by_cases h3 : t ∈ abvR b best
        · rw [if_pos h3] at h ⊢; exact bstF_eq r best h
        · rw [if_neg h3] at h; omega
theorem bstF_drop {b : List (List Int)} {best : Int} {l : List Int} {k : Nat} (h : k < l.length) : bstF b best (l.drop k) = if best ∈ abvR b (l.getD k 0) then bstF b (l.getD k 0) (l.drop (k+1)) else bstF b best (l.drop (k+1)) := by
  rw [List.drop_eq_getElem_cons h, ← getD_at h 0]; rfl
theorem fldM_len {b s : List (List Int)} (hs : VS b s) : ∀ c : Nat, c < b.length → (fldM b s c).length ≤ 4 * c := by
  intro c
  induction c using Nat.strongRecOn with
  | ind c ih =>
    intro hc
    rcases ilt_ge (bstM b s c) 0 with h | h
    · rw [fldM_no h]; simp
    · have hc0 : c ≠ 0 := fun e => by unfold bstM at h; rw [if_pos e] at h; omega
      have h1 := (bst_spec hs hc hc0).2 h
      have h2 := ih (bstM b s c).toNat (by omega) (by omega)
      have h3 : (s.getD c []).length ≤ 4 := by
        have := (hs.2.2.2 _ (getD_mem (show c < s.length by have := hs.2.1; omega) [])).1.1
        omega
      rw [fldM_eq hs hc h, List.length_append, List.length_map]
      omega
theorem chnM_len {b s : List (List Int)} (hs : VS b s) : ∀ c : Nat, c < b.length → (chnM b s c).length ≤ c := by
  intro c
  induction c using Nat.strongRecOn with
  | ind c ih =>
    intro hc
    rcases ilt_ge 0 (solM b s c) with h | h
    · have hg := solM_G hs hc (by omega)
      have hle := abvR_mem hg.above
      have hid := solM_idem hs c hc (by omega)
      have hlow := low_spec hs (m := (solM b s c).toNat) (by omega) (by omega) (by omega)
      have := ih _ (show (solF b 0 (solL b s (solM b s c).toNat)).toNat < c by omega) (by omega)
      rw [chnM_eq hs hc h, List.length_append, List.length_singleton]
      omega
    · rw [chnM_no h]; simp
/-- The first base whose layout is the lowest. -/
def bbF (b s : List (List Int)) (best : Int) : List Int → Int
  | [] => best
  | d :: r => if solM b s best.toNat ≠ solM b s d.toNat ∧ solM b s best.toNat ∈ abvR b (solM b s d.toNat) then bbF b s d r else bbF b s best r
theorem bbF_drop {b s : List (List Int)} {best : Int} {l : List Int} {k : Nat} (h : k < l.length) : bbF b s best (l.drop k) = if solM b s best.toNat ≠ solM b s (l.getD k 0).toNat ∧ solM b s best.toNat ∈ abvR b (solM b s (l.getD k 0).toNat) then bbF b s (l.getD k 0) (l.drop (k+1)) else bbF b s best (l.drop (k+1)) := by
  rw [List.drop_eq_getElem_cons h, ← getD_at h 0]; rfl

end Go.Vl

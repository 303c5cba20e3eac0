import Derived.Test.YtmjbklmjehjpoacVlccT9
namespace Go.Vl
set_option linter.unusedVariables false
set_option linter.unusedSimpArgs false
open Go.Proofs

/- Layouts: the lowest of some solid classes, and the layout of each class. -/
theorem ilt_ge (a b : Int) : a < b ∨ b ≤ a := by omega
theorem abvR_anti {b : List (List Int)} {x y : Int} (h : x ∈ abvR b y) (h2 : y ∈ abvR b x) : x = y := by
  have h3 := (abvR_mem h).2
  have h4 := (abvR_mem h2).2
  omega
theorem abvR_slf {b : List (List Int)} {x c : Int} (h : x ∈ abvR b c) : x ∈ abvR b x := by
  have h1 := abvR_mem h
  exact abvR_self h1.1.1 h1.2.1 (by omega)
theorem abvR_root {b : List (List Int)} {c : Int} (hv : VB b) (h0 : 0 ≤ c) (h1 : c < b.length) : 0 ∈ abvR b c := by
  have := abvR_of_Abv hv (c := c.toNat) (by omega) (Abv_root hv c.toNat (by omega))
  rwa [show ((c.toNat : Nat) : Int) = c by omega] at this
/-- The lowest of classes, as it is found one by one; -1 where two are apart. -/
def solF (b : List (List Int)) (best : Int) : List Int → Int
  | [] => best
  | t :: r => if t < 0 then -1 else if best ∈ abvR b t then solF b t r else if t ∈ abvR b best then solF b best r else -1
theorem solF_pos {b : List (List Int)} : ∀ (L : List Int) (best : Int), best ∈ abvR b best → 0 ≤ solF b best L → (solF b best L = best ∨ solF b best L ∈ L) ∧ best ∈ abvR b (solF b best L) ∧ ∀ t ∈ L, t ∈ abvR b (solF b best L)
  | [], best, hb, _ => ⟨.inl rfl, hb, by simp⟩
  | t :: r, best, hb, h => by
    unfold solF at h ⊢
    by_cases h1 : t < 0
    · rw [if_pos h1] at h; omega
    · rw [if_neg h1] at h ⊢
      by_cases h2 : best ∈ abvR b t
      · rw [if_pos h2] at h ⊢
        have ht : t ∈ abvR b t := by
          have h3 := (abvR_mem h2).1
          exact abvR_self h3.1 h3.2.1 h3.2.2
        obtain ⟨a1, a2, a3⟩ := solF_pos r t ht h
        refine ⟨.inr ?_, abvR_trans a2 h2, fun x hx => ?_⟩
        · rcases a1 with a1 | a1
          · rw [a1]; exact List.mem_cons_self
          · exact List.mem_cons_of_mem _ a1
        · rcases List.mem_cons.1 hx with rfl | hx
          · exact a2
          · exact a3 x hx
      · rw [if_neg h2] at h ⊢
        by_cases h3 : t ∈ abvR b best
        · rw [if_pos h3] at h ⊢
          obtain ⟨a1, a2, a3⟩ := solF_pos r best hb h
          refine ⟨?_, a2, fun x hx => ?_⟩
          · rcases a1 with a1 | a1
            · exact .inl a1
            · exact .inr (List.mem_cons_of_mem _ a1)
          · rcases List.mem_cons.1 hx with rfl | hx
            · exact abvR_trans a2 h3
            · exact a3 x hx
        · rw [if_neg h3] at h; omega
theorem solF_ok {b : List (List Int)} : ∀ (L : List Int) (best : Int), 0 ≤ best → (∀ t ∈ L, 0 ≤ t) → (∀ x ∈ best :: L, ∀ y ∈ best :: L, x ∈ abvR b y ∨ y ∈ abvR b x) → 0 ≤ solF b best L
  | [], best, hb, _, _ => hb
  | t :: r, best, hb, h, h2 => by
    unfold solF
    have ht := h t List.mem_cons_self
    rw [if_neg (by omega)]
    split
    · exact solF_ok r t ht (fun x hx => h x (List.mem_cons_of_mem _ hx)) (fun x hx y hy => h2 x (List.mem_cons_of_mem _ hx) y (List.mem_cons_of_mem _ hy))
    · rename_i h3
      rcases h2 best List.mem_cons_self t (List.mem_cons_of_mem _ List.mem_cons_self) with h4 | h4
      · exact absurd h4 h3
      · rw [if_pos h4]
        refine solF_ok r best hb (fun x hx => h x (List.mem_cons_of_mem _ hx)) (fun x hx y hy => h2 x ?_ y ?_)
        · rcases List.mem_cons.1 hx with rfl | hx
          · exact List.mem_cons_self
          · exact List.mem_cons_of_mem _ (List.mem_cons_of_mem _ hx)
        · rcases List.mem_cons.1 hy with rfl | hy
          · exact List.mem_cons_self
          · exact List.mem_cons_of_mem _ (List.mem_cons_of_mem _ hy)
theorem solF_drop {b : List (List Int)} {best : Int} {l : List Int} {k : Nat} (h : k < l.length) : solF b best (l.drop k) = if l.getD k 0 < 0 then -1 else if best ∈ abvR b (l.getD k 0) then solF b (l.getD k 0) (l.drop (k+1)) else if l.getD k 0 ∈ abvR b best then solF b best (l.drop (k+1)) else -1 := by
  rw [List.drop_eq_getElem_cons h, ← getD_at h 0]; rfl
/-- The first of classes that is below all. -/
def fbaF (b : List (List Int)) (all : List Int) : List Int → Int → Int
  | [], _ => -1
  | a :: r, i => if ∀ y ∈ all, y ∈ abvR b a then i else fbaF b all r (i+1)
theorem fbaF_drop {b : List (List Int)} {all l : List Int} {k : Nat} (h : k < l.length) : fbaF b all (l.drop k) k = if ∀ y ∈ all, y ∈ abvR b (l.getD k 0) then (k : Int) else fbaF b all (l.drop (k+1)) (k+1) := by
  rw [List.drop_eq_getElem_cons h, ← getD_at h 0]; rfl
theorem fbaF_pos {b : List (List Int)} {all : List Int} : ∀ (l : List Int) (i : Int), 0 ≤ i → 0 ≤ fbaF b all l i → i ≤ fbaF b all l i ∧ fbaF b all l i < i + l.length ∧ ∀ y ∈ all, y ∈ abvR b (l.getD (fbaF b all l i - i).toNat 0)
  | [], i, hi, h => by simp [fbaF] at h
  | a :: r, i, hi, h => by
    unfold fbaF at h ⊢
    split
    · rename_i h1
      refine ⟨Int.le_refl _, by simp; omega, ?_⟩
      rw [show (i - i).toNat = 0 by omega]; exact h1
    · rename_i h1
      rw [if_neg h1] at h
      obtain ⟨a1, a2, a3⟩ := fbaF_pos r (i+1) (by omega) h
      refine ⟨by omega, by simp; omega, ?_⟩
      rw [show (fbaF b all r (i+1) - i).toNat = (fbaF b all r (i+1) - (i+1)).toNat + 1 by omega]
      exact a3
theorem fbaF_neg {b : List (List Int)} {all : List Int} : ∀ (l : List Int) (i : Int), 0 ≤ i → fbaF b all l i < 0 → ∀ a ∈ l, ¬ ∀ y ∈ all, y ∈ abvR b a
  | [], i, hi, h => by simp
  | a :: r, i, hi, h => by
    unfold fbaF at h
    split at h
    · omega
    · rename_i h1
      intro x hx
      rcases List.mem_cons.1 hx with rfl | hx
      · exact h1
      · exact fbaF_neg r (i+1) (by omega) h x hx
def fba (b : List (List Int)) (l : List Int) : Int := fbaF b l l 0
/-- The solid classes. -/
def solS (b : List (List Int)) (o l own : List Int) (c : Int) : Int :=
  if solF b 0 (l.map fun x => o.getD x.toNat 0) < 0 then -1 else if own = [] then solF b 0 (l.map fun x => o.getD x.toNat 0) else c
def solT (b s : List (List Int)) : Nat → List Int
  | 0 => []
  | n+1 => solT b s n ++ [solS b (solT b s n) (b.getD n []) (s.getD n []) n]
def solM (b s : List (List Int)) (c : Nat) : Int := solS b (solT b s c) (b.getD c []) (s.getD c []) c
theorem solT_len (b s : List (List Int)) : ∀ n, (solT b s n).length = n
  | 0 => rfl
  | n+1 => by rw [solT, List.length_append, solT_len b s n]; rfl
theorem solT_get (b s : List (List Int)) : ∀ (n k : Nat), k < n → (solT b s n).getD k 0 = solM b s k
  | n+1, k, h => by
    rw [solT]
    by_cases hk : k < n
    · rw [← solT_get b s n k hk]; simp only [List.getD]; rw [List.getElem?_append_left (by rw [solT_len]; exact hk)]
    · have : k = n := by omega
      subst this
      simp only [List.getD]; rw [List.getElem?_append_right (by rw [solT_len]; exact Nat.le_refl _), solT_len, Nat.sub_self]; rfl
/-- The solid classes of the bases of a class. -/
def solL (b s : List (List Int)) (c : Nat) : List Int := (b.getD c []).map fun x => solM b s x.toNat
theorem solL_eq {b : List (List Int)} (hv : VB b) (s : List (List Int)) (c : Nat) : ((b.getD c []).map fun x => (solT b s c).getD x.toNat 0) = solL b s c := by
  refine List.map_congr_left fun x hx => ?_
  have := hv.bd hx
  exact solT_get b s c _ (by omega)
theorem solM_eq {b : List (List Int)} (hv : VB b) (s : List (List Int)) (c : Nat) : solM b s c = if solF b 0 (solL b s c) < 0 then -1 else if s.getD c [] = [] then solF b 0 (solL b s c) else c := by
  unfold solM solS
  rw [solL_eq hv]
/-- What is known of the solid class of a class. -/
def hasS (s : List (List Int)) (x : Int) : Prop := s.getD x.toNat [] ≠ []
structure SolG (b s : List (List Int)) (c : Nat) (m : Int) : Prop where
  above : m ∈ abvR b c
  slots : m = 0 ∨ hasS s m
  all : ∀ x ∈ abvR b c, hasS s x → x ∈ abvR b m
  line : ∀ x ∈ abvR b c, ∀ y ∈ abvR b c, hasS s x → hasS s y → x ∈ abvR b y ∨ y ∈ abvR b x
theorem abvR_cases {b : List (List Int)} (hv : VB b) {c : Nat} {x : Int} (h : x ∈ abvR b c) : x = c ∨ ∃ d ∈ b.getD c [], x ∈ abvR b d := by
  obtain ⟨⟨_, h1, h2⟩, h3, h4, h5⟩ := abvR_mem h
  by_cases he : x = c
  · exact .inl he
  · right
    have hc : c < b.length := by omega
    have hx : x = (x.toNat : Int) := by omega
    rw [hx, abvR_of hv hc, abvL_step hv hc (by omega)] at h
    obtain ⟨d, hd, h6⟩ := h
    have hb := hv.bd hd
    refine ⟨d, hd, ?_⟩
    have := abvR_of hv (n := d.toNat) (by omega)
    rw [show ((d.toNat : Nat) : Int) = d by omega] at this
    rw [this, hx]; exact h6
theorem abvR_up {b : List (List Int)} (hv : VB b) {c : Nat} (hc : c < b.length) {d x : Int} (hd : d ∈ b.getD c []) (h : x ∈ abvR b d) : x ∈ abvR b c :=
  abvR_trans (abvR_base hv (by omega) (by omega) d (by rw [Int.toNat_natCast]; exact hd)) h
theorem solL_mem {b s : List (List Int)} {c : Nat} {t : Int} : t ∈ solL b s c ↔ ∃ d ∈ b.getD c [], solM b s d.toNat = t := List.mem_map
theorem solM_le {b s : List (List Int)} (hv : VB b) (hs : VS b s) : ∀ c : Nat, c < b.length → -1 ≤ solM b s c ∧ (0 ≤ solM b s c → SolG b s c (solM b s c)) := by
  intro c
  induction c using Nat.strongRecOn with
  | ind c ih =>
    intro hc
    have hself : (c : Int) ∈ abvR b c := abvR_self hv (by omega) (by omega)
    have h0c : (0 : Int) ∈ abvR b c := abvR_root hv (by omega) (by omega)
    have h00 : (0 : Int) ∈ abvR b 0 := abvR_self hv (by omega) (by omega)
    rw [solM_eq hv]
    by_cases hneg : solF b 0 (solL b s c) < 0
    · rw [if_pos hneg]; exact ⟨by omega, fun h => by omega⟩
    · rw [if_neg hneg]
      obtain ⟨p1, p2, p3⟩ := solF_pos (solL b s c) 0 h00 (by omega)
      generalize hr : solF b 0 (solL b s c) = r at hneg p1 p2 p3
      have hIH : ∀ d ∈ b.getD c [], SolG b s d.toNat (solM b s d.toNat) ∧ solM b s d.toNat ∈ abvR b r ∧ ((d.toNat : Nat) : Int) = d := by
        intro d hd
        have hb := hv.bd hd
        have hm := p3 _ (solL_mem.2 ⟨d, hd, rfl⟩)
        exact ⟨(ih d.toNat (by omega) (by omega)).2 (abvR_mem hm).2.1, hm, by omega⟩
      -- all with slots above a base are above r
      have hall : ∀ d ∈ b.getD c [], ∀ x ∈ abvR b d, hasS s x → x ∈ abvR b r := by
        intro d hd x hx h1
        obtain ⟨g, hm, e⟩ := hIH d hd
        rw [← e] at hx
        exact abvR_trans hm (g.all x hx h1)
      -- r lies above a base, or there is none
      have hrc : c ≠ 0 → ∃ d ∈ b.getD c [], solM b s d.toNat = r := by
        intro hc0
        rcases p1 with p1 | p1
        · obtain ⟨d, hd⟩ := List.exists_mem_of_ne_nil _ (hv.2.2.2 c hc (by omega)).1
          obtain ⟨g, hm, e⟩ := hIH d hd
          rw [p1] at hm
          have := (abvR_mem hm).2
          exact ⟨d, hd, by omega⟩
        · exact solL_mem.1 p1
      have hline : ∀ x ∈ abvR b r, ∀ y ∈ abvR b r, hasS s x → hasS s y → x ∈ abvR b y ∨ y ∈ abvR b x := by
        intro x hx y hy h1 h2
        by_cases hc0 : c = 0
        · subst hc0
          have : r = 0 := by
            rcases p1 with p1 | p1
            · exact p1
            · obtain ⟨d, hd, _⟩ := solL_mem.1 p1
              rw [hv.2.2.1] at hd; cases hd
          subst this
          have h3 := (abvR_mem hx).2
          have h4 := (abvR_mem hy).2
          have : x = y := by omega
          subst this
          exact .inl (abvR_slf hx)
        · obtain ⟨d, hd, e⟩ := hrc hc0
          obtain ⟨g, hm, e2⟩ := hIH d hd
          rw [e] at g
          exact g.line x (abvR_trans g.above hx) y (abvR_trans g.above hy) h1 h2
      by_cases hown : s.getD c [] = []
      · rw [if_pos hown]
        refine ⟨by omega, fun _ => ?_⟩
        have hx' : ∀ x ∈ abvR b c, hasS s x → x ∈ abvR b r := by
          intro x hx h1
          rcases abvR_cases hv hx with e | ⟨d, hd, h2⟩
          · exfalso; apply h1; rw [e, Int.toNat_natCast]; exact hown
          · exact hall d hd x h2 h1
        refine ⟨?_, ?_, hx', fun x hx y hy h1 h2 => hline x (hx' x hx h1) y (hx' y hy h2) h1 h2⟩
        · by_cases hc0 : c = 0
          · rcases p1 with p1 | p1
            · rw [p1]; exact h0c
            · obtain ⟨d, hd, _⟩ := solL_mem.1 p1
              rw [hc0, hv.2.2.1] at hd; cases hd
          · obtain ⟨d, hd, e⟩ := hrc hc0
            obtain ⟨g, hm, e2⟩ := hIH d hd
            rw [e] at g
            have g2 := g.above
            rw [e2] at g2
            exact abvR_up hv hc hd g2
        · rcases p1 with p1 | p1
          · exact .inl p1
          · obtain ⟨d, hd, e⟩ := solL_mem.1 p1
            obtain ⟨g, hm, e2⟩ := hIH d hd
            rw [e] at g; exact g.slots
      · rw [if_neg hown]
        refine ⟨by omega, fun _ => ?_⟩
        have hslf : hasS s c := by unfold hasS; rw [Int.toNat_natCast]; exact hown
        refine ⟨hself, .inr hslf, fun x hx _ => hx, fun x hx y hy h1 h2 => ?_⟩
        rcases abvR_cases hv hx with e | ⟨d, hd, h3⟩
        · subst e; exact .inr hy
        · rcases abvR_cases hv hy with e | ⟨d2, hd2, h4⟩
          · subst e; exact .inl hx
          · exact hline x (hall d hd x h3 h1) y (hall d2 hd2 y h4 h2) h1 h2
theorem solM_G {b s : List (List Int)} (hs : VS b s) {c : Nat} (hc : c < b.length) (h : 0 ≤ solM b s c) : SolG b s c (solM b s c) := (solM_le hs.1 hs c hc).2 h
theorem solM_ge {b s : List (List Int)} (hs : VS b s) {c : Nat} (hc : c < b.length) : -1 ≤ solM b s c := (solM_le hs.1 hs c hc).1
theorem solL_pos {b s : List (List Int)} (hs : VS b s) {c : Nat} (hc : c < b.length) {t : Int} (ht : t ∈ solL b s c) (h : 0 ≤ t) : ∃ d ∈ b.getD c [], solM b s d.toNat = t ∧ 0 ≤ d ∧ d < c ∧ SolG b s d.toNat t := by
  obtain ⟨d, hd, e⟩ := solL_mem.1 ht
  have hb := hs.1.bd hd
  refine ⟨d, hd, e, hb.1, hb.2, ?_⟩
  rw [← e] at h ⊢
  exact solM_G hs (by omega) h
/-- On a line the lowest is told. -/
theorem solF_line {b s : List (List Int)} (hs : VS b s) {c : Nat} (hc : c < b.length) (hp : ∀ t ∈ solL b s c, 0 ≤ t) (hl : ∀ x ∈ solL b s c, ∀ y ∈ solL b s c, hasS s x → hasS s y → x ∈ abvR b y ∨ y ∈ abvR b x) : 0 ≤ solF b 0 (solL b s c) := by
  have hcl : ∀ x ∈ 0 :: solL b s c, x = 0 ∨ (x ∈ solL b s c ∧ hasS s x ∧ 0 ≤ x ∧ x < b.length) := by
    intro x hx
    rcases List.mem_cons.1 hx with h | h
    · exact .inl h
    · obtain ⟨d, hd, e, h1, h2, g⟩ := solL_pos hs hc h (hp x h)
      rcases g.slots with h3 | h3
      · exact .inl h3
      · have := abvR_mem g.above
        exact .inr ⟨h, h3, by omega, by omega⟩
  refine solF_ok _ _ (Int.le_refl _) hp fun x hx y hy => ?_
  rcases hcl x hx with rfl | ⟨h1, h2, h3, h4⟩
  · left
    rcases hcl y hy with rfl | ⟨h1, h2, h3, h4⟩
    · exact abvR_root hs.1 (by omega) (by omega)
    · exact abvR_root hs.1 h3 h4
  · rcases hcl y hy with rfl | ⟨g1, g2, g3, g4⟩
    · exact .inr (abvR_root hs.1 h3 h4)
    · exact hl x h1 y g1 h2 g2
/-- What is found one by one is what is below all. -/
theorem fba_sol {b s : List (List Int)} (hs : VS b s) {c : Nat} (hc : c < b.length) (hc0 : c ≠ 0) : (0 ≤ fba b (solL b s c) ↔ 0 ≤ solF b 0 (solL b s c)) ∧ (0 ≤ fba b (solL b s c) → fba b (solL b s c) < (b.getD c []).length ∧ (solL b s c).getD (fba b (solL b s c)).toNat 0 = solF b 0 (solL b s c)) := by
  have h00 : (0 : Int) ∈ abvR b 0 := abvR_self hs.1 (by omega) (by omega)
  have hlen : (solL b s c).length = (b.getD c []).length := List.length_map ..
  have key : 0 ≤ fba b (solL b s c) → fba b (solL b s c) < (b.getD c []).length ∧ (solL b s c).getD (fba b (solL b s c)).toNat 0 ∈ solL b s c ∧ ∀ y ∈ solL b s c, y ∈ abvR b ((solL b s c).getD (fba b (solL b s c)).toNat 0) := by
    intro h
    obtain ⟨a1, a2, a3⟩ := fbaF_pos (all := solL b s c) (solL b s c) 0 (Int.le_refl _) h
    rw [show fbaF b (solL b s c) (solL b s c) 0 - 0 = fba b (solL b s c) by unfold fba; omega] at a3
    have : fba b (solL b s c) < (b.getD c []).length := by unfold fba; omega
    exact ⟨this, getD_mem (by omega) 0, a3⟩
  have fwd : 0 ≤ fba b (solL b s c) → 0 ≤ solF b 0 (solL b s c) := by
    intro h
    obtain ⟨k1, k2, k3⟩ := key h
    have hp : ∀ t ∈ solL b s c, 0 ≤ t := fun t ht => (abvR_mem (k3 t ht)).2.1
    obtain ⟨d, hd, e, h1, h2, g⟩ := solL_pos hs hc k2 (hp _ k2)
    exact solF_line hs hc hp fun x hx y hy h3 h4 => g.line x (abvR_trans g.above (k3 x hx)) y (abvR_trans g.above (k3 y hy)) h3 h4
  refine ⟨⟨fwd, fun h => ?_⟩, fun h => ?_⟩
  · obtain ⟨p1, p2, p3⟩ := solF_pos (solL b s c) 0 h00 h
    rcases ilt_ge (fba b (solL b s c)) 0 with hn | hn
    · exfalso
      have h3 := fbaF_neg (all := solL b s c) (solL b s c) 0 (Int.le_refl _) hn
      have hmem : solF b 0 (solL b s c) ∈ solL b s c := by
        rcases p1 with p1 | p1
        · obtain ⟨d, hd⟩ := List.exists_mem_of_ne_nil _ (hs.1.2.2.2 c hc (by omega)).1
          have h4 : solM b s d.toNat ∈ solL b s c := solL_mem.2 ⟨d, hd, rfl⟩
          have h5 := p3 _ h4
          have h6 := abvR_mem h5
          have h7 : solM b s d.toNat = solF b 0 (solL b s c) := by omega
          rw [← h7]; exact h4
        · exact p1
      exact h3 _ hmem p3
    · exact hn
  · obtain ⟨k1, k2, k3⟩ := key h
    obtain ⟨p1, p2, p3⟩ := solF_pos (solL b s c) 0 h00 (fwd h)
    refine ⟨k1, ?_⟩
    have h5 := p3 _ k2
    rcases p1 with p1 | p1
    · have := abvR_mem h5; omega
    · exact abvR_anti h5 (k3 _ p1)

end Go.Vl

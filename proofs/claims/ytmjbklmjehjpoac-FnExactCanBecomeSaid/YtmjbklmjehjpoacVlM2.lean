/- Classes above a class, and below it. -/
import Derived.Test.YtmjbklmjehjpoacVlY
namespace Go.Vl
set_option linter.unusedVariables false
set_option linter.unusedSimpArgs false

/-- Steps lead from a class to another one. -/
inductive Abv (b : List (List Int)) : Nat → Nat → Prop
  | refl (c : Nat) : Abv b c c
  | step {c d x : Nat} (h : (d : Int) ∈ b.getD c []) (h2 : Abv b d x) : Abv b c x

theorem Abv.trans {b : List (List Int)} {c d x : Nat} (h : Abv b c d) (h2 : Abv b d x) : Abv b c x := by
  induction h with
  | refl c => exact h2
  | step h _ ih => exact .step h (ih h2)

def mkB (l : List Int) (m : List Bool) : List Bool := l.foldl (fun m x => m.set x.toNat true) m
def stB (b : List (List Int)) (i : Nat) (m : List Bool) : List Bool := if m.getD i false = true then mkB (b.getD i []) m else m
def goB (b : List (List Int)) : Nat → List Bool → List Bool
  | 0, m => m
  | i+1, m => goB b i (stB b (i+1) m)
/-- The same with the root, whose step is none. -/
def goC (b : List (List Int)) : Nat → List Bool → List Bool
  | 0, m => m
  | i+1, m => goC b i (stB b i m)
def abvB (b : List (List Int)) (c : Nat) : List Bool := goB b c ((List.replicate b.length false).set c true)
def idxT (m : List Bool) (k : Nat) : List Int := ((List.range k).filter (fun i => m.getD i false)).map (fun (i : Nat) => (i : Int))
def idxB (m : List Bool) : List Int := idxT m m.length
def abvL (b : List (List Int)) (c : Nat) : List Int := idxB (abvB b c)

theorem getD_set_b (m : List Bool) (i j : Nat) (v : Bool) : (m.set i v).getD j false = if i = j ∧ i < m.length then v else m.getD j false := by
  simp only [List.getD, List.getElem?_set]
  by_cases h : i = j
  · subst h
    by_cases h2 : i < m.length
    · simp [h2]
    · simp [h2, List.getElem?_eq_none (by omega : m.length ≤ i)]
  · simp [h]

theorem mkB_len (l : List Int) : ∀ m : List Bool, (mkB l m).length = m.length := by
  induction l with
  | nil => intro m; rfl
  | cons x l ih => intro m; exact (ih _).trans (by simp)

theorem mkB_get (l : List Int) : ∀ (m : List Bool) (j : Nat), (∀ x ∈ l, 0 ≤ x) → ((mkB l m).getD j false = true ↔ m.getD j false = true ∨ (j < m.length ∧ (j : Int) ∈ l)) := by
  induction l with
  | nil => intro m j _; simp [mkB]
  | cons x l ih =>
    intro m j h
    have := ih (m.set x.toNat true) j (fun y hy => h y (List.mem_cons_of_mem _ hy))
    show (mkB l (m.set x.toNat true)).getD j false = true ↔ _
    rw [this, getD_set_b, List.length_set, List.mem_cons]
    have hx := h x List.mem_cons_self
    constructor
    · rintro (h1 | ⟨h1, h2⟩)
      · split at h1
        · rename_i e; exact .inr ⟨by omega, .inl (by omega)⟩
        · exact .inl h1
      · exact .inr ⟨h1, .inr h2⟩
    · rintro (h1 | ⟨h1, h2 | h2⟩)
      · left; split <;> simp_all
      · left; rw [if_pos ⟨by omega, by omega⟩]
      · exact .inr ⟨h1, h2⟩

theorem stB_len (b : List (List Int)) (i : Nat) (m : List Bool) : (stB b i m).length = m.length := by
  unfold stB; split
  · exact mkB_len _ _
  · rfl

theorem goB_len (b : List (List Int)) : ∀ (i : Nat) (m : List Bool), (goB b i m).length = m.length
  | 0, m => rfl
  | i+1, m => (goB_len b i _).trans (stB_len b _ m)

theorem goC_goB {b : List (List Int)} (h0 : b.getD 0 [] = []) : ∀ (i : Nat) (m : List Bool), goC b (i+1) m = goB b i m
  | 0, m => by
    show stB b 0 m = m
    unfold stB; rw [h0]; split <;> rfl
  | i+1, m => goC_goB h0 i _

theorem goB_spec {b : List (List Int)} (hb : ∀ i x, x ∈ b.getD i [] → 0 ≤ x ∧ x < i) (hlt : ∀ i, b.length ≤ i → b.getD i [] = []) {c : Nat} : ∀ (i : Nat) (m : List Bool), m.length = b.length → i < b.length →
    (∀ x, m.getD x false = true → Abv b c x) → m.getD c false = true → (∀ j d : Nat, i < j → m.getD j false = true → (d : Int) ∈ b.getD j [] → m.getD d false = true) →
    ∀ r, r = goB b i m → (∀ x, r.getD x false = true → Abv b c x) ∧ r.getD c false = true ∧ ∀ j d : Nat, 0 < j → r.getD j false = true → (d : Int) ∈ b.getD j [] → r.getD d false = true
  | 0, m, hl, hi, h1, h2, h3, r, hr => by subst hr; exact ⟨h1, h2, h3⟩
  | i+1, m, hl, hi, h1, h2, h3, r, hr => by
    have hpos : ∀ x ∈ b.getD (i+1) [], 0 ≤ x := fun x hx => (hb _ x hx).1
    refine goB_spec hb hlt i (stB b (i+1) m) ((stB_len _ _ _).trans hl) (by omega) ?_ ?_ ?_ r hr
    · intro x hx
      unfold stB at hx
      split at hx
      · rename_i hm
        rcases (mkB_get _ _ _ hpos).1 hx with h | ⟨_, h⟩
        · exact h1 x h
        · exact (h1 _ hm).trans (.step h (.refl x))
      · exact h1 x hx
    · unfold stB
      split
      · exact (mkB_get _ _ _ hpos).2 (.inl h2)
      · exact h2
    · intro j d hj hm hd
      have hdj := hb j d hd
      have hjn : j < b.length := by
        rcases Nat.lt_or_ge j b.length with h | h
        · exact h
        · rw [hlt j h] at hd; cases hd
      have hm' : m.getD j false = true := by
        unfold stB at hm
        split at hm
        · rcases (mkB_get _ _ _ hpos).1 hm with h | ⟨_, h⟩
          · exact h
          · have := hb (i+1) j h; omega
        · exact hm
      unfold stB
      rcases Nat.lt_or_ge (i+1) j with h | h
      · have hmd := h3 j d h hm' hd
        split
        · exact (mkB_get _ _ _ hpos).2 (.inl hmd)
        · exact hmd
      · have e : j = i+1 := by omega
        subst e
        rw [if_pos hm']
        exact (mkB_get _ _ _ hpos).2 (.inr ⟨by omega, hd⟩)

theorem abvB_iff {b : List (List Int)} (hb : ∀ i x, x ∈ b.getD i [] → 0 ≤ x ∧ x < i) {c : Nat} (hc : c < b.length) (x : Nat) : (abvB b c).getD x false = true ↔ Abv b c x := by
  have hlt : ∀ i, b.length ≤ i → b.getD i [] = [] := fun i hi => by simp [List.getD, List.getElem?_eq_none hi]
  have hrep : ∀ x, ((List.replicate b.length false).set c true).getD x false = true ↔ x = c := by
    intro x
    rw [getD_set_b]
    by_cases h : c = x
    · subst h; simp [hc]
    · have : (List.replicate b.length false).getD x false = false := by
        simp only [List.getD, List.getElem?_replicate]
        split <;> rfl
      rw [if_neg (fun e => h e.1), this]; simp [Ne.symm h]
  obtain ⟨h1, h2, h3⟩ := goB_spec hb hlt (c := c) c ((List.replicate b.length false).set c true) (by simp) hc (fun x hx => by rw [(hrep x).1 hx]; exact .refl c) ((hrep c).2 rfl)
    (fun j d hj hm _ => by have := (hrep j).1 hm; omega) _ rfl
  refine ⟨h1 x, fun h => ?_⟩
  have key : ∀ {d x : Nat}, Abv b d x → (abvB b c).getD d false = true → (abvB b c).getD x false = true := by
    intro d x h
    induction h with
    | refl c => exact id
    | @step d e x hd _ ih =>
      intro hm
      refine ih (h3 d e ?_ hm hd)
      have := hb d e hd
      omega
  exact key h h2

theorem mem_idxT (m : List Bool) (k : Nat) (x : Int) : x ∈ idxT m k ↔ ∃ i : Nat, x = i ∧ i < k ∧ m.getD i false = true := by
  unfold idxT
  simp only [List.mem_map, List.mem_filter, List.mem_range]
  constructor
  · rintro ⟨i, ⟨h1, h2⟩, rfl⟩; exact ⟨i, rfl, h1, h2⟩
  · rintro ⟨i, rfl, h1, h2⟩; exact ⟨i, ⟨h1, h2⟩, rfl⟩

theorem idxT_succ (m : List Bool) (k : Nat) : idxT m (k+1) = if m.getD k false = true then idxT m k ++ [(k : Int)] else idxT m k := by
  unfold idxT
  rw [List.range_succ, List.filter_append, List.map_append]
  by_cases h : m.getD k false = true
  · rw [if_pos h]; simp only [List.filter_cons, h, List.filter_nil, if_true, List.map_cons, List.map_nil]
  · rw [if_neg h]; simp only [List.filter_cons, h, List.filter_nil, if_false, List.map_nil, List.append_nil, Bool.false_eq_true]

theorem idxT_len (m : List Bool) : ∀ k, (idxT m k).length ≤ k
  | 0 => by simp [idxT]
  | k+1 => by
    have := idxT_len m k
    rw [idxT_succ]
    split
    · simp; exact this
    · omega

theorem idxT_asc (m : List Bool) : ∀ k, (idxT m k).Pairwise (· < ·)
  | 0 => by simp [idxT]
  | k+1 => by
    have h := idxT_asc m k
    rw [idxT_succ]
    split
    · rw [List.pairwise_append]
      refine ⟨h, by simp, fun a ha c hc => ?_⟩
      obtain ⟨i, rfl, h1, _⟩ := (mem_idxT m k a).1 ha
      simp at hc
      omega
    · exact h

theorem getD_lt {m : List Bool} {i : Nat} (h : m.getD i false = true) : i < m.length := by
  rcases Nat.lt_or_ge i m.length with h1 | h1
  · exact h1
  · simp [List.getD, List.getElem?_eq_none h1] at h

theorem mem_abvL {b : List (List Int)} (hb : ∀ i x, x ∈ b.getD i [] → 0 ≤ x ∧ x < i) {c : Nat} (hc : c < b.length) (x : Int) : x ∈ abvL b c ↔ ∃ i : Nat, x = i ∧ Abv b c i := by
  unfold abvL idxB
  rw [mem_idxT]
  constructor
  · rintro ⟨i, h, _, h2⟩; exact ⟨i, h, (abvB_iff hb hc i).1 h2⟩
  · rintro ⟨i, h, h2⟩
    have := (abvB_iff hb hc i).2 h2
    exact ⟨i, h, getD_lt this, this⟩

theorem Abv.le {b : List (List Int)} (hb : ∀ i x, x ∈ b.getD i [] → 0 ≤ x ∧ x < i) {c x : Nat} (h : Abv b c x) : x ≤ c := by
  induction h with
  | refl c => exact Nat.le_refl _
  | @step c d x hd _ ih => have := hb c d hd; omega

theorem abvB_len (b : List (List Int)) (c : Nat) : (abvB b c).length = b.length := by
  unfold abvB; rw [goB_len]; simp
theorem abvL_len (b : List (List Int)) (c : Nat) : (abvL b c).length ≤ b.length := by
  unfold abvL idxB; have := idxT_len (abvB b c) (abvB b c).length; rwa [abvB_len] at this ⊢
theorem abvL_asc (b : List (List Int)) (c : Nat) : (abvL b c).Pairwise (· < ·) := idxT_asc _ _

/-- The marks of all classes below a class. -/
def belB (b : List (List Int)) (c : Nat) : List Bool := (List.range b.length).map (fun i => decide ((c : Int) ∈ abvL b i))
def belL (b : List (List Int)) (c : Nat) : List Int := idxB (belB b c)
end Go.Vl

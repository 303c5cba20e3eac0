/- Lists that keep others; merges of lists. -/
import Derived.Test.YtmjbklmjehjpoacVlY
namespace Go.Vl
set_option linter.unusedVariables false
set_option linter.unusedSimpArgs false

/-- How far the second list is met along the first one, from a place on. -/
def kpN (short : List Int) : List Int → Nat → Nat
  | [], a => a
  | x :: l, a => kpN short l (if a < short.length ∧ short.getD a 0 = x then a + 1 else a)

theorem kpN_drop (short long : List Int) (k a : Nat) (h : k < long.length) :
    kpN short (long.drop k) a = kpN short (long.drop (k+1)) (if a < short.length ∧ short.getD a 0 = long.getD k 0 then a + 1 else a) := by
  rw [List.drop_eq_getElem_cons h, kpN]
  have : long.getD k 0 = long[k] := by simp [List.getD, List.getElem?_eq_getElem h]
  rw [this]

theorem kpN_ge (short : List Int) : ∀ (l : List Int) (a : Nat), a ≤ kpN short l a
  | [], a => Nat.le_refl _
  | x :: l, a => by
    rw [kpN]
    refine Nat.le_trans ?_ (kpN_ge short l _)
    split <;> omega

theorem kpN_sub (short : List Int) : ∀ (l : List Int) (a : Nat), a ≤ short.length → (kpN short l a = short.length ↔ (short.drop a).Sublist l)
  | [], a, h => by
    simp only [kpN, List.sublist_nil, List.drop_eq_nil_iff]; omega
  | x :: l, a, h => by
    unfold kpN
    by_cases h1 : a < short.length ∧ short.getD a 0 = x
    · rw [if_pos h1, kpN_sub short l (a+1) (by omega)]
      have e : short.drop a = x :: short.drop (a+1) := by
        rw [List.drop_eq_getElem_cons h1.1]
        have := h1.2
        simp only [List.getD, List.getElem?_eq_getElem h1.1, Option.getD_some] at this
        rw [this]
      rw [e, List.cons_sublist_cons]
    · rw [if_neg h1, kpN_sub short l a h]
      rcases Nat.lt_or_ge a short.length with h2 | h2
      · have e : short.drop a = short.getD a 0 :: short.drop (a+1) := by
          rw [List.drop_eq_getElem_cons h2]
          simp only [List.getD, List.getElem?_eq_getElem h2, Option.getD_some]
        have hne : short.getD a 0 ≠ x := fun e => h1 ⟨h2, e⟩
        rw [e]
        constructor
        · intro h3; exact .cons _ h3
        · intro h3
          cases h3 with
          | cons _ h4 => exact h4
          | cons_cons _ h4 => exact absurd rfl hne
      · rw [List.drop_eq_nil_of_le h2]; simp

/-- What KeepsOrder says. -/
def KO (long short : List Int) : Prop := OKL' long ∧ OKL' short ∧ short.Sublist long
  where OKL' (l : List Int) : Prop := (l.length : Int) ≤ 12 ∧ l.Nodup
end Go.Vl

import Derived.Test.YtmjbklmjehjpoacVlccT41
namespace Go.Vl
set_option linter.unusedVariables false
set_option linter.unusedSimpArgs false
open Go.Proofs

/- The base with whose layout a class goes on, as it is told. -/
theorem bbF_spec {b s : List (List Int)} : ∀ (r : List Int) (best : Int),
    (∀ x ∈ best :: r, ∀ y ∈ best :: r, solM b s x.toNat ∈ abvR b (solM b s y.toNat) ∨ solM b s y.toNat ∈ abvR b (solM b s x.toNat)) →
    ∃ i, i < (best :: r).length ∧ (best :: r).getD i 0 = bbF b s best r ∧ (∀ y ∈ best :: r, solM b s y.toNat ∈ abvR b (solM b s (bbF b s best r).toNat)) ∧ ∀ j, j < i → solM b s ((best :: r).getD j 0).toNat ≠ solM b s (bbF b s best r).toNat
  | [], best, h => ⟨0, by simp, rfl, fun y hy => by
      rw [List.mem_singleton.1 hy]
      show solM b s best.toNat ∈ abvR b (solM b s best.toNat)
      rcases h best List.mem_cons_self best List.mem_cons_self with h | h <;> exact h, fun j hj => by omega⟩
  | d :: r, best, h => by
    have hb : best ∈ best :: d :: r := List.mem_cons_self
    have hd : d ∈ best :: d :: r := List.mem_cons_of_mem _ List.mem_cons_self
    unfold bbF
    by_cases hc : solM b s best.toNat ≠ solM b s d.toNat ∧ solM b s best.toNat ∈ abvR b (solM b s d.toNat)
    · rw [if_pos hc]
      obtain ⟨i, h1, h2, h3, h4⟩ := bbF_spec r d (fun x hx y hy => h x (List.mem_cons_of_mem _ hx) y (List.mem_cons_of_mem _ hy))
      refine ⟨i + 1, by simp at h1 ⊢; omega, by rw [← h2]; rfl, fun y hy => ?_, fun j hj => ?_⟩
      · rcases List.mem_cons.1 hy with rfl | hy
        · exact abvR_trans (h3 d List.mem_cons_self) hc.2
        · exact h3 y hy
      · cases j with
        | zero =>
          intro e
          have e : solM b s best.toNat = solM b s (bbF b s d r).toNat := e
          have h5 := h3 d List.mem_cons_self
          rw [← e] at h5
          exact hc.1 (abvR_anti h5 hc.2).symm
        | succ j => exact h4 j (by omega)
    · rw [if_neg hc]
      have hdb : solM b s d.toNat ∈ abvR b (solM b s best.toNat) := by
        rcases h d hd best hb with h1 | h1
        · exact h1
        · by_cases he : solM b s best.toNat = solM b s d.toNat
          · rw [← he] at h1 ⊢; exact h1
          · exact absurd ⟨he, h1⟩ hc
      obtain ⟨i, h1, h2, h3, h4⟩ := bbF_spec r best (fun x hx y hy => h x (by rcases List.mem_cons.1 hx with rfl | hx; exact hb; exact List.mem_cons_of_mem _ (List.mem_cons_of_mem _ hx)) y (by rcases List.mem_cons.1 hy with rfl | hy; exact hb; exact List.mem_cons_of_mem _ (List.mem_cons_of_mem _ hy)))
      have hall : ∀ y ∈ best :: d :: r, solM b s y.toNat ∈ abvR b (solM b s (bbF b s best r).toNat) := by
        intro y hy
        rcases List.mem_cons.1 hy with rfl | hy
        · exact h3 _ List.mem_cons_self
        · rcases List.mem_cons.1 hy with rfl | hy
          · exact abvR_trans (h3 _ List.mem_cons_self) hdb
          · exact h3 y (List.mem_cons_of_mem _ hy)
      cases i with
      | zero => exact ⟨0, by simp, h2, hall, fun j hj => by omega⟩
      | succ i =>
        refine ⟨i + 2, by simp at h1 ⊢; omega, by rw [← h2]; rfl, hall, fun j hj => ?_⟩
        have h5 : solM b s best.toNat ≠ solM b s (bbF b s best r).toNat := h4 0 (by omega)
        cases j with
        | zero => exact h5
        | succ j =>
          cases j with
          | zero =>
            intro e
            have e : solM b s d.toNat = solM b s (bbF b s best r).toNat := e
            rw [e] at hdb
            exact h5 (abvR_anti (h3 _ List.mem_cons_self) hdb)
          | succ j => exact h4 (j+1) (by omega)
theorem fbaF_first {b : List (List Int)} {all : List Int} : ∀ (l : List Int) (i : Int) (j : Nat), j < l.length → (∀ y ∈ all, y ∈ abvR b (l.getD j 0)) → fbaF b all l i ≤ i + j
  | [], i, j, h, _ => by simp at h
  | a :: r, i, j, h, h2 => by
    unfold fbaF
    split
    · omega
    · rename_i h3
      cases j with
      | zero => exact absurd h2 h3
      | succ j =>
        have := fbaF_first (b := b) (all := all) r (i+1) j (by simp at h; omega) h2
        omega
theorem bb_bst {b s : List (List Int)} (hs : VS b s) {c : Nat} (hc : c < b.length) (hc0 : c ≠ 0) (h : 0 ≤ solM b s c) : bbF b s ((b.getD c []).getD 0 0) ((b.getD c []).drop 1) = bstM b s c := by
  obtain ⟨h1, h2⟩ := bst_spec hs hc hc0
  have hb := h1.2 h
  obtain ⟨g1, g2, g3, g4⟩ := h2 hb
  obtain ⟨f1, f2⟩ := fba_sol hs hc hc0
  have hf := f1.2 g4
  obtain ⟨f3, f4⟩ := f2 hf
  obtain ⟨p1, p2, p3⟩ := solF_pos (solL b s c) 0 (abvR_self hs.1 (by omega) (by omega)) g4
  have hne : 0 < (b.getD c []).length := by omega
  have hl : (b.getD c []).getD 0 0 :: (b.getD c []).drop 1 = b.getD c [] := by
    cases hb2 : b.getD c [] with
    | nil => rw [hb2] at hne; simp at hne
    | cons x r => rfl
  have hmem : ∀ x ∈ b.getD c [], solM b s x.toNat ∈ solL b s c := fun x hx => solL_mem.2 ⟨x, hx, rfl⟩
  have hcl : ∀ t ∈ solL b s c, t = 0 ∨ hasS s t := by
    intro t ht
    obtain ⟨d, hd, e, q1, q2, g⟩ := solL_pos hs hc ht (abvR_mem (p3 t ht)).2.1
    exact g.slots
  have hm := solL_mem.2 ⟨_, g1, g3⟩
  obtain ⟨d, hd, e, q1, q2, g⟩ := solL_pos hs hc hm g4
  have hcmp : ∀ x ∈ b.getD c [], ∀ y ∈ b.getD c [], solM b s x.toNat ∈ abvR b (solM b s y.toNat) ∨ solM b s y.toNat ∈ abvR b (solM b s x.toNat) := by
    intro x hx y hy
    have hx1 := p3 _ (hmem x hx)
    have hy1 := p3 _ (hmem y hy)
    have hx2 := abvR_mem hx1
    have hy2 := abvR_mem hy1
    rcases hcl _ (hmem x hx) with h5 | h5
    · left; rw [h5]; exact abvR_root hs.1 hy2.2.1 (by omega)
    · rcases hcl _ (hmem y hy) with h6 | h6
      · right; rw [h6]; exact abvR_root hs.1 hx2.2.1 (by omega)
      · exact g.line _ (abvR_trans g.above hx1) _ (abvR_trans g.above hy1) h5 h6
  have hsp := bbF_spec (b := b) (s := s) ((b.getD c []).drop 1) ((b.getD c []).getD 0 0)
  rw [hl] at hsp
  obtain ⟨i, i1, i2, i3, i4⟩ := hsp hcmp
  generalize hx : bbF b s ((b.getD c []).getD 0 0) ((b.getD c []).drop 1) = x at i2 i3 i4
  have hxr : solM b s x.toNat = solF b 0 (solL b s c) := by
    have h7 := i3 _ g1
    rw [g3] at h7
    have h8 := p3 _ (hmem x (by rw [← i2]; exact getD_mem i1 0))
    exact abvR_anti h8 h7
  have hle : (fba b (solL b s c)).toNat ≤ i := by
    have := fbaF_first (b := b) (all := solL b s c) (solL b s c) 0 i (by rw [solL_len]; exact i1) (by rw [solL_getD i1, i2, hxr]; exact p3)
    have e2 : fba b (solL b s c) = fbaF b (solL b s c) (solL b s c) 0 := rfl
    omega
  have hge : ¬ (fba b (solL b s c)).toNat < i := by
    intro hlt
    refine i4 _ hlt ?_
    rw [hxr, ← f4, solL_getD (by omega)]
  unfold bstM
  rw [if_neg hc0, if_neg (by omega), show (fba b (solL b s c)).toNat = i by omega, i2]
/-- Layouts are told exactly on lines. -/
theorem sol_line {b s : List (List Int)} (hs : VS b s) : ∀ c : Nat, c < b.length → ((0 ≤ solM b s c) ↔ ∀ x ∈ abvR b c, ∀ y ∈ abvR b c, hasS s x → hasS s y → x ∈ abvR b y ∨ y ∈ abvR b x) := by
  intro c
  induction c using Nat.strongRecOn with
  | ind c ih =>
    intro hc
    refine ⟨fun h => (solM_G hs hc h).line, fun hl => ?_⟩
    have hp : ∀ d ∈ b.getD c [], 0 ≤ solM b s d.toNat ∧ ((d.toNat : Nat) : Int) = d ∧ SolG b s d.toNat (solM b s d.toNat) := by
      intro d hd
      have hb := hs.1.bd hd
      have h1 : 0 ≤ solM b s d.toNat := (ih d.toNat (by omega) (by omega)).2 fun x hx y hy h3 h4 => by
        rw [show ((d.toNat : Nat) : Int) = d by omega] at hx hy
        exact hl x (abvR_up hs.1 hc hd hx) y (abvR_up hs.1 hc hd hy) h3 h4
      exact ⟨h1, by omega, solM_G hs (by omega) h1⟩
    have h2 : 0 ≤ solF b 0 (solL b s c) := by
      refine solF_line hs hc (fun t ht => ?_) (fun x hx y hy h3 h4 => ?_)
      · obtain ⟨d, hd, e⟩ := solL_mem.1 ht
        have := (hp d hd).1
        omega
      · obtain ⟨d, hd, e⟩ := solL_mem.1 hx
        obtain ⟨d2, hd2, e2⟩ := solL_mem.1 hy
        obtain ⟨a1, a2, a3⟩ := hp d hd
        obtain ⟨b1, b2, b3⟩ := hp d2 hd2
        have h5 := a3.above
        have h6 := b3.above
        rw [a2, e] at h5
        rw [b2, e2] at h6
        exact hl x (abvR_up hs.1 hc hd h5) y (abvR_up hs.1 hc hd2 h6) h3 h4
    rw [solM_eq hs.1, if_neg (by omega)]
    split <;> omega

end Go.Vl

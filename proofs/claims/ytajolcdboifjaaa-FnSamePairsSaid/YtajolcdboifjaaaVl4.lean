/- Part 4 of the texts that the proof of FnSamePairs is built on. -/
import Derived.Test.YtajolcdboifjaaaVl3
import Derived.ProofKit
import Derived.OpenShut
import Derived.Below
import Derived.Deep.Matrix
import Derived.ChangeArms
import Derived.ChangeSame
namespace Go.Vl
set_option linter.unusedVariables false
set_option linter.unusedSimpArgs false
open Go.Proofs

theorem abvR_len {b : List (List Int)} {c : Int} {N : Nat} (h : b.length < N) : (abvR b c).length < N := by
  unfold abvR; split
  · exact Nat.lt_of_le_of_lt (abvL_len b _) h
  · simp; omega
theorem abvL_len' {b : List (List Int)} {c : Nat} {N : Nat} (h : b.length < N) : (abvL b c).length < N := Nat.lt_of_le_of_lt (abvL_len b _) h
theorem abvL_le {b : List (List Int)} (hv : VB b) {c : Nat} (hc : c < b.length) {x : Int} (h : x ∈ abvL b c) : 0 ≤ x ∧ x ≤ c := by
  obtain ⟨i, rfl, h2⟩ := (mem_abvL hv.bd' hc x).1 h
  have := h2.le hv.bd'; omega
theorem abvL_refl {b : List (List Int)} (hv : VB b) {c : Nat} (hc : c < b.length) : (c : Int) ∈ abvL b c := (mem_abvL hv.bd' hc _).2 ⟨c, rfl, .refl c⟩
theorem abvL_step {b : List (List Int)} (hv : VB b) {k n : Nat} (hk : k < b.length) (hne : n ≠ k) : (n : Int) ∈ abvL b k ↔ ∃ d ∈ b.getD k [], (n : Int) ∈ abvL b d.toNat := by
  rw [mem_abvL hv.bd' hk]
  constructor
  · rintro ⟨i, h, h2⟩
    have : n = i := by omega
    subst this
    cases h2 with
    | refl => exact absurd rfl hne
    | @step _ d _ hd h3 =>
      have := hv.bd hd
      refine ⟨(d : Int), hd, ?_⟩
      rw [Int.toNat_natCast, mem_abvL hv.bd' (by omega)]
      exact ⟨n, rfl, h3⟩
  · rintro ⟨d, hd, h2⟩
    have hb := hv.bd hd
    obtain ⟨i, h3, h4⟩ := (mem_abvL hv.bd' (by omega) _).1 h2
    refine ⟨n, rfl, ?_⟩
    have : n = i := by omega
    subst this
    refine .step (d := d.toNat) ?_ h4
    rw [show ((d.toNat : Nat) : Int) = d by omega]; exact hd
theorem belB_get {b : List (List Int)} {c x : Nat} : (belB b c).getD x false = true ↔ x < b.length ∧ (c : Int) ∈ abvL b x := by
  unfold belB
  simp only [List.getD, List.getElem?_map, List.getElem?_range']
  by_cases h : x < b.length
  · simp [List.getElem?_range h, h]
  · simp [List.getElem?_eq_none (show (List.range b.length).length ≤ x by simp; omega), h]
theorem belB_len (b : List (List Int)) (c : Nat) : (belB b c).length = b.length := by simp [belB]
theorem eq_of_get {a b : List Bool} (h : a.length = b.length) (h2 : ∀ x : Nat, a.getD x false = true ↔ b.getD x false = true) : a = b := by
  apply List.ext_getElem h
  intro i h3 h4
  have := h2 i
  simp only [List.getD, List.getElem?_eq_getElem h3, List.getElem?_eq_getElem h4, Option.getD_some] at this
  exact Bool.eq_iff_iff.2 this
theorem bel_lo {b : List (List Int)} (hv : VB b) {n : Nat} (hn : n < b.length) : ∀ k, k ≤ n → idxT (belB b n) k = []
  | 0, _ => rfl
  | k+1, h => by
    rw [idxT_succ, if_neg, bel_lo hv hn k (by omega)]
    intro h2
    have := abvL_le hv (by omega) (belB_get.1 h2).2
    omega
theorem rep_get (N x : Nat) : (List.replicate N false).getD x false = false := by
  simp only [List.getD, List.getElem?_replicate]; split <;> rfl
def belR (b : List (List Int)) (c : Int) : List Int := if VB b ∧ 0 ≤ c ∧ c < b.length then belL b c.toNat else []
theorem belR_of {b : List (List Int)} {n : Nat} (h : VB b) (hn : n < b.length) : belR b n = belL b n := by
  unfold belR; rw [if_pos ⟨h, by omega, by omega⟩]; rfl
theorem belR_no {b : List (List Int)} {c : Int} (h : ¬ (VB b ∧ 0 ≤ c ∧ c < b.length)) : belR b c = [] := if_neg h
def OKLs (ls : List (List Int)) : Prop := (∀ l ∈ ls, OKL l 12) ∧ ls.length ≤ 6
instance {ls : List (List Int)} : Decidable (OKLs ls) := by unfold OKLs; infer_instance
def KeepP (long short : List Int) : Prop := OKL long 12 ∧ OKL short 12 ∧ kpN short long 0 = short.length
instance {a b : List Int} : Decidable (KeepP a b) := by unfold KeepP; infer_instance
def OC (b s : List (List Int)) : Prop := VS b s ∧ ∀ j, j < s.length → ∀ i, i < j → (s.getD i []).length > 0 → (s.getD j []).length > 0 → (i : Int) ∈ abvL b j
noncomputable instance {a b : List (List Int)} : Decidable (OC a b) := Classical.propDecidable _
theorem apart_iff {b : List (List Int)} (hv : VB b) {j k : Nat} (h : j < k) (hk : k < b.length) : (¬ (k : Int) ∈ abvR b j ∧ ¬ (j : Int) ∈ abvR b k) ↔ ¬ (j : Int) ∈ abvL b k := by
  rw [abvR_of hv hk, abvR_of hv (by omega)]
  exact ⟨fun h => h.2, fun h2 => ⟨fun h3 => by have := abvL_le hv (by omega) h3; omega, h2⟩⟩

theorem getD_at {α : Type} {l : List α} {j : Nat} (h : j < l.length) (d : α) : l.getD j d = l[j] := by simp [List.getD, List.getElem?_eq_getElem h]
theorem mark0 {b : List (List Int)} (hv : VB b) {n : Nat} (hn : n < b.length) (x : Nat) : ((List.replicate b.length false).set n true).getD x false = true ↔ x < n + 1 ∧ (n : Int) ∈ abvL b x := by
  rw [getD_set_b, rep_get]
  by_cases h : n = x
  · subst h; simp [hn, abvL_refl hv hn]
  · rw [if_neg (fun e => h e.1)]
    constructor
    · intro h2; cases h2
    · rintro ⟨h2, h3⟩
      have := abvL_le hv (by omega) h3
      omega
theorem mark_in1 {b : List (List Int)} {m m2 : List Bool} {k j : Nat} (hj : j < (b.getD k []).length) (hk : k < m2.length) (h : m2.getD k false = true)
    (hm : ∀ x, m2.getD x false = true ↔ (m.getD x false = true ∨ (x = k ∧ ∃ d ∈ (b.getD k []).take j, m.getD d.toNat false = true))) :
    ∀ x, (m2.set k true).getD x false = true ↔ (m.getD x false = true ∨ (x = k ∧ ∃ d ∈ (b.getD k []).take (j+1), m.getD d.toNat false = true)) := by
  intro x
  rw [getD_set_b]
  by_cases e : k = x
  · subst e
    rw [if_pos ⟨rfl, hk⟩]
    refine ⟨fun _ => ?_, fun _ => rfl⟩
    rcases (hm k).1 h with h1 | ⟨_, d, h1, h2⟩
    · exact .inl h1
    · refine .inr ⟨rfl, d, ?_, h2⟩
      rw [List.take_succ_eq_append_getElem hj]; exact List.mem_append_left _ h1
  · rw [if_neg (fun h => e h.1), hm x]
    simp [Ne.symm e]
theorem mark_in2 {b : List (List Int)} {m m2 : List Bool} {k j : Nat} (hj : j < (b.getD k []).length) (hk : k < m2.length) (h : m2.getD k false = false) (hb : ((b.getD k []).getD j 0).toNat ≠ k)
    (hm : ∀ x, m2.getD x false = true ↔ (m.getD x false = true ∨ (x = k ∧ ∃ d ∈ (b.getD k []).take j, m.getD d.toNat false = true))) :
    ∀ x, (m2.set k (m2.getD ((b.getD k []).getD j 0).toNat false)).getD x false = true ↔ (m.getD x false = true ∨ (x = k ∧ ∃ d ∈ (b.getD k []).take (j+1), m.getD d.toNat false = true)) := by
  intro x
  rw [getD_set_b]
  have e0 := getD_at hj 0
  by_cases e : k = x
  · subst e
    rw [if_pos ⟨rfl, hk⟩, hm]
    have hn : ¬ (m.getD k false = true ∨ (k = k ∧ ∃ d ∈ (b.getD k []).take j, m.getD d.toNat false = true)) := fun h1 => by rw [(hm k).2 h1] at h; cases h
    rw [List.take_succ_eq_append_getElem hj]
    constructor
    · rintro (h1 | ⟨h1, _⟩)
      · exact .inr ⟨rfl, _, List.mem_append_right _ (List.mem_singleton.2 rfl), by rw [← e0]; exact h1⟩
      · exact absurd h1 hb
    · rintro (h1 | ⟨_, d, h1, h2⟩)
      · exact absurd (.inl h1) hn
      · rcases List.mem_append.1 h1 with h1 | h1
        · exact absurd (.inr ⟨rfl, d, h1, h2⟩) hn
        · rw [List.mem_singleton.1 h1, ← e0] at h2; exact .inl h2
  · rw [if_neg (fun h => e h.1), hm x]
    simp [Ne.symm e]
theorem mark_step {b : List (List Int)} (hv : VB b) {n k : Nat} (hnk : n < k) (hk : k < b.length) {m m2 : List Bool} (hm : ∀ x, m.getD x false = true ↔ x < k ∧ (n : Int) ∈ abvL b x)
    (hm2 : ∀ x, m2.getD x false = true ↔ (m.getD x false = true ∨ (x = k ∧ ∃ d ∈ (b.getD k []), m.getD d.toNat false = true))) : ∀ x, m2.getD x false = true ↔ x < k + 1 ∧ (n : Int) ∈ abvL b x := by
  intro x
  rw [hm2, hm]
  constructor
  · rintro (⟨h1, h2⟩ | ⟨rfl, d, h1, h2⟩)
    · exact ⟨by omega, h2⟩
    · exact ⟨by omega, (abvL_step hv hk (by omega)).2 ⟨d, h1, ((hm _).1 h2).2⟩⟩
  · rintro ⟨h1, h2⟩
    rcases Nat.lt_or_ge x k with h | h
    · exact .inl ⟨h, h2⟩
    · have e : x = k := by omega
      subst e
      obtain ⟨d, h3, h4⟩ := (abvL_step hv hk (by omega)).1 h2
      have := hv.bd h3
      exact .inr ⟨rfl, d, h3, (hm _).2 ⟨by omega, h4⟩⟩

end Go.Vl

namespace Go.Vl
set_option linter.unusedVariables false
set_option linter.unusedSimpArgs false
open Go.Proofs

theorem VB.take {b : List (List Int)} {k : Nat} (h : VB b) (h1 : 1 ≤ k) (h2 : k ≤ b.length) : VB (b.take k) := by
  obtain ⟨a1, a2, a3, a4⟩ := h
  have e : ∀ i, i < k → (b.take k).getD i [] = b.getD i [] := fun i hi => by simp [List.getD, List.getElem?_take, hi]
  have l : (b.take k).length = k := by rw [List.length_take]; omega
  exact ⟨by omega, by omega, by rw [e 0 (by omega)]; exact a3, fun i hi h0 => by rw [e i (by omega)]; exact a4 i (by omega) h0⟩
theorem VS_set {b s : List (List Int)} (h : VS b s) (i : Nat) : VS b (s.set i []) := by
  obtain ⟨a1, a2, a3, a4⟩ := h
  refine ⟨a1, by rw [List.length_set]; exact a2, ?_, fun l hl => ?_⟩
  · simp only [List.getD, List.getElem?_set] at a3 ⊢
    split
    · split <;> rfl
    · exact a3
  · rcases List.mem_or_eq_of_mem_set hl with h | rfl
    · exact a4 l h
    · exact ⟨⟨by simp, List.nodup_nil⟩, by simp⟩
theorem VS_take1 {b s : List (List Int)} (h : VS b s) : VS (b.take 1) (s.take 1) := by
  obtain ⟨a1, a2, a3, a4⟩ := h
  have h1 := a1.1
  refine ⟨a1.take (Nat.le_refl 1) h1, by simp; omega, ?_, fun l hl => a4 l (List.mem_of_mem_take hl)⟩
  simp only [List.getD, List.getElem?_take] at a3 ⊢
  simpa using a3
theorem pw_lt {l : List Int} (h : l.Pairwise (· < ·)) {i j : Nat} (hij : i < j) (hj : j < l.length) : l.getD i 0 < l.getD j 0 := by
  have h1 : l.getD i 0 = l[i] := by simp [List.getD, List.getElem?_eq_getElem (show i < l.length by omega)]
  have h2 : l.getD j 0 = l[j] := by simp [List.getD, List.getElem?_eq_getElem hj]
  rw [h1, h2]; exact List.pairwise_iff_getElem.1 h i j (by omega) hj hij
theorem abvR_ne {b : List (List Int)} {c : Int} (h : abvR b c ≠ []) : VB b ∧ 0 ≤ c ∧ c < b.length := by
  by_cases h1 : VB b ∧ 0 ≤ c ∧ c < b.length
  · exact h1
  · exact absurd (abvR_no h1) h
theorem abvR_mem {b : List (List Int)} {c x : Int} (h : x ∈ abvR b c) : (VB b ∧ 0 ≤ c ∧ c < b.length) ∧ 0 ≤ x ∧ x ≤ c ∧ Abv b c.toNat x.toNat := by
  have h1 := abvR_ne (List.ne_nil_of_mem h)
  obtain ⟨n, rfl⟩ := Int.eq_ofNat_of_zero_le h1.2.1
  rw [abvR_of h1.1 (by omega)] at h
  have h2 := abvL_le h1.1 (by omega) h
  obtain ⟨i, rfl, h3⟩ := (mem_abvL h1.1.bd' (by omega) x).1 h
  exact ⟨h1, h2.1, h2.2, h3⟩
theorem abvR_of_Abv {b : List (List Int)} (hv : VB b) {c x : Nat} (hc : c < b.length) (h : Abv b c x) : (x : Int) ∈ abvR b c := by
  rw [abvR_of hv hc]; exact (mem_abvL hv.bd' hc _).2 ⟨x, rfl, h⟩
theorem abvR_trans {b : List (List Int)} {c x y : Int} (h : x ∈ abvR b c) (h2 : y ∈ abvR b x) : y ∈ abvR b c := by
  obtain ⟨a1, a2, a3, a4⟩ := abvR_mem h
  obtain ⟨b1, b2, b3, b4⟩ := abvR_mem h2
  have := abvR_of_Abv a1.1 (c := c.toNat) (x := y.toNat) (by omega) (a4.trans b4)
  rwa [show ((c.toNat : Nat) : Int) = c by omega, show ((y.toNat : Nat) : Int) = y by omega] at this
theorem abvR_self {b : List (List Int)} {c : Int} (hv : VB b) (h0 : 0 ≤ c) (h1 : c < b.length) : c ∈ abvR b c := by
  have := abvR_of_Abv hv (c := c.toNat) (by omega) (.refl _)
  rwa [show ((c.toNat : Nat) : Int) = c by omega] at this
theorem abvR_base {b : List (List Int)} {c : Int} (hv : VB b) (h0 : 0 ≤ c) (h1 : c < b.length) : ∀ x ∈ b.getD c.toNat [], x ∈ abvR b c := by
  intro x hx
  have hb := hv.bd hx
  have := abvR_of_Abv hv (c := c.toNat) (x := x.toNat) (by omega) (.step (d := x.toNat) (by rw [show ((x.toNat : Nat) : Int) = x by omega]; exact hx) (.refl _))
  rwa [show ((c.toNat : Nat) : Int) = c by omega, show ((x.toNat : Nat) : Int) = x by omega] at this
theorem abvR_asc (b : List (List Int)) (c : Int) : (abvR b c).Pairwise (· < ·) := by
  unfold abvR; split
  · exact abvL_asc _ _
  · exact List.Pairwise.nil
theorem Abv_root {b : List (List Int)} (hv : VB b) : ∀ c : Nat, c < b.length → Abv b c 0 := by
  intro c
  induction c using Nat.strongRecOn with
  | ind c ih =>
    intro hc
    rcases Nat.eq_zero_or_pos c with rfl | h0
    · exact .refl 0
    · have h1 := (hv.2.2.2 c hc h0).1
      obtain ⟨x, hx⟩ := List.exists_mem_of_ne_nil _ h1
      have hb := hv.bd hx
      exact .step (d := x.toNat) (by rw [show ((x.toNat : Nat) : Int) = x by omega]; exact hx) (ih x.toNat (by omega) (by omega))
theorem abvR_zero {b : List (List Int)} {c : Int} (hv : VB b) (h0 : 0 ≤ c) (h1 : c < b.length) : (abvR b c).getD 0 0 = 0 := by
  have hm := abvR_of_Abv hv (c := c.toNat) (by omega) (Abv_root hv c.toNat (by omega))
  rw [show ((c.toNat : Nat) : Int) = c by omega] at hm
  obtain ⟨i, hi, he⟩ := List.getElem_of_mem hm
  have hd : (abvR b c).getD i 0 = 0 := by simp [List.getD, List.getElem?_eq_getElem hi, he]
  rcases Nat.eq_zero_or_pos i with rfl | h2
  · exact hd
  · have h3 := pw_lt (abvR_asc b c) h2 hi
    have h4 := (abvR_mem (getD_mem (show 0 < (abvR b c).length by omega) 0)).2.1
    omega
theorem belR_mem {b : List (List Int)} {c : Int} (h : belR b c ≠ []) {k : Nat} (hk : k < b.length) : ((k : Int) ∈ belR b c ↔ c ∈ abvR b k) := by
  by_cases h1 : VB b ∧ 0 ≤ c ∧ c < b.length
  · obtain ⟨n, rfl⟩ := Int.eq_ofNat_of_zero_le h1.2.1
    rw [belR_of h1.1 (by omega), abvR_of h1.1 hk, belL, idxB, mem_idxT]
    constructor
    · rintro ⟨i, h2, h3, h4⟩
      have : i = k := by omega
      subst this
      exact (belB_get.1 h4).2
    · intro h2
      exact ⟨k, rfl, by rw [belB_len]; exact hk, belB_get.2 ⟨hk, h2⟩⟩
  · exact absurd (belR_no h1) h
theorem belR_asc (b : List (List Int)) (c : Int) : (belR b c).Pairwise (· < ·) := by
  unfold belR; split
  · exact idxT_asc _ _
  · exact List.Pairwise.nil
theorem belR_len {b : List (List Int)} {c : Int} {N : Nat} (h : b.length < N) : (belR b c).length < N := by
  unfold belR; split
  · have := idxT_len (belB b c.toNat) (belB b c.toNat).length
    rw [belB_len] at this
    unfold belL idxB; rw [belB_len]; omega
  · simp; omega
theorem set_lens {B : List (List Int)} {l : List Int} {i N : Nat} (h : ∀ x ∈ B, x.length ≤ N) (hl : l.length ≤ N) : ∀ x ∈ B.set i l, x.length ≤ N := by
  intro x hx
  rcases List.mem_or_eq_of_mem_set hx with hx | rfl
  · exact h x hx
  · exact hl
theorem app_lens {B : List (List Int)} {l : List Int} {N : Nat} (h : ∀ x ∈ B, x.length ≤ N) (hl : l.length ≤ N) : ∀ x ∈ B ++ [l], x.length ≤ N := by
  intro x hx
  rcases List.mem_append.1 hx with hx | hx
  · exact h x hx
  · rw [List.mem_singleton.1 hx]; exact hl

end Go.Vl

/- From a function's contract to the row of a law over bytes. -/
namespace Go.Vl
set_option linter.unusedVariables false
set_option linter.unusedSimpArgs false
open Go.RowKit Go.WideShapes

theorem okWide_spot {P : Program} {W : World} {base : Nat} {t e : TypeId} {a : Addr} {len cap : Nat} (hT : P.underlying t = some (.slice e)) (h : Value.okWide P W .any base t (.slice (some a) len cap)) :
    a.spot = none ∧ a.block < W.heap.size := by
  simp only [Value.okWide, hT, Cell.okWide, Cell.ok, World.has] at h
  obtain ⟨_, _, _, h1, row, cells, h2, _⟩ := h
  refine ⟨h1, ?_⟩
  unfold World.shape? at h2
  rcases Nat.lt_or_ge a.block W.heap.size with h3 | h3
  · exact h3
  · rw [Array.getElem?_eq_none h3] at h2; cases h2

/-- What is known of bytes that come in. -/
def BytesAt (w : World) (a0 : Option Addr) (len cap : Nat) : Prop :=
  (a0 = none ∧ len = 0 ∧ cap = 0) ∨ ∃ (x : Addr) (zs : List Int), a0 = some x ∧ x.spot = none ∧ x.block < w.heap.size ∧ len ≤ cap ∧ zs.length = cap ∧
    (∀ i, i < zs.length → w.cell? (x.add i) = some (.int .u8 (zs.getD i 0))) ∧ ∀ n ∈ zs, (Lit.int .u8 n).wf = true

theorem bytes_pv {w : World} {a0 : Option Addr} {len cap : Nat} {G : Nat → Prop} (hG : ∀ b, b < w.heap.size → G b) (h : BytesAt w a0 len cap) :
    ∃ (nl : Option Bool) (c : List (Fin 256)), RP w G (.sl nl 1 (c.map byteP)) (.slice a0 len cap) := by
  rcases h with ⟨rfl, rfl, rfl⟩ | ⟨x, zs, rfl, hs, hb, hl, hz, hc, hw⟩
  · exact ⟨none, [], .nilsl _ _ (by simp)⟩
  · have hbd : ∀ i, i < zs.length → 0 ≤ zs.getD i 0 ∧ zs.getD i 0 < 256 := by
      intro i hi
      have hm : zs.getD i 0 ∈ zs := by simp [List.getD, List.getElem?_eq_getElem hi]
      have := hw _ hm
      generalize zs.getD i 0 = n at this ⊢
      simp [Lit.wf, IntKind.min, IntKind.max, IntKind.bits, IntKind.signed] at this
      omega
    let c : List (Fin 256) := (List.range len).map fun i => ⟨(zs.getD i 0).toNat % 256, Nat.mod_lt _ (by omega)⟩
    refine ⟨none, c, .sl none 1 _ x len cap (fun i _ => .int .u8 (zs.getD i 0)) (by simp) (fun _ => hs) (by simp [c]) hl (fun _ => hG _ hb) ?_ ?_ ?_⟩
    · intro i y hy
      simp only [List.getElem?_map] at hy
      cases hci : c[i]? with
      | none => rw [hci] at hy; simp at hy
      | some z =>
        rw [hci] at hy
        simp only [Option.map_some, Option.some.injEq] at hy
        subst hy
        exact fits_of rfl
    · intro i y j d hy hd
      simp only [List.getElem?_map] at hy
      cases hci : c[i]? with
      | none => rw [hci] at hy; simp at hy
      | some z =>
        rw [hci] at hy
        simp only [Option.map_some, Option.some.injEq] at hy
        subst hy
        have hi : i < len := by
          rcases Nat.lt_or_ge i len with h1 | h1
          · exact h1
          · have : c[i]? = none := List.getElem?_eq_none (by simp [c]; exact h1)
            rw [this] at hci; cases hci
        have hj : j = 0 := by
          cases j with
          | zero => rfl
          | succ j => simp [PV.cells] at hd
        subst hj
        have := hc i (by omega)
        rw [← this]
        congr 1
        obtain ⟨xb, xo, xs⟩ := x
        simp only at hs
        subst hs
        simp [Addr.add]
    · intro i y j d hy hd
      simp only [List.getElem?_map] at hy
      cases hci : c[i]? with
      | none => rw [hci] at hy; simp at hy
      | some z =>
        rw [hci] at hy
        simp only [Option.map_some, Option.some.injEq] at hy
        subst hy
        have hi : i < len := by
          rcases Nat.lt_or_ge i len with h1 | h1
          · exact h1
          · have : c[i]? = none := List.getElem?_eq_none (by simp [c]; exact h1)
            rw [this] at hci; cases hci
        have hj : j = 0 := by
          cases j with
          | zero => rfl
          | succ j => simp [PV.cells] at hd
        subst hj
        have hd2 : d = byteP z := by simpa [PV.cells] using hd.symm
        subst hd2
        have hz2 : ((z.val : Nat) : Int) = zs.getD i 0 := by
          have e : c[i]? = some ⟨(zs.getD i 0).toNat % 256, Nat.mod_lt _ (by omega)⟩ := by simp [c, hi]
          rw [e] at hci
          simp only [Option.some.injEq] at hci
          have hb := hbd i (by omega)
          rw [← hci]
          show (((zs.getD i 0).toNat % 256 : Nat) : Int) = _
          omega
        rw [← hz2]
        exact .int _ _

theorem law_bytes {P : Program} {f : FuncId} {w : World} {a0 : Option Addr} {len cap : Nat} (hrow : BytesAt w a0 len cap)
    (h : ∀ (nl : Option Bool) (c : List (Fin 256)), SatAt P f [.pv false (.sl nl 1 (c.map byteP))] [] (fun res rows => res = [bo true] ∧ rows = [])) :
    Calls P f #[.slice a0 len cap] w fun e w' => e = .returned (.bool true) ∧ Below w.heap.size w w' := by
  let C : Ctx := ⟨w, fun b => b < w.heap.size, 0, fun _ => default⟩
  have hpriv : ∀ b, ¬ priv [] (fun _ => default) b := by
    rintro b ⟨id, ⟨r, hr, _⟩, _⟩
    simp at hr
  obtain ⟨nl, c, hp⟩ := bytes_pv (G := Gd C [] (fun _ => default) w false) (fun b hb => ⟨hb, hpriv b, fun _ => .inl hb, fun e => by cases e⟩) hrow
  have hsim : SimM C ⟨1, enumE 0 [.pv false (.sl nl 1 (c.map byteP))], []⟩ (fun _ => default) ⟨#[.slice a0 len cap], []⟩ w := {
    defs := rfl
    size := rfl
    os := rfl
    tape := rfl
    output := rfl
    hsz := Nat.le_refl _
    old := fun _ _ _ => rfl
    bor := fun id hid => by cases hid
    nbl := Nat.zero_le _
    newb := fun id b _ ⟨r, hr, _⟩ => by simp at hr
    dist := fun i j b ⟨r, hr, _⟩ => by simp at hr
    rows := fun id r hr => by simp at hr
    env := fun t => by
      show RS _ _ _ _ (look (enumE 0 _) t) _
      rw [look_enumE]
      cases t with
      | zero => exact .pv _ _ _ hp
      | succ t => exact .any _ }
  refine (h nl c C (fun _ => default) #[.slice a0 len cap] rfl (fun b hb => hb) rfl hsim).mono fun e w' hx => ?_
  obtain ⟨us, res, rows', m', rfl, hus, hs, rfl, rfl⟩ := hx
  have hv := hs.env 0
  have h1 : us.size = 1 := hus
  refine ⟨?_, hs.os, hs.tape, hs.output, hs.hsz, fun k hk => hs.old k hk (fun id hid => by cases hid)⟩
  have hv : RS w' (Gd C [] m' w') m' 0 (bo true) (us.getD 0 undef) := hv
  have hb := hv.pv_inv
  unfold pack
  rw [dif_pos h1]
  simp only [Array.getD, h1, Nat.lt_succ_self, dif_pos, Nat.zero_lt_one] at hb
  cases hu : us[0]
  all_goals (simp only [Array.getInternal_eq_getElem, hu] at hb; cases hb)
  rfl
end Go.Vl

/- From a function's contract to the row of a law over lists of numbers, and numbers. -/
namespace Go.Vl
set_option linter.unusedVariables false
set_option linter.unusedSimpArgs false
open Go.RowKit Go.WideShapes Go.ChangeShapes

/-- The setting of a law's call. -/
def C0 (w : World) : Ctx := ⟨w, fun b => b < w.heap.size, 0, fun _ => default⟩
def G0 (w : World) : Bool → Nat → Prop := Gd (C0 w) [] (fun _ => default) w
theorem G0_of {w : World} {b : Nat} (h : b < w.heap.size) : G0 w false b := by
  refine ⟨h, ?_, fun _ => .inl h, fun e => by cases e⟩
  rintro ⟨id, ⟨r, hr, _⟩, _⟩
  simp at hr

theorem law_gen {P : Program} {f : FuncId} {w : World} {args : List SV} {vals : Array Value} (hl : vals.size = args.length)
    (hv : ∀ (j : Nat) (a : SV), args[j]? = some a → RS w (G0 w) (fun _ => default) 0 a (vals.getD j undef))
    (h : SatAt P f args [] (fun res rows => res = [bo true] ∧ rows = [])) :
    Calls P f vals w fun e w' => e = .returned (.bool true) ∧ Below w.heap.size w w' := by
  have hsim : SimM (C0 w) ⟨vals.size, enumE 0 args, []⟩ (fun _ => default) ⟨vals, []⟩ w := {
    defs := rfl
    size := rfl
    os := rfl
    tape := rfl
    output := rfl
    hsz := Nat.le_refl _
    old := fun _ _ _ => rfl
    bor := fun id hid => by cases hid
    nbl := Nat.zero_le _
    newb := fun id b _ ⟨r, hr, _⟩ => by simp at hr
    dist := fun i j b ⟨r, hr, _⟩ => by simp at hr
    rows := fun id r hr => by simp at hr
    env := fun t => by
      show RS _ _ _ _ (look (enumE 0 _) t) _
      rw [look_enumE]
      simp only [Nat.zero_le, if_true, Nat.sub_zero]
      cases ha : args[t]? with
      | none => exact .any _
      | some a => exact hv t a ha }
  refine (h (C0 w) (fun _ => default) vals rfl (fun b hb => hb) hl hsim).mono fun e w' hx => ?_
  obtain ⟨us, res, rows', m', rfl, hus, hs, rfl, rfl⟩ := hx
  have hv := hs.env 0
  have h1 : us.size = 1 := hus
  refine ⟨?_, hs.os, hs.tape, hs.output, hs.hsz, fun k hk => hs.old k hk (fun id hid => by cases hid)⟩
  have hv : RS w' (Gd (C0 w) [] m' w') m' 0 (bo true) (us.getD 0 undef) := hv
  have hb := hv.pv_inv
  unfold pack
  rw [dif_pos h1]
  simp only [Array.getD, h1, Nat.lt_succ_self, dif_pos, Nat.zero_lt_one] at hb
  cases hu : us[0]
  all_goals (simp only [Array.getInternal_eq_getElem, hu] at hb; cases hb)
  rfl

theorem cell_block {w : World} {a : Addr} {v : Value} (h : w.cell? a = some v) : a.block < w.heap.size := by
  unfold World.cell? at h
  rcases Nat.lt_or_ge a.block w.heap.size with h3 | h3
  · exact h3
  · rw [Array.getElem?_eq_none h3] at h; cases h

theorem addr_add (a : Addr) (i : Nat) (hs : a.spot = none) : a.add i = ⟨a.block, a.off + i, none⟩ := by
  obtain ⟨b, o, s⟩ := a
  simp only at hs
  subst hs
  unfold Addr.add
  split
  · rename_i h; simp [h]
  · rfl

/-- A list of numbers, by its cells. -/
theorem ints_rp {w : World} {a : Option Addr} {len cap : Nat} (zs : List Int) (hl : len ≤ cap) (hz : zs.length = cap) (h0 : a = none → cap = 0)
    (hc : ∀ a', a = some a' → ∀ c, c < cap → w.cell? (a'.add c) = some (.int .i64 (zs.getD c 0))) : RP w (G0 w false) (.sl none 1 ((zs.take len).map intP)) (.slice a len cap) := by
  cases a with
  | none =>
    have := h0 rfl
    subst this
    have e : len = 0 := by omega
    subst e
    exact .nilsl _ _ (by simp)
  | some a' =>
    have hc := hc a' rfl
    have hlen : ((zs.take len).map intP).length = len := by simp; omega
    have key : ∀ i (x : PV), ((zs.take len).map intP)[i]? = some x → i < len ∧ x = intP (zs.getD i 0) := by
      intro i x hx
      have hi : i < len := by rw [← hlen]; exact (List.getElem?_eq_some_iff.1 hx).1
      refine ⟨hi, ?_⟩
      simp only [List.getElem?_map, List.getElem?_take, hi, if_true, Option.map_eq_some_iff] at hx
      obtain ⟨y, hy, rfl⟩ := hx
      simp [List.getD, hy]
    have hsp : ∀ i, i < len → a'.spot = none := by
      intro i hi
      have := World.cell?_spot (hc 0 (by omega))
      simpa [Addr.add] using this
    refine .sl none 1 _ a' len cap (fun i _ => .int .i64 (zs.getD i 0)) (by simp) (fun hne => ?_) hlen.symm hl (fun hne => ?_) (fun i x hx => ?_) (fun i x j c hx hcj => ?_) (fun i x j c hx hcj => ?_)
    · have : 0 < len := by rw [← hlen]; exact List.length_pos_iff.2 hne
      exact hsp 0 this
    · have : 0 < len := by rw [← hlen]; exact List.length_pos_iff.2 hne
      exact G0_of (by have := cell_block (hc 0 (by omega)); simpa [Addr.add] using this)
    · obtain ⟨_, rfl⟩ := key i x hx
      exact fits_of rfl
    · obtain ⟨hi, rfl⟩ := key i x hx
      have hj : j = 0 := by
        cases j with
        | zero => rfl
        | succ j => simp [PV.cells] at hcj
      subst hj
      rw [← hc i (by omega), addr_add _ _ (hsp i hi)]
      congr 2
      omega
    · obtain ⟨hi, rfl⟩ := key i x hx
      have : c = intP (zs.getD i 0) := by
        cases j with
        | zero => simpa [PV.cells] using hcj.symm
        | succ j => simp [PV.cells] at hcj
      subst this
      exact .int _ _

/-- A list of lists of numbers. -/
theorem intss_rp {w : World} {a : Addr} {len cap : Nat} (A : Nat → Option Addr) (L C : Nat → Nat) (Z : Nat → List Int) (hl : len ≤ cap)
    (h : ∀ r, r < cap → w.cell? (a.add r) = some (.slice (A r) (L r) (C r)) ∧ RP w (G0 w false) (.sl none 1 (((Z r).take (L r)).map intP)) (.slice (A r) (L r) (C r))) :
    RP w (G0 w false) (.sl none 1 (((List.range len).map fun r => (Z r).take (L r)).map ints)) (.slice (some a) len cap) := by
  have hlen : (((List.range len).map fun r => (Z r).take (L r)).map ints).length = len := by simp
  have key : ∀ i (x : PV), (((List.range len).map fun r => (Z r).take (L r)).map ints)[i]? = some x → i < len ∧ x = ints ((Z i).take (L i)) := by
    intro i x hx
    have hi : i < len := by rw [← hlen]; exact (List.getElem?_eq_some_iff.1 hx).1
    refine ⟨hi, ?_⟩
    simp [hi] at hx
    exact hx.symm
  have hsp : ∀ i, i < len → a.spot = none := by
    intro i hi
    have := World.cell?_spot (h 0 (by omega)).1
    simpa [Addr.add] using this
  refine .sl none 1 _ a len cap (fun i _ => .slice (A i) (L i) (C i)) (by simp) (fun hne => ?_) hlen.symm hl (fun hne => ?_) (fun i x hx => ?_) (fun i x j c hx hcj => ?_) (fun i x j c hx hcj => ?_)
  · have : 0 < len := by rw [← hlen]; exact List.length_pos_iff.2 hne
    exact hsp 0 this
  · have : 0 < len := by rw [← hlen]; exact List.length_pos_iff.2 hne
    exact G0_of (by have := cell_block (h 0 (by omega)).1; simpa [Addr.add] using this)
  · obtain ⟨_, rfl⟩ := key i x hx
    exact fits_of rfl
  · obtain ⟨hi, rfl⟩ := key i x hx
    have hj : j = 0 := by
      cases j with
      | zero => rfl
      | succ j => simp [PV.cells] at hcj
    subst hj
    rw [← (h i (by omega)).1, addr_add _ _ (hsp i hi)]
    congr 2
    omega
  · obtain ⟨hi, rfl⟩ := key i x hx
    have : c = ints ((Z i).take (L i)) := by
      cases j with
      | zero => simpa [PV.cells] using hcj.symm
      | succ j => simp [PV.cells] at hcj
    subst this
    exact (h i (by omega)).2

section
variable {H : Type} {enc : TypeId × Value → H} {P : Program} {w : World} {base : Nat} {held : Bool}
/-- An argument '[][]int'. -/
theorem intss_open {t e q : TypeId} {a0 : Option Addr} {len cap fuel : Nat} {x : DataW H × List MemPlace} (ht : P.underlying t = some (.slice e)) (he : P.underlying e = some (.slice q)) (hq : P.underlying q = some (.int .i64))
    (ce : P.cellsOf e = 1) (cq : P.cellsOf q = 1) (h : DataW.trod enc P w base (fun _ => true) held fuel t [.slice a0 len cap] = some x) :
    ∃ l : List (List Int), l.length ≤ 9223372036854775807 ∧ (∀ y ∈ l, y.length ≤ 9223372036854775807) ∧ RP w (G0 w false) (.sl none 1 (l.map ints)) (.slice a0 len cap) := by
  rcases Go.Deep.open_int_rows ht he hq ce cq h with ⟨hcs, _⟩ | ⟨a, l, c, A, L, C, Z, hcs, _, hl, hm, _, hr⟩
  · simp at hcs
    obtain ⟨rfl, rfl, rfl⟩ := hcs
    exact ⟨[], by simp, by simp, .nilsl _ _ (by simp)⟩
  · simp at hcs
    obtain ⟨rfl, rfl, rfl⟩ := hcs
    refine ⟨(List.range len).map fun r => (Z r).take (L r), ?_, ?_, intss_rp A L C Z hl fun r hr' => ?_⟩
    · simp only [maxLen] at hm; simp; omega
    · intro y hy
      obtain ⟨r, hr', rfl⟩ := List.mem_map.1 hy
      obtain ⟨_, h1, h2, _⟩ := hr r (by have := List.mem_range.1 hr'; omega)
      simp only [maxLen] at h2
      simp; omega
    · obtain ⟨h1, h2, h3, h4, _, h6, h7⟩ := hr r hr'
      exact ⟨h1, ints_rp (Z r) h2 h4 h6 fun a' ha c hc => (h7 a' ha).2 c hc⟩

/-- An argument '[]int'. -/
theorem ints_open {t q : TypeId} {a0 : Option Addr} {len cap fuel : Nat} {x : DataW H × List MemPlace} (ht : P.underlying t = some (.slice q)) (hq : P.underlying q = some (.int .i64))
    (cq : P.cellsOf q = 1) (h : DataW.trod enc P w base (fun _ => true) held fuel t [.slice a0 len cap] = some x) :
    ∃ l : List Int, l.length ≤ 9223372036854775807 ∧ RP w (G0 w false) (.sl none 1 (l.map intP)) (.slice a0 len cap) := by
  rcases open_ints ht hq cq h with ⟨hcs, _⟩ | ⟨a', len', cap', zs, hcs, hb', hl', hm', hz, hy, hcell, hwz⟩
  · simp at hcs
    obtain ⟨rfl, rfl, rfl⟩ := hcs
    exact ⟨[], by simp, .nilsl _ _ (by simp)⟩
  · simp at hcs
    obtain ⟨rfl, rfl, rfl⟩ := hcs
    simp only [if_true] at hz
    refine ⟨zs.take len, ?_, ints_rp zs hl' hz (by simp) fun a'' ha c hc => by cases ha; exact hcell c (by rw [hz]; exact hc)⟩
    simp only [maxLen] at hm'; simp; omega
end
end Go.Vl

/- Arguments of any type of numbers, truth values, slices and structs, opened by their types. -/
namespace Go.Vl
set_option linter.unusedVariables false
set_option linter.unusedSimpArgs false
open Go.RowKit Go.ChangeShapes Go.WideShapes Go.ChangeAt

/-- A value of the type reads as one of the values that pv tells. -/
def Opens (P : Program) (t : TypeId) (k : Nat) {α : Type} (pv : α → PV) (good : α → Prop) : Prop :=
  ∀ (H : Type) (enc : TypeId × Value → H) (w : World) (base : Nat) (held : Bool) (fuel : Nat) (cs : List Value) (x : DataW H × List MemPlace), DataW.trod enc P w base (fun _ => true) held fuel t cs = some x →
    ∃ a, good a ∧ (pv a).fits k ∧ cs.length = k ∧ ∀ (j : Nat) (c : PV) (v : Value), (pv a).cells[j]? = some c → cs[j]? = some v → RP w (G0 w false) c v

def i64R (n : Int) : Prop := -9223372036854775808 ≤ n ∧ n ≤ 9223372036854775807

theorem opens_int {P : Program} {t : TypeId} (ht : P.underlying t = some (.int .i64)) : Opens P t 1 intP i64R := by
  intro H enc w base held fuel cs x h
  obtain ⟨n, hcs, hx, hw⟩ := DataW.trod_int ht h
  subst hcs
  refine ⟨n, ?_, fits_of rfl, rfl, fun j c v hc hv => ?_⟩
  · simp only [Lit.wf, IntKind.signed, IntKind.bits, IntKind.min, IntKind.max, Bool.and_eq_true, decide_eq_true_eq] at hw
    simpa [i64R] using hw
  · match j, hc, hv with
    | 0, hc, hv => cases hc; cases hv; exact .int _ _

theorem opens_bool {P : Program} {t : TypeId} (ht : P.underlying t = some .bool) : Opens P t 1 boolP (fun _ => True) := by
  intro H enc w base held fuel cs x h
  cases fuel with
  | zero => simp [DataW.trod] at h
  | succ n =>
    unfold DataW.trod at h
    rw [ht] at h
    have hcs : ∃ b, cs = [.bool b] := by split at h <;> simp_all
    obtain ⟨b, rfl⟩ := hcs
    refine ⟨b, trivial, fits_of rfl, rfl, fun j c v hc hv => ?_⟩
    match j, hc, hv with
    | 0, hc, hv => cases hc; cases hv; exact .bool _

theorem opens_map {P : Program} {t k : Nat} {α β : Type} {pv : α → PV} {pv' : β → PV} {good : α → Prop} {good' : β → Prop} (h : Opens P t k pv good) (g : α → β) (hp : ∀ a, pv' (g a) = pv a) (hg : ∀ a, good a → good' (g a)) : Opens P t k pv' good' := by
  intro H enc w base held fuel cs x hx
  obtain ⟨a, h1, h2, h3, h4⟩ := h H enc w base held fuel cs x hx
  exact ⟨g a, hg a h1, by rw [hp]; exact h2, h3, by rw [hp]; exact h4⟩

/-- A list by functions on its places. -/
theorem opens_slice {P : Program} {t e : TypeId} {k : Nat} {α : Type} {pv : α → PV} {good : α → Prop} (ht : P.underlying t = some (.slice e)) (hc : P.cellsOf e = k) (hk : 0 < k) (he : Opens P e k pv good) :
    Opens P t 1 (fun l : List α => .sl none k (l.map pv)) (fun l => l.length ≤ 9223372036854775807 ∧ ∀ a ∈ l, good a) := by
  intro H enc w base held fuel cs x h
  have hone : ∀ (l : List α) (v : Value), RP w (G0 w false) (.sl none k (l.map pv)) v → cs = [v] → ∀ (j : Nat) (c : PV) (u : Value), (PV.sl none k (l.map pv)).cells[j]? = some c → cs[j]? = some u → RP w (G0 w false) c u := by
    intro l v hr hcs j c u hc hu
    subst hcs
    match j, hc, hu with
    | 0, hc, hu => cases hc; cases hu; exact hr
  rcases DataW.trod_slice ht h with ⟨rfl, _⟩ | ⟨a, len, cap, elems, rest, n, _, rfl, _, hb, hl, hm, hel, hge, _, _⟩
  · exact ⟨[], ⟨by simp, by simp⟩, fits_of rfl, rfl, hone [] _ (.nilsl _ _ (by simp)) rfl⟩
  · have hrd : ∀ i, i < len → ∃ (b : α) (ws : List Value), good b ∧ (pv b).fits k ∧ ws.length = k ∧ (∀ (j : Nat) (c : PV) (v : Value), (pv b).cells[j]? = some c → ws[j]? = some v → RP w (G0 w false) c v) ∧ ∀ j, j < k → w.cell? ((a.add (i * k)).add j) = ws[j]? := by
      intro i hi
      have h1 := hge i hi
      rw [List.getElem?_eq_getElem (by omega), Option.bind_eq_some_iff] at h1
      obtain ⟨ws, h2, h3⟩ := h1
      obtain ⟨b, g1, g2, g3, g4⟩ := he H enc w base held n ws _ h3
      rw [hc] at h2
      obtain ⟨_, q2, q3⟩ := World.cells?_some h2
      exact ⟨b, ws, g1, g2, g3, g4, q3⟩
    have hex : ∀ i, ∃ (q : Option (α × List Value)), i < len → ∃ (b : α) (ws : List Value), q = some (b, ws) ∧ good b ∧ (pv b).fits k ∧ ws.length = k ∧ (∀ (j : Nat) (c : PV) (v : Value), (pv b).cells[j]? = some c → ws[j]? = some v → RP w (G0 w false) c v) ∧ ∀ j, j < k → w.cell? ((a.add (i * k)).add j) = ws[j]? := by
      intro i
      rcases Nat.lt_or_ge i len with hi | hi
      · obtain ⟨b, ws, h1, h2, h3, h4, h5⟩ := hrd i hi
        exact ⟨some (b, ws), fun _ => ⟨b, ws, rfl, h1, h2, h3, h4, h5⟩⟩
      · exact ⟨none, fun h => by omega⟩
    obtain ⟨q, hq⟩ := Classical.axiomOfChoice hex
    let l : List α := ((List.range len).filterMap q).map (·.1)
    have hfm : ∀ n, n ≤ len → ((List.range n).filterMap q).length = n ∧ ∀ i, i < n → ((List.range n).filterMap q)[i]? = q i := by
      intro n
      induction n with
      | zero => intro _; exact ⟨rfl, fun i h => by omega⟩
      | succ n ih =>
        intro hn
        obtain ⟨ih1, ih2⟩ := ih (by omega)
        obtain ⟨b, ws, hqn, _⟩ := hq n (by omega)
        rw [List.range_succ, List.filterMap_append]
        simp only [List.filterMap_cons, hqn, List.filterMap_nil]
        refine ⟨by simp [ih1], fun i hi => ?_⟩
        rw [List.getElem?_append]
        rcases Nat.lt_or_ge i n with h1 | h1
        · rw [if_pos (by omega)]; exact ih2 i h1
        · have : i = n := by omega
          subst this
          rw [if_neg (by omega), ih1, Nat.sub_self]
          exact hqn.symm
    obtain ⟨hll, hlg⟩ := hfm len (Nat.le_refl _)
    have hlen : l.length = len := by simp [l, hll]
    have hget : ∀ (i : Nat) (b : α), l[i]? = some b → i < len ∧ ∃ ws : List Value, good b ∧ (pv b).fits k ∧ ws.length = k ∧ (∀ (j : Nat) (c : PV) (v : Value), (pv b).cells[j]? = some c → ws[j]? = some v → RP w (G0 w false) c v) ∧ ∀ j, j < k → w.cell? ((a.add (i * k)).add j) = ws[j]? := by
      intro i b hb
      have hi : i < len := by rw [← hlen]; exact (List.getElem?_eq_some_iff.1 hb).1
      refine ⟨hi, ?_⟩
      simp only [l, List.getElem?_map, hlg i hi, Option.map_eq_some_iff] at hb
      obtain ⟨y, hy, rfl⟩ := hb
      obtain ⟨b, ws, h1, h2⟩ := hq i hi
      rw [hy] at h1
      cases h1
      exact ⟨ws, h2⟩
    refine ⟨l, ⟨by rw [hlen]; simp only [maxLen] at hm; omega, fun b hb => ?_⟩, fits_of rfl, rfl, hone l _ ?_ rfl⟩
    · obtain ⟨i, hi⟩ := List.getElem?_of_mem hb
      exact (hget i b hi).2.choose_spec.1
    · have hsp : 0 < len → a.spot = none := by
        intro h0
        have hl0 : 0 < l.length := by omega
        obtain ⟨_, ws, _, _, h3, _, h5⟩ := hget 0 _ (List.getElem?_eq_getElem hl0)
        have h6 := h5 0 hk
        rw [List.getElem?_eq_getElem (by omega)] at h6
        have := World.cell?_spot h6
        simpa [Addr.add] using this
      have hW : ∀ i, ∃ (f : Nat → Value), ∀ b, l[i]? = some b → ∀ (j : Nat) (c : PV), (pv b).cells[j]? = some c → w.cell? ⟨a.block, a.off + i * k + j, none⟩ = some (f j) ∧ RP w (G0 w false) c (f j) := by
        intro i
        cases hb : l[i]? with
        | none => exact ⟨fun _ => undef, fun b h => by cases h⟩
        | some b =>
          obtain ⟨hi, ws, _, h2, h3, h4, h5⟩ := hget i b hb
          refine ⟨fun j => ws.getD j undef, fun b' h j c hc => ?_⟩
          cases h
          have hj : j < k := by rw [← h2.1]; exact (List.getElem?_eq_some_iff.1 hc).1
          have hwj : ws[j]? = some (ws.getD j undef) := by rw [List.getD_eq_getElem?_getD, List.getElem?_eq_getElem (by omega)]; rfl
          refine ⟨?_, h4 j c _ hc hwj⟩
          have h6 := h5 j hj
          rw [hwj, addr_add _ _ (hsp (by omega)), addr_add _ _ rfl] at h6
          exact h6
      obtain ⟨f, hf⟩ := Classical.axiomOfChoice hW
      have hpg : ∀ (i : Nat) (y : PV), (l.map pv)[i]? = some y → ∃ b, l[i]? = some b ∧ y = pv b := by
        intro i y hy
        simp only [List.getElem?_map, Option.map_eq_some_iff] at hy
        obtain ⟨b, hb, rfl⟩ := hy
        exact ⟨b, hb, rfl⟩
      refine .sl none k _ a len cap f (by simp) (fun hne => hsp ?_) (by simp [hlen]) hl (fun hne => ?_) (fun i y hy => ?_) (fun i y j c hy hcj => ?_) (fun i y j c hy hcj => ?_)
      · have : (l.map pv).length ≠ 0 := fun h => hne (List.eq_nil_of_length_eq_zero h)
        simp [hlen] at this; omega
      · have h0 : 0 < len := by
          have : (l.map pv).length ≠ 0 := fun h => hne (List.eq_nil_of_length_eq_zero h)
          simp [hlen] at this; omega
        obtain ⟨_, ws, _, _, h3, _, h5⟩ := hget 0 _ (List.getElem?_eq_getElem (show 0 < l.length by omega))
        have h6 := h5 0 hk
        rw [List.getElem?_eq_getElem (by omega)] at h6
        exact G0_of (by have := cell_block h6; simpa [Addr.add] using this)
      · obtain ⟨b, hb, rfl⟩ := hpg i y hy
        obtain ⟨_, ws, _, h2, _⟩ := hget i b hb
        exact h2
      · obtain ⟨b, hb, rfl⟩ := hpg i y hy
        exact (hf i b hb j c hcj).1
      · obtain ⟨b, hb, rfl⟩ := hpg i y hy
        exact (hf i b hb j c hcj).2

/-- Fields one behind another. -/
theorem fields2 {w : World} {G : Nat → Prop} {cs : List Value} {off n1 n2 : Nat} {c1 c2 : List PV} (h1 : c1.length = n1)
    (g1 : ∀ (j : Nat) (c : PV) (v : Value), c1[j]? = some c → ((cs.drop off).take n1)[j]? = some v → RP w G c v) (g2 : ∀ (j : Nat) (c : PV) (v : Value), c2[j]? = some c → ((cs.drop (off + n1)).take n2)[j]? = some v → RP w G c v) (hl2 : c2.length = n2) :
    ∀ (j : Nat) (c : PV) (v : Value), (c1 ++ c2)[j]? = some c → ((cs.drop off).take (n1 + n2))[j]? = some v → RP w G c v := by
  intro j c v hc hv
  rw [List.getElem?_append] at hc
  split at hc
  · rename_i hj
    refine g1 j c v hc ?_
    rw [List.getElem?_take] at hv ⊢
    split at hv
    · rw [if_pos (by omega)]; exact hv
    · cases hv
  · rename_i hj
    have hj2 : j - c1.length < n2 := by rw [← hl2]; exact (List.getElem?_eq_some_iff.1 hc).1
    refine g2 (j - c1.length) c v hc ?_
    rw [List.getElem?_take] at hv ⊢
    rw [if_pos hj2]
    split at hv
    · rw [List.getElem?_drop] at hv ⊢
      rw [← hv]; congr 1; omega
    · cases hv

/-- A struct, field by field, from a place on. -/
def OpenF (P : Program) (off : Nat) (fs : List Field) (k : Nat) {α : Type} (cells : α → List PV) (good : α → Prop) : Prop :=
  ∀ (H : Type) (enc : TypeId × Value → H) (w : World) (base : Nat) (held : Bool) (fuel : Nat) (cs : List Value),
    (∀ (i : Nat) (f : Field), fs[i]? = some f → ∃ x, DataW.trod enc P w base (fun _ => true) held fuel f.type ((cs.drop f.offset).take (P.cellsOf f.type)) = some x) →
    ∃ a, good a ∧ (cells a).length = k ∧ (∀ c ∈ cells a, c.isAgg = false) ∧ ∀ (j : Nat) (c : PV) (v : Value), (cells a)[j]? = some c → ((cs.drop off).take k)[j]? = some v → RP w (G0 w false) c v

theorem openF_nil {P : Program} {off : Nat} : OpenF P off [] 0 (fun _ : Unit => []) (fun _ => True) := by
  intro H enc w base held fuel cs _
  exact ⟨(), trivial, rfl, by simp, fun j c v h => by simp at h⟩

theorem openF_cons {P : Program} {off : Nat} {fs : List Field} {f : Field} {k n : Nat} {α β : Type} {cells : α → List PV} {pv : β → PV} {good : α → Prop} {good2 : β → Prop} (hf : Opens P f.type n pv good2) (ho : f.offset = off) (hn : P.cellsOf f.type = n) (h : OpenF P (off + n) fs k cells good) :
    OpenF P off (f :: fs) (n + k) (fun a : β × α => (pv a.1).cells ++ cells a.2) (fun a => good2 a.1 ∧ good a.2) := by
  intro H enc w base held fuel cs hall
  obtain ⟨a, g1, g2, g3, g4⟩ := h H enc w base held fuel cs (fun i f' hi => hall (i + 1) f' (by simpa using hi))
  obtain ⟨x, hx⟩ := hall 0 f rfl
  rw [ho, hn] at hx
  obtain ⟨b, b1, b2, b3, b4⟩ := hf H enc w base held fuel _ x hx
  refine ⟨(b, a), ⟨b1, g1⟩, by simp [g2, b2.1], fun c hc => ?_, fields2 b2.1 b4 g4 g2⟩
  rcases List.mem_append.1 hc with hc | hc
  · obtain ⟨j, hj⟩ := List.getElem?_of_mem hc
    exact b2.2 j c hj
  · exact g3 c hc

theorem opens_struct {P : Program} {t k : Nat} {fs : Array Field} {α : Type} {cells : α → List PV} {good : α → Prop} (ht : P.underlying t = some (.struct fs)) (hc : P.cellsOf t = k) (h : OpenF P 0 fs.toList k cells good) : Opens P t k (fun a => .agg (cells a)) good := by
  intro H enc w base held fuel cs x hx
  obtain ⟨xs, n, rfl, _, hl, hlen, hf⟩ := DataW.trod_struct ht hx
  rw [hc] at hl
  obtain ⟨a, g1, g2, g3, g4⟩ := h H enc w base held n cs (fun i f hi => by
    have h1 := hf i f (by simpa using hi)
    have hi2 : i < xs.length := by rw [hlen]; simpa using (List.getElem?_eq_some_iff.1 hi).1
    exact ⟨xs[i], by rw [h1]; exact List.getElem?_eq_getElem hi2⟩)
  refine ⟨a, g1, ⟨g2, fun j c hj => g3 c (List.mem_of_getElem? hj)⟩, hl, fun j c v hcj hv => g4 j c v hcj ?_⟩
  have hj : j < k := by rw [← g2]; exact (List.getElem?_eq_some_iff.1 hcj).1
  rw [List.drop_zero, List.getElem?_take, if_pos hj]
  exact hv

/-- The value of an argument of one cell. -/
theorem Opens.one {P : Program} {t : TypeId} {α : Type} {pv : α → PV} {good : α → Prop} (h : Opens P t 1 pv good) (hna : ∀ a, (pv a).cells = [pv a]) {H : Type} {enc : TypeId × Value → H} {w : World} {base : Nat} {held : Bool} {v : Value} {d : DataW H} {ps : List MemPlace} (hv : v.cells.toList = [v])
    (hd : DataW.Trod enc P w base (fun _ => true) held t v d ps) : ∃ a, good a ∧ RP w (G0 w false) (pv a) v := by
  obtain ⟨fuel, hf⟩ := hd
  rw [hv] at hf
  obtain ⟨a, g1, g2, g3, g4⟩ := h H enc w base held fuel _ _ hf
  exact ⟨a, g1, g4 0 _ _ (by rw [hna]; rfl) rfl⟩

/-- The value of an argument that is a struct. -/
theorem Opens.agg {P : Program} {t k : Nat} {α : Type} {cells : α → List PV} {good : α → Prop} (h : Opens P t k (fun a => .agg (cells a)) good) {H : Type} {enc : TypeId × Value → H} {w : World} {base : Nat} {held : Bool} {cs : Array Value} {d : DataW H} {ps : List MemPlace}
    (hd : DataW.Trod enc P w base (fun _ => true) held t (.agg cs) d ps) : ∃ a, good a ∧ RP w (G0 w false) (.agg (cells a)) (.agg cs) := by
  obtain ⟨fuel, hf⟩ := hd
  obtain ⟨a, g1, g2, g3, g4⟩ := h H enc w base held fuel _ _ hf
  refine ⟨a, g1, .agg _ _ ?_ (fun j c hc => g2.2 j c hc) (fun j c v hc hv => g4 j c v hc ?_)⟩
  · have h1 : (cells a).length = k := g2.1
    have h2 : cs.toList.length = k := g3
    rw [h1, ← h2]; simp
  · show cs.toList[j]? = some v
    simpa using hv
end Go.Vl

namespace Go.Vl
set_option linter.unusedVariables false
set_option linter.unusedSimpArgs false
open Go.Proofs

structure OpM where
  who : Int
  name : Int
  value : Int
  gone : Bool
  deriving Inhabited, DecidableEq
abbrev opP (o : OpM) : PV := .agg [.int .i64 o.who, .int .i64 o.name, .int .i64 o.value, .bool o.gone]
abbrev pairP (p : Int × Int) : PV := .agg [.int .i64 p.1, .int .i64 p.2]
structure InstM where
  shares : Bool
  order : List Int
  values : List Int
  own : List (Int × Int)
  deriving Inhabited, DecidableEq
abbrev instP (x : InstM) : PV := .agg [.bool x.shares, .sl none 1 (x.order.map intP), .sl none 1 (x.values.map intP), .sl none 2 (x.own.map pairP)]
structure HeapM where
  keys : List Int
  insts : List InstM
  deriving Inhabited, DecidableEq
abbrev heapP (h : HeapM) : PV := .agg [.sl none 1 (h.keys.map intP), .sl none 4 (h.insts.map instP)]
theorem getD_map0 {α β : Type} (f : α → β) (l : List α) (k : Nat) (d : α) (d' : β) (h : f d = d') : (l.map f).getD k d' = f (l.getD k d) := by
  subst h
  simp only [List.getD, List.getElem?_map]
  cases l[k]? <;> rfl
theorem getD_ops (l : List OpM) (k : Nat) : (l.map opP).getD k (.agg [.int .i64 0, .int .i64 0, .int .i64 0, .bool false]) = opP (l.getD k ⟨0, 0, 0, false⟩) := getD_map0 opP l k ⟨0, 0, 0, false⟩ _ rfl
theorem getD_pairs (l : List (Int × Int)) (k : Nat) : (l.map pairP).getD k (.agg [.int .i64 0, .int .i64 0]) = pairP (l.getD k (0, 0)) := getD_map0 pairP l k (0, 0) _ rfl
theorem getD_insts (l : List InstM) (k : Nat) : (l.map instP).getD k (.agg [.bool false, .sl none 1 [], .sl none 1 [], .sl none 2 []]) = instP (l.getD k ⟨false, [], [], []⟩) := getD_map0 instP l k ⟨false, [], [], []⟩ _ rfl
theorem rep_ops (n : Nat) : List.replicate n (PV.agg [.int .i64 0, .int .i64 0, .int .i64 0, .bool false]) = (List.replicate n (⟨0, 0, 0, false⟩ : OpM)).map opP := by simp
theorem rep_pairs (n : Nat) : List.replicate n (PV.agg [.int .i64 0, .int .i64 0]) = (List.replicate n ((0, 0) : Int × Int)).map pairP := by simp
theorem set_ops (l : List OpM) (i : Nat) (x : OpM) : (l.map opP).set i (opP x) = (l.set i x).map opP := by simp [List.map_set]
theorem set_pairs (l : List (Int × Int)) (i : Nat) (x : Int × Int) : (l.map pairP).set i (pairP x) = (l.set i x).map pairP := by simp [List.map_set]
theorem set_op1 (l : List OpM) (i : Nat) (x : OpM) : (l.map opP).set i (.agg [.int .i64 x.who, .int .i64 x.name, .int .i64 x.value, .bool x.gone]) = (l.set i x).map opP := set_ops l i x
theorem set_pair1 (l : List (Int × Int)) (i : Nat) (a b : Int) : (l.map pairP).set i (.agg [.int .i64 a, .int .i64 b]) = (l.set i (a, b)).map pairP := set_pairs l i (a, b)
theorem app_pairs (l : List (Int × Int)) (a b : Int) : l.map pairP ++ [.agg [.int .i64 a, .int .i64 b]] = (l ++ [(a, b)]).map pairP := by simp
/-- A copy that is under way. -/
def cpy {α : Type} (d : α) (l : List α) (k : Nat) : List α := l.take k ++ List.replicate (l.length - k) d
theorem cpy_0 {α : Type} (d : α) (l : List α) : cpy d l 0 = List.replicate l.length d := by simp [cpy]
theorem cpy_len {α : Type} (d : α) (l : List α) (k : Nat) (h : k ≤ l.length) : (cpy d l k).length = l.length := by simp [cpy]; omega
theorem cpy_end {α : Type} (d : α) (l : List α) : cpy d l l.length = l := by simp [cpy]
theorem cpy_set {α : Type} (d : α) (l : List α) (k : Nat) (h : k < l.length) : (cpy d l k).set k (l.getD k d) = cpy d l (k + 1) := by
  apply List.ext_getElem?
  intro i
  have hl : (l.take k).length = k := by simp; omega
  have hl2 : (l.take (k+1)).length = k + 1 := by simp; omega
  rw [List.getElem?_set]
  by_cases e : k = i
  · subst e
    rw [if_pos rfl, if_pos (by rw [cpy_len d l k (by omega)]; exact h)]
    simp only [cpy]
    rw [List.getElem?_append_left (by omega), List.getElem?_take, if_pos (by omega)]
    simp [List.getD, List.getElem?_eq_getElem h]
  · rw [if_neg e]
    simp only [cpy]
    rw [List.getElem?_append, List.getElem?_append, hl, hl2]
    by_cases h1 : i < k
    · rw [if_pos h1, if_pos (by omega), List.getElem?_take, List.getElem?_take, if_pos h1, if_pos (by omega)]
    · rw [if_neg h1, if_neg (by omega), List.getElem?_replicate, List.getElem?_replicate]
      by_cases h2 : i < l.length
      · rw [if_pos (by omega), if_pos (by omega)]
      · rw [if_neg (by omega), if_neg (by omega)]
theorem take_eqS {α : Type} {a b : List α} {k : Nat} (d : α) (h : k < a.length) (hb : k < b.length) : a.take (k+1) = b.take (k+1) ↔ a.take k = b.take k ∧ a.getD k d = b.getD k d := by
  have ha : a.take (k+1) = a.take k ++ [a.getD k d] := by rw [List.take_add_one, List.getD, List.getElem?_eq_getElem h]; rfl
  have hbb : b.take (k+1) = b.take k ++ [b.getD k d] := by rw [List.take_add_one, List.getD, List.getElem?_eq_getElem hb]; rfl
  rw [ha, hbb]
  constructor
  · intro he
    have := List.append_inj he (by simp; omega)
    exact ⟨this.1, by simpa using this.2⟩
  · rintro ⟨h1, h2⟩; rw [h1, h2]
def okOp (o : OpM) : Prop := (0 ≤ o.who ∧ o.who ≤ 3) ∧ (0 ≤ o.name ∧ o.name ≤ 9) ∧ (0 ≤ o.value ∧ o.value ≤ 99)
instance (o : OpM) : Decidable (okOp o) := by unfold okOp; exact inferInstance
def VOps (l : List OpM) : Prop := l.length ≤ 40 ∧ ∀ o ∈ l, okOp o
instance (l : List OpM) : Decidable (VOps l) := by unfold VOps; exact inferInstance

theorem isWho_sat {who : Int}   : SatAt Try.prog 66 [i64 who] [] (fun res rows => res = [bo (decide (0 ≤ who ∧ who ≤ 3))] ∧ rows = []) := by
  refine sat_entry_G (rs := [(2, none)]) Try.func66 rfl rfl (Nat.le_of_ble_eq_true rfl) (Nat.le_of_ble_eq_true rfl) (resTs1 trivial) fun C hC => ?_
  rw [Try.ntmps66]
  replace hC : C.nb = 0 := hC
  refine vc_seq fun K1 hK1 => ?_
  refine vc_region ?_
  refine vo_assign_pv rfl rfl ?_
  refine vo_nil ?_
  refine hK1 _ ?_
  refine vc_seq fun K2 hK2 => ?_
  refine vc_region ?_
  refine vo_move_pv rfl rfl ?_
  refine vo_call0 Try.func91 rfl rfl rfl rfl isUpTo_sat ?_
  rintro _ _ ⟨rfl, rfl⟩
  refine ⟨rfl, rfl, .inl rfl, ?_⟩
  refine vo_stM ?_
  refine vo_assign_pv rfl rfl ?_
  refine vo_nil ?_
  refine hK2 _ ?_
  refine vc_ret ?_
  change retQ _ _ _ _ _
  refine retQ_sel [] (srows := []) (.inr rfl) hC rfl rfl rfl rfl rfl rfl rfl ?_
  refine ⟨?_, rfl⟩
  refine (congrArg (fun b => [bo b]) (?_ : _ = _) : [bo _] = [bo _])
  rfl


theorem isOp_sat {o : OpM}   : SatAt Try.prog 54 [.pv false (opP o)] [] (fun res rows => res = [bo (decide (okOp o))] ∧ rows = []) := by
  refine sat_entry_G (rs := [(2, none)]) Try.func54 rfl rfl (Nat.le_of_ble_eq_true rfl) (Nat.le_of_ble_eq_true rfl) (resTs1 trivial) fun C hC => ?_
  rw [Try.ntmps54]
  replace hC : C.nb = 0 := hC
  refine vc_seq fun K1 hK1 => ?_
  refine vc_region ?_
  refine vo_box rfl rfl ?_
  refine vo_stM ?_
  refine vo_assign_pv rfl rfl ?_
  refine vo_nil ?_
  refine hK1 _ ?_
  refine vc_seq fun K2 hK2 => ?_
  refine vc_region ?_
  refine vo_fieldAddr_ptr rfl rfl Try.underlying46 rfl inf3 (by rw [sz3]; decide) ?_
  try simp only [Nat.zero_add]
  refine vo_load_var rfl rfl rfl Try.underlying3 rfl rfl ?_
  refine vo_call0 Try.func66 rfl rfl rfl rfl isWho_sat ?_
  rintro _ _ ⟨rfl, rfl⟩
  refine ⟨rfl, rfl, .inl rfl, ?_⟩
  refine vo_stM ?_
  refine vo_move_pv rfl rfl ?_
  refine vo_split 6 rfl (fun hg1 => ?_) (fun hg1 => ?_)
  · try simp only [decide_eq_true_eq, decide_eq_false_iff_not, beq_iff_eq, bne_iff_ne, beq_eq_false_iff_ne, bne_eq_false_iff_eq, Bool.not_eq_true, Bool.not_eq_false, Bool.not_eq_eq_eq_not, Bool.not_true, Bool.not_false, List.length_map, Int.not_lt, Int.not_le, ne_eq, Decidable.not_not] at hg1
    refine vo_guard_on rfl rfl rfl ?_
    refine vo_fieldAddr_ptr rfl rfl Try.underlying46 rfl inf3 (by rw [sz3]; decide) ?_
    try simp only [Nat.zero_add]
    refine vo_guard_on rfl rfl rfl ?_
    refine vo_load_var rfl rfl rfl Try.underlying3 rfl rfl ?_
    refine vo_guard_on rfl rfl rfl ?_
    refine vo_call0 Try.func91 rfl rfl rfl rfl isUpTo_sat ?_
    rintro _ _ ⟨rfl, rfl⟩
    refine ⟨rfl, rfl, .inl rfl, ?_⟩
    refine vo_stM ?_
    refine vo_pick_t rfl rfl ?_
    refine vo_move_pv rfl rfl ?_
    refine vo_split 11 rfl (fun hg2 => ?_) (fun hg2 => ?_)
    · try simp only [decide_eq_true_eq, decide_eq_false_iff_not, beq_iff_eq, bne_iff_ne, beq_eq_false_iff_ne, bne_eq_false_iff_eq, Bool.not_eq_true, Bool.not_eq_false, Bool.not_eq_eq_eq_not, Bool.not_true, Bool.not_false, List.length_map, Int.not_lt, Int.not_le, ne_eq, Decidable.not_not] at hg2
      refine vo_guard_on rfl rfl rfl ?_
      refine vo_fieldAddr_ptr rfl rfl Try.underlying46 rfl inf3 (by rw [sz3]; decide) ?_
      try simp only [Nat.zero_add]
      refine vo_guard_on rfl rfl rfl ?_
      refine vo_load_var rfl rfl rfl Try.underlying3 rfl rfl ?_
      refine vo_guard_on rfl rfl rfl ?_
      refine vo_call0 Try.func91 rfl rfl rfl rfl isUpTo_sat ?_
      rintro _ _ ⟨rfl, rfl⟩
      refine ⟨rfl, rfl, .inl rfl, ?_⟩
      refine vo_stM ?_
      refine vo_pick_t rfl rfl ?_
      refine vo_assign_pv rfl rfl ?_
      refine vo_nil ?_
      refine hK2 _ ?_
      refine vc_ret ?_
      change retQ _ _ _ _ _
      refine retQ_sel [] (srows := []) (.inr rfl) hC rfl rfl rfl rfl rfl rfl rfl ?_
      refine ⟨?_, rfl⟩
      refine (congrArg (fun b => [bo b]) (?_ : _ = _) : [bo _] = [bo _])
      unfold okOp; first | omega | (exact bT (by omega)) | (exact bF (by omega)) | (exact decide_eq_decide.2 (by omega))
    · try simp only [decide_eq_true_eq, decide_eq_false_iff_not, beq_iff_eq, bne_iff_ne, beq_eq_false_iff_ne, bne_eq_false_iff_eq, Bool.not_eq_true, Bool.not_eq_false, Bool.not_eq_eq_eq_not, Bool.not_true, Bool.not_false, List.length_map, Int.not_lt, Int.not_le, ne_eq, Decidable.not_not] at hg2
      refine vo_guard_off rfl rfl rfl rfl rfl ?_
      refine vo_guard_off rfl rfl rfl rfl rfl ?_
      refine vo_guard_off rfl rfl rfl rfl rfl ?_
      refine vo_pick_f rfl rfl ?_
      refine vo_assign_pv rfl rfl ?_
      refine vo_nil ?_
      refine hK2 _ ?_
      refine vc_ret ?_
      change retQ _ _ _ _ _
      refine retQ_sel [] (srows := []) (.inr rfl) hC rfl rfl rfl rfl rfl rfl rfl ?_
      refine ⟨?_, rfl⟩
      refine (congrArg (fun b => [bo b]) (?_ : _ = _) : [bo _] = [bo _])
      unfold okOp; first | omega | (exact bT (by omega)) | (exact bF (by omega)) | (exact decide_eq_decide.2 (by omega))
  · try simp only [decide_eq_true_eq, decide_eq_false_iff_not, beq_iff_eq, bne_iff_ne, beq_eq_false_iff_ne, bne_eq_false_iff_eq, Bool.not_eq_true, Bool.not_eq_false, Bool.not_eq_eq_eq_not, Bool.not_true, Bool.not_false, List.length_map, Int.not_lt, Int.not_le, ne_eq, Decidable.not_not] at hg1
    refine vo_guard_off rfl rfl rfl rfl rfl ?_
    refine vo_guard_off rfl rfl rfl rfl rfl ?_
    refine vo_guard_off rfl rfl rfl rfl rfl ?_
    refine vo_pick_f rfl rfl ?_
    refine vo_move_pv rfl rfl ?_
    refine vo_guard_off rfl rfl rfl rfl rfl ?_
    refine vo_guard_off rfl rfl rfl rfl rfl ?_
    refine vo_guard_off rfl rfl rfl rfl rfl ?_
    refine vo_pick_f rfl rfl ?_
    refine vo_assign_pv rfl rfl ?_
    refine vo_nil ?_
    refine hK2 _ ?_
    refine vc_ret ?_
    change retQ _ _ _ _ _
    refine retQ_sel [] (srows := []) (.inr rfl) hC rfl rfl rfl rfl rfl rfl rfl ?_
    refine ⟨?_, rfl⟩
    refine (congrArg (fun b => [bo b]) (?_ : _ = _) : [bo _] = [bo _])
    unfold okOp; first | omega | (exact bT (by omega)) | (exact bF (by omega)) | (exact decide_eq_decide.2 (by omega))


theorem implValidOps_sat {nl0 : Option Bool} {list : List OpM} (hlist : list.length < 1000000000)  : SatAt Try.prog 16 [.pv false (.sl nl0 4 (list.map opP))] [] (fun res rows => res = [bo (decide (VOps list))] ∧ rows = []) := by
  refine sat_entry_G (rs := [(2, none)]) Try.func16 rfl rfl (Nat.le_of_ble_eq_true rfl) (Nat.le_of_ble_eq_true rfl) (resTs1 trivial) fun C hC => ?_
  rw [Try.ntmps16]
  replace hC : C.nb = 0 := hC
  refine vc_seq fun K1 hK1 => ?_
  refine vc_region ?_
  refine vo_assign_pv rfl rfl ?_
  refine vo_nil ?_
  refine hK1 _ ?_
  refine vc_seq fun K2 hK2 => ?_
  refine vc_seq fun K3 hK3 => ?_
  refine vc_region ?_
  refine vo_move_pv rfl rfl ?_
  refine vo_len_pv rfl rfl Try.underlying23 ?_
  refine vo_binI rfl rfl rfl rfl trivial ?_
  refine vo_nil ?_
  refine hK3 _ ?_
  refine vc_cond rfl (fun hc1 => ?_) (fun hc1 => ?_)
  · try simp only [decide_eq_true_eq, decide_eq_false_iff_not, beq_iff_eq, bne_iff_ne, beq_eq_false_iff_ne, bne_eq_false_iff_eq, Bool.not_eq_true, Bool.not_eq_false, Bool.not_eq_eq_eq_not, Bool.not_true, Bool.not_false, List.length_map, Int.not_lt, Int.not_le, ne_eq, Decidable.not_not] at hc1
    refine vc_seq fun K4 hK4 => ?_
    refine vc_region ?_
    refine vo_assign_pv rfl rfl ?_
    refine vo_nil ?_
    refine hK4 _ ?_
    refine vc_ret ?_
    change retQ _ _ _ _ _
    refine retQ_sel [] (srows := []) (.inr rfl) hC rfl rfl rfl rfl rfl rfl rfl ?_
    refine ⟨?_, rfl⟩
    refine (congrArg (fun b => [bo b]) (?_ : _ = _) : [bo _] = [bo _])
    exact bF fun h => by have := h.1; omega
  · try simp only [decide_eq_true_eq, decide_eq_false_iff_not, beq_iff_eq, bne_iff_ne, beq_eq_false_iff_ne, bne_eq_false_iff_eq, Bool.not_eq_true, Bool.not_eq_false, Bool.not_eq_eq_eq_not, Bool.not_true, Bool.not_false, List.length_map, Int.not_lt, Int.not_le, ne_eq, Decidable.not_not] at hc1
    refine vc_skip ?_
    refine hK2 _ ?_
    refine vc_seq fun K5 hK5 => ?_
    refine vc_seq fun K6 hK6 => ?_
    refine vc_region ?_
    refine vo_move_pv rfl rfl ?_
    refine vo_len_pv rfl rfl Try.underlying23 ?_
    refine vo_move_pv rfl rfl ?_
    refine vo_nil ?_
    refine hK6 _ ?_
    refine vc_block ?_
    refine vc_stM ?_
    refine vc_loopE [8, 9] [10] [] _ _ (fun mz vs rs => ∃ (k : Nat), mz = list.length - k ∧ (k ≤ list.length) ∧ (∀ o ∈ list.take k, okOp o) ∧ vs = [i64 k] ∧ rs = []) (list.length) rfl rfl (le_len hC rfl) ⟨rfl, rfl, rfl⟩ rfl ⟨0, rfl, Nat.zero_le _, (by simp), rfl, rfl⟩ ?_
    rintro mz vs rs - - ⟨k, rfl, hk, hf, rfl, rfl⟩
    refine vc_stM ?_
    refine vc_seq fun K7 hK7 => ?_
    refine vc_region ?_
    refine vo_binI rfl rfl rfl rfl trivial ?_
    refine vo_nil ?_
    refine hK7 _ ?_
    refine vc_seq fun K8 hK8 => ?_
    refine vc_cond rfl (fun hc2 => ?_) (fun hc2 => ?_)
    · try simp only [decide_eq_true_eq, decide_eq_false_iff_not, beq_iff_eq, bne_iff_ne, beq_eq_false_iff_ne, bne_eq_false_iff_eq, Bool.not_eq_true, Bool.not_eq_false, Bool.not_eq_eq_eq_not, Bool.not_true, Bool.not_false, List.length_map, Int.not_lt, Int.not_le, ne_eq, Decidable.not_not] at hc2
      refine vc_skip ?_
      refine hK8 _ ?_
      refine vc_seq fun K9 hK9 => ?_
      refine vc_block ?_
      refine vc_seq fun K10 hK10 => ?_
      refine vc_region ?_
      refine vo_index_pv (.agg [(.int .i64 0), (.int .i64 0), (.int .i64 0), (.bool false)]) rfl rfl rfl E23.und inf46 sz46 sd sd ?_
      simp only [Int.toNat_natCast, Int.toNat_zero, getD_ints, getD_intss, getD_bools, getD_bytes, PV.cells, getD_ops, getD_pairs, getD_insts]
      refine vo_load_adrS rfl rfl Try.underlying46 rfl inf46 sz46 rfl ?_
      refine vo_st (by (try simp only [St.put, PV.cells, PV.scal, List.drop_succ_cons, List.drop_zero, List.take_succ_cons, List.take_zero, List.map_cons, List.map_nil, Bool.or_true, Bool.or_false, Bool.false_or, Bool.true_or, opP, pairP, instP, heapP]); exact eq_refl _) ?_
      refine vo_alloc Z46 rfl ?_
      refine vo_stM ?_
      refine vo_store_varS rfl rfl rfl inf46 sz46 rfl ?_
      refine vo_stM ?_
      refine vo_nil ?_
      refine hK10 _ ?_
      refine vc_seq fun K11 hK11 => ?_
      refine vc_region ?_
      refine vo_load_varS rfl rfl rfl Try.underlying46 rfl inf46 sz46 rfl rfl ?_
      refine vo_call0 Try.func54 rfl rfl rfl rfl isOp_sat ?_
      rintro _ _ ⟨rfl, rfl⟩
      refine ⟨rfl, rfl, .inl rfl, ?_⟩
      refine vo_stM ?_
      refine vo_not rfl rfl ?_
      refine vo_nil ?_
      refine hK11 _ ?_
      refine vc_cond rfl (fun hc3 => ?_) (fun hc3 => ?_)
      · try simp only [decide_eq_true_eq, decide_eq_false_iff_not, beq_iff_eq, bne_iff_ne, beq_eq_false_iff_ne, bne_eq_false_iff_eq, Bool.not_eq_true, Bool.not_eq_false, Bool.not_eq_eq_eq_not, Bool.not_true, Bool.not_false, List.length_map, Int.not_lt, Int.not_le, ne_eq, Decidable.not_not] at hc3
        refine vc_seq fun K12 hK12 => ?_
        refine vc_region ?_
        refine vo_assign_pv rfl rfl ?_
        refine vo_nil ?_
        refine hK12 _ ?_
        refine vc_ret ?_
        change retQ _ _ _ _ _
        refine retQ_sel [] (srows := []) (.inr rfl) hC rfl rfl rfl rfl rfl rfl rfl ?_
        refine ⟨?_, rfl⟩
        refine (congrArg (fun b => [bo b]) (?_ : _ = _) : [bo _] = [bo _])
        exact bF fun h => hc3 (h.2 _ (getD_mem (show k < list.length by omega) ⟨0, 0, 0, false⟩))
      · try simp only [decide_eq_true_eq, decide_eq_false_iff_not, beq_iff_eq, bne_iff_ne, beq_eq_false_iff_ne, bne_eq_false_iff_eq, Bool.not_eq_true, Bool.not_eq_false, Bool.not_eq_eq_eq_not, Bool.not_true, Bool.not_false, List.length_map, Int.not_lt, Int.not_le, ne_eq, Decidable.not_not] at hc3
        refine vc_skip ?_
        refine hK9 _ ?_
        refine vc_region ?_
        refine vo_binI rfl rfl rfl rfl sd ?_
        refine vo_move_pv rfl rfl ?_
        refine vo_nil ?_
        change againE _ _ _ _ _ _ _ _ _ _
        refine againE_mk rfl rfl rfl rfl rfl rfl ⟨_, ?_, k + 1, rfl, ?_, ?_, rfl, rfl⟩
        · omega
        · omega
        · exact (all_take_succ (by omega) ⟨0, 0, 0, false⟩).2 ⟨hf, by first | assumption | (simpa using hc3)⟩
    · try simp only [decide_eq_true_eq, decide_eq_false_iff_not, beq_iff_eq, bne_iff_ne, beq_eq_false_iff_ne, bne_eq_false_iff_eq, Bool.not_eq_true, Bool.not_eq_false, Bool.not_eq_eq_eq_not, Bool.not_true, Bool.not_false, List.length_map, Int.not_lt, Int.not_le, ne_eq, Decidable.not_not] at hc2
      refine vc_exit ?_
      refine hK5 _ ?_
      refine vc_seq fun K13 hK13 => ?_
      refine vc_region ?_
      refine vo_assign_pv rfl rfl ?_
      refine vo_nil ?_
      refine hK13 _ ?_
      refine vc_ret ?_
      change retQ _ _ _ _ _
      refine retQ_sel [] (srows := []) (.inr rfl) hC rfl rfl rfl rfl rfl rfl rfl ?_
      refine ⟨?_, rfl⟩
      refine (congrArg (fun b => [bo b]) (?_ : _ = _) : [bo _] = [bo _])
      rw [take_all (by omega)] at hf; exact bT ⟨by omega, hf⟩


theorem specValidOps0_sat {nl0 : Option Bool} {list : List OpM} (hlist : list.length < 1000000000)  : SatAt Try.prog 55 [.pv false (.sl nl0 4 (list.map opP))] [] (fun res rows => res = [bo (decide (VOps list))] ∧ rows = []) := by
  refine sat_entry_G (rs := [(2, none)]) Try.func55 rfl rfl (Nat.le_of_ble_eq_true rfl) (Nat.le_of_ble_eq_true rfl) (resTs1 trivial) fun C hC => ?_
  rw [Try.ntmps55]
  replace hC : C.nb = 0 := hC
  refine vc_seq fun K1 hK1 => ?_
  refine vc_region ?_
  refine vo_assign_pv rfl rfl ?_
  refine vo_nil ?_
  refine hK1 _ ?_
  refine vc_seq fun K2 hK2 => ?_
  refine vc_seq fun K3 hK3 => ?_
  refine vc_region ?_
  refine vo_assign_pv rfl rfl ?_
  refine vo_nil ?_
  refine hK3 _ ?_
  refine vc_block ?_
  refine vc_stM ?_
  refine vc_loopE [0] [3] [] _ _ (fun mz vs rs => ∃ (k : Nat), mz = list.length - k ∧ (k ≤ list.length) ∧ (∀ o ∈ list.take k, okOp o) ∧ vs = [i64 k] ∧ rs = []) (list.length) rfl rfl (le_len hC rfl) ⟨rfl, rfl, rfl⟩ rfl ⟨0, rfl, Nat.zero_le _, (by simp), rfl, rfl⟩ ?_
  rintro mz vs rs - - ⟨k, rfl, hk, hf, rfl, rfl⟩
  refine vc_stM ?_
  refine vc_seq fun K4 hK4 => ?_
  refine vc_seq fun K5 hK5 => ?_
  refine vc_region ?_
  refine vo_move_pv rfl rfl ?_
  refine vo_move_pv rfl rfl ?_
  refine vo_len_pv rfl rfl Try.underlying23 ?_
  refine vo_binI rfl rfl rfl rfl trivial ?_
  refine vo_nil ?_
  refine hK5 _ ?_
  refine vc_cond rfl (fun hc1 => ?_) (fun hc1 => ?_)
  · try simp only [decide_eq_true_eq, decide_eq_false_iff_not, beq_iff_eq, bne_iff_ne, beq_eq_false_iff_ne, bne_eq_false_iff_eq, Bool.not_eq_true, Bool.not_eq_false, Bool.not_eq_eq_eq_not, Bool.not_true, Bool.not_false, List.length_map, Int.not_lt, Int.not_le, ne_eq, Decidable.not_not] at hc1
    refine vc_skip ?_
    refine hK4 _ ?_
    refine vc_seq fun K6 hK6 => ?_
    refine vc_block ?_
    refine vc_seq fun K7 hK7 => ?_
    refine vc_region ?_
    refine vo_move_pv rfl rfl ?_
    refine vo_move_pv rfl rfl ?_
    refine vo_index_pv (.agg [(.int .i64 0), (.int .i64 0), (.int .i64 0), (.bool false)]) rfl rfl rfl E23.und inf46 sz46 sd sd ?_
    simp only [Int.toNat_natCast, Int.toNat_zero, getD_ints, getD_intss, getD_bools, getD_bytes, PV.cells, getD_ops, getD_pairs, getD_insts]
    refine vo_load_adrS rfl rfl Try.underlying46 rfl inf46 sz46 rfl ?_
    refine vo_st (by (try simp only [St.put, PV.cells, PV.scal, List.drop_succ_cons, List.drop_zero, List.take_succ_cons, List.take_zero, List.map_cons, List.map_nil, Bool.or_true, Bool.or_false, Bool.false_or, Bool.true_or, opP, pairP, instP, heapP]); exact eq_refl _) ?_
    refine vo_alloc Z46 rfl ?_
    refine vo_stM ?_
    refine vo_store_varS rfl rfl rfl inf46 sz46 rfl ?_
    refine vo_stM ?_
    refine vo_nil ?_
    refine hK7 _ ?_
    refine vc_seq fun K8 hK8 => ?_
    refine vc_region ?_
    refine vo_fieldAddr_ptr rfl rfl Try.underlying46 rfl inf3 (by rw [sz3]; decide) ?_
    try simp only [Nat.zero_add]
    refine vo_load_var rfl rfl rfl Try.underlying3 rfl rfl ?_
    refine vo_call0 Try.func69 rfl rfl rfl rfl inRange_sat ?_
    rintro _ _ ⟨rfl, rfl⟩
    refine ⟨rfl, rfl, .inl rfl, ?_⟩
    refine vo_stM ?_
    refine vo_not rfl rfl ?_
    refine vo_move_pv rfl rfl ?_
    refine vo_split 19 rfl (fun hg2 => ?_) (fun hg2 => ?_)
    · try simp only [decide_eq_true_eq, decide_eq_false_iff_not, beq_iff_eq, bne_iff_ne, beq_eq_false_iff_ne, bne_eq_false_iff_eq, Bool.not_eq_true, Bool.not_eq_false, Bool.not_eq_eq_eq_not, Bool.not_true, Bool.not_false, List.length_map, Int.not_lt, Int.not_le, ne_eq, Decidable.not_not] at hg2
      refine vo_guard_off rfl rfl rfl rfl rfl ?_
      refine vo_guard_off rfl rfl rfl rfl rfl ?_
      refine vo_guard_off rfl rfl rfl rfl rfl ?_
      refine vo_guard_off rfl rfl rfl rfl rfl ?_
      refine vo_pick_t rfl rfl ?_
      refine vo_move_pv rfl rfl ?_
      refine vo_guard_off rfl rfl rfl rfl rfl ?_
      refine vo_guard_off rfl rfl rfl rfl rfl ?_
      refine vo_guard_off rfl rfl rfl rfl rfl ?_
      refine vo_guard_off rfl rfl rfl rfl rfl ?_
      refine vo_pick_t rfl rfl ?_
      refine vo_nil ?_
      refine hK8 _ ?_
      refine vc_cond_t rfl ?_
      refine vc_seq fun K9 hK9 => ?_
      refine vc_region ?_
      refine vo_assign_pv rfl rfl ?_
      refine vo_nil ?_
      refine hK9 _ ?_
      refine vc_ret ?_
      change retQ _ _ _ _ _
      refine retQ_sel [] (srows := []) (.inr rfl) hC rfl rfl rfl rfl rfl rfl rfl ?_
      refine ⟨?_, rfl⟩
      refine (congrArg (fun b => [bo b]) (?_ : _ = _) : [bo _] = [bo _])
      refine bF fun h => ?_
      have h1 := h.2 _ (getD_mem (show k < list.length by omega) ⟨0, 0, 0, false⟩)
      unfold okOp at h1; omega
    · try simp only [decide_eq_true_eq, decide_eq_false_iff_not, beq_iff_eq, bne_iff_ne, beq_eq_false_iff_ne, bne_eq_false_iff_eq, Bool.not_eq_true, Bool.not_eq_false, Bool.not_eq_eq_eq_not, Bool.not_true, Bool.not_false, List.length_map, Int.not_lt, Int.not_le, ne_eq, Decidable.not_not] at hg2
      refine vo_guard_on rfl rfl rfl ?_
      refine vo_fieldAddr_ptr rfl rfl Try.underlying46 rfl inf3 (by rw [sz3]; decide) ?_
      try simp only [Nat.zero_add]
      refine vo_guard_on rfl rfl rfl ?_
      refine vo_load_var rfl rfl rfl Try.underlying3 rfl rfl ?_
      refine vo_guard_on rfl rfl rfl ?_
      refine vo_call0 Try.func69 rfl rfl rfl rfl inRange_sat ?_
      rintro _ _ ⟨rfl, rfl⟩
      refine ⟨rfl, rfl, .inl rfl, ?_⟩
      refine vo_stM ?_
      refine vo_guard_on rfl rfl rfl ?_
      refine vo_not rfl rfl ?_
      refine vo_pick_f rfl rfl ?_
      refine vo_move_pv rfl rfl ?_
      refine vo_split 25 rfl (fun hg3 => ?_) (fun hg3 => ?_)
      · try simp only [decide_eq_true_eq, decide_eq_false_iff_not, beq_iff_eq, bne_iff_ne, beq_eq_false_iff_ne, bne_eq_false_iff_eq, Bool.not_eq_true, Bool.not_eq_false, Bool.not_eq_eq_eq_not, Bool.not_true, Bool.not_false, List.length_map, Int.not_lt, Int.not_le, ne_eq, Decidable.not_not] at hg3
        refine vo_guard_off rfl rfl rfl rfl rfl ?_
        refine vo_guard_off rfl rfl rfl rfl rfl ?_
        refine vo_guard_off rfl rfl rfl rfl rfl ?_
        refine vo_guard_off rfl rfl rfl rfl rfl ?_
        refine vo_pick_t rfl rfl ?_
        refine vo_nil ?_
        refine hK8 _ ?_
        refine vc_cond_t rfl ?_
        refine vc_seq fun K10 hK10 => ?_
        refine vc_region ?_
        refine vo_assign_pv rfl rfl ?_
        refine vo_nil ?_
        refine hK10 _ ?_
        refine vc_ret ?_
        change retQ _ _ _ _ _
        refine retQ_sel [] (srows := []) (.inr rfl) hC rfl rfl rfl rfl rfl rfl rfl ?_
        refine ⟨?_, rfl⟩
        refine (congrArg (fun b => [bo b]) (?_ : _ = _) : [bo _] = [bo _])
        refine bF fun h => ?_
        have h1 := h.2 _ (getD_mem (show k < list.length by omega) ⟨0, 0, 0, false⟩)
        unfold okOp at h1; omega
      · try simp only [decide_eq_true_eq, decide_eq_false_iff_not, beq_iff_eq, bne_iff_ne, beq_eq_false_iff_ne, bne_eq_false_iff_eq, Bool.not_eq_true, Bool.not_eq_false, Bool.not_eq_eq_eq_not, Bool.not_true, Bool.not_false, List.length_map, Int.not_lt, Int.not_le, ne_eq, Decidable.not_not] at hg3
        refine vo_guard_on rfl rfl rfl ?_
        refine vo_fieldAddr_ptr rfl rfl Try.underlying46 rfl inf3 (by rw [sz3]; decide) ?_
        try simp only [Nat.zero_add]
        refine vo_guard_on rfl rfl rfl ?_
        refine vo_load_var rfl rfl rfl Try.underlying3 rfl rfl ?_
        refine vo_guard_on rfl rfl rfl ?_
        refine vo_call0 Try.func69 rfl rfl rfl rfl inRange_sat ?_
        rintro _ _ ⟨rfl, rfl⟩
        refine ⟨rfl, rfl, .inl rfl, ?_⟩
        refine vo_stM ?_
        refine vo_guard_on rfl rfl rfl ?_
        refine vo_not rfl rfl ?_
        refine vo_pick_f rfl rfl ?_
        refine vo_nil ?_
        refine hK8 _ ?_
        refine vc_cond rfl (fun hc4 => ?_) (fun hc4 => ?_)
        · try simp only [decide_eq_true_eq, decide_eq_false_iff_not, beq_iff_eq, bne_iff_ne, beq_eq_false_iff_ne, bne_eq_false_iff_eq, Bool.not_eq_true, Bool.not_eq_false, Bool.not_eq_eq_eq_not, Bool.not_true, Bool.not_false, List.length_map, Int.not_lt, Int.not_le, ne_eq, Decidable.not_not] at hc4
          refine vc_seq fun K11 hK11 => ?_
          refine vc_region ?_
          refine vo_assign_pv rfl rfl ?_
          refine vo_nil ?_
          refine hK11 _ ?_
          refine vc_ret ?_
          change retQ _ _ _ _ _
          refine retQ_sel [] (srows := []) (.inr rfl) hC rfl rfl rfl rfl rfl rfl rfl ?_
          refine ⟨?_, rfl⟩
          refine (congrArg (fun b => [bo b]) (?_ : _ = _) : [bo _] = [bo _])
          refine bF fun h => ?_
          have h1 := h.2 _ (getD_mem (show k < list.length by omega) ⟨0, 0, 0, false⟩)
          unfold okOp at h1; omega
        · try simp only [decide_eq_true_eq, decide_eq_false_iff_not, beq_iff_eq, bne_iff_ne, beq_eq_false_iff_ne, bne_eq_false_iff_eq, Bool.not_eq_true, Bool.not_eq_false, Bool.not_eq_eq_eq_not, Bool.not_true, Bool.not_false, List.length_map, Int.not_lt, Int.not_le, ne_eq, Decidable.not_not] at hc4
          refine vc_skip ?_
          refine hK6 _ ?_
          refine vc_region ?_
          refine vo_move_pv rfl rfl ?_
          refine vo_binI rfl rfl rfl rfl sd ?_
          refine vo_assign_pv rfl rfl ?_
          refine vo_nil ?_
          change againE _ _ _ _ _ _ _ _ _ _
          refine againE_mk rfl rfl rfl rfl rfl rfl ⟨_, ?_, k + 1, rfl, ?_, ?_, rfl, rfl⟩
          · omega
          · omega
          · refine (all_take_succ (by omega) ⟨0, 0, 0, false⟩).2 ⟨hf, ?_⟩
            unfold okOp; omega
  · try simp only [decide_eq_true_eq, decide_eq_false_iff_not, beq_iff_eq, bne_iff_ne, beq_eq_false_iff_ne, bne_eq_false_iff_eq, Bool.not_eq_true, Bool.not_eq_false, Bool.not_eq_eq_eq_not, Bool.not_true, Bool.not_false, List.length_map, Int.not_lt, Int.not_le, ne_eq, Decidable.not_not] at hc1
    refine vc_exit ?_
    refine hK2 _ ?_
    refine vc_seq fun K12 hK12 => ?_
    refine vc_region ?_
    refine vo_move_pv rfl rfl ?_
    refine vo_len_pv rfl rfl Try.underlying23 ?_
    refine vo_binI rfl rfl rfl rfl trivial ?_
    refine vo_assign_pv rfl rfl ?_
    refine vo_nil ?_
    refine hK12 _ ?_
    refine vc_ret ?_
    change retQ _ _ _ _ _
    refine retQ_sel [] (srows := []) (.inr rfl) hC rfl rfl rfl rfl rfl rfl rfl ?_
    refine ⟨?_, rfl⟩
    refine (congrArg (fun b => [bo b]) (?_ : _ = _) : [bo _] = [bo _])
    rw [take_all (by omega)] at hf
    exact decide_eq_decide.2 ⟨fun h => ⟨by simp at h; omega, hf⟩, fun h => by have := h.1; simp; omega⟩


theorem specValidOps_sat {nl0 : Option Bool} {list : List OpM} (hlist : list.length < 1000000000)  : SatAt Try.prog 17 [.pv false (.sl nl0 4 (list.map opP))] [] (fun res rows => res = [bo (decide (VOps list))] ∧ rows = []) := by
  refine sat_entry_G (rs := [(2, none)]) Try.func17 rfl rfl (Nat.le_of_ble_eq_true rfl) (Nat.le_of_ble_eq_true rfl) (resTs1 trivial) fun C hC => ?_
  rw [Try.ntmps17]
  replace hC : C.nb = 0 := hC
  refine vc_seq fun K1 hK1 => ?_
  refine vc_region ?_
  refine vo_assign_pv rfl rfl ?_
  refine vo_nil ?_
  refine hK1 _ ?_
  refine vc_seq fun K2 hK2 => ?_
  refine vc_region ?_
  refine vo_move_pv rfl rfl ?_
  refine vo_call0 Try.func55 rfl rfl rfl rfl (specValidOps0_sat hlist) ?_
  rintro _ _ ⟨rfl, rfl⟩
  refine ⟨rfl, rfl, .inl rfl, ?_⟩
  refine vo_stM ?_
  refine vo_assign_pv rfl rfl ?_
  refine vo_nil ?_
  refine hK2 _ ?_
  refine vc_ret ?_
  change retQ _ _ _ _ _
  refine retQ_sel [] (srows := []) (.inr rfl) hC rfl rfl rfl rfl rfl rfl rfl ?_
  refine ⟨?_, rfl⟩
  refine (congrArg (fun b => [bo b]) (?_ : _ = _) : [bo _] = [bo _])
  rfl


theorem szOpS_sat {nl0 : Option Bool} {a : List OpM} {left : Int} (ha : a.length < 1000000000) (hl : -1000000 ≤ left ∧ left ≤ 2000000) : SatAt Try.prog 18 [.pv false (.sl nl0 4 (a.map opP)), i64 left] [] (fun res rows => res = [i64 (if left - (a.length : Int) < 0 then -1 else left - (a.length : Int))] ∧ rows = []) := by
  refine sat_entry_G (rs := [(4, none)]) Try.func18 rfl rfl (Nat.le_of_ble_eq_true rfl) (Nat.le_of_ble_eq_true rfl) (resTs1 trivial) fun C hC => ?_
  rw [Try.ntmps18]
  replace hC : C.nb = 0 := hC
  refine vc_seq fun K1 hK1 => ?_
  refine vc_region ?_
  refine vo_assign_pv rfl rfl ?_
  refine vo_nil ?_
  refine hK1 _ ?_
  refine vc_seq fun K2 hK2 => ?_
  refine vc_region ?_
  refine vo_move_pv rfl rfl ?_
  refine vo_move_pv rfl rfl ?_
  refine vo_len_pv rfl rfl Try.underlying27 ?_
  refine vo_binI rfl rfl rfl rfl sd ?_
  refine vo_assign_pv rfl rfl ?_
  refine vo_nil ?_
  refine hK2 _ ?_
  refine vc_seq fun K3 hK3 => ?_
  refine vc_seq fun K4 hK4 => ?_
  refine vc_region ?_
  refine vo_move_pv rfl rfl ?_
  refine vo_binI rfl rfl rfl rfl trivial ?_
  refine vo_nil ?_
  refine hK4 _ ?_
  refine vc_cond rfl (fun hc1 => ?_) (fun hc1 => ?_)
  · try simp only [decide_eq_true_eq, decide_eq_false_iff_not, beq_iff_eq, bne_iff_ne, beq_eq_false_iff_ne, bne_eq_false_iff_eq, Bool.not_eq_true, Bool.not_eq_false, Bool.not_eq_eq_eq_not, Bool.not_true, Bool.not_false, List.length_map, Int.not_lt, Int.not_le, ne_eq, Decidable.not_not] at hc1
    refine vc_seq fun K5 hK5 => ?_
    refine vc_region ?_
    refine vo_assign_pv rfl rfl ?_
    refine vo_nil ?_
    refine hK5 _ ?_
    refine vc_ret ?_
    change retQ _ _ _ _ _
    refine retQ_sel [] (srows := []) (.inr rfl) hC rfl rfl rfl rfl rfl rfl rfl ?_
    refine ⟨?_, rfl⟩
    refine (congrArg (fun b => [i64 b]) (?_ : _ = _) : [i64 _] = [i64 _])
    rw [if_pos (by omega)]
  · try simp only [decide_eq_true_eq, decide_eq_false_iff_not, beq_iff_eq, bne_iff_ne, beq_eq_false_iff_ne, bne_eq_false_iff_eq, Bool.not_eq_true, Bool.not_eq_false, Bool.not_eq_eq_eq_not, Bool.not_true, Bool.not_false, List.length_map, Int.not_lt, Int.not_le, ne_eq, Decidable.not_not] at hc1
    refine vc_skip ?_
    refine hK3 _ ?_
    refine vc_seq fun K6 hK6 => ?_
    refine vc_region ?_
    refine vo_move_pv rfl rfl ?_
    refine vo_assign_pv rfl rfl ?_
    refine vo_nil ?_
    refine hK6 _ ?_
    refine vc_ret ?_
    change retQ _ _ _ _ _
    refine retQ_sel [] (srows := []) (.inr rfl) hC rfl rfl rfl rfl rfl rfl rfl ?_
    refine ⟨?_, rfl⟩
    refine (congrArg (fun b => [i64 b]) (?_ : _ = _) : [i64 _] = [i64 _])
    simp only [List.length_map]; rw [if_neg (by omega)]


theorem toOp_sat {a : OpM}   : SatAt Try.prog 49 [.pv false (opP a)] [] (fun res rows => res = [.pv true (opP a)] ∧ rows = []) := by
  refine sat_entry_G (rs := [(2, some (46, 4))]) Try.func49 rfl rfl (Nat.le_of_ble_eq_true rfl) (Nat.le_of_ble_eq_true rfl) (resTs1 ⟨_, _, Try.underlying46, rfl, inf46, sz46⟩) fun C hC => ?_
  rw [Try.ntmps49]
  replace hC : C.nb = 0 := hC
  refine vc_seq fun K1 hK1 => ?_
  refine vc_region ?_
  refine vo_box rfl rfl ?_
  refine vo_stM ?_
  refine vo_alloc Z46 rfl ?_
  refine vo_stM ?_
  refine vo_nil ?_
  refine hK1 _ ?_
  refine vc_seq fun K2 hK2 => ?_
  refine vc_region ?_
  refine vo_alloc Z46 rfl ?_
  refine vo_stM ?_
  refine vo_nil ?_
  refine hK2 _ ?_
  refine vc_seq fun K3 hK3 => ?_
  refine vc_region ?_
  refine vo_fieldAddr_ptr rfl rfl Try.underlying72 rfl inf3 (by rw [sz3]; decide) ?_
  try simp only [Nat.zero_add]
  refine vo_load_var rfl rfl rfl Try.underlying3 rfl rfl ?_
  refine vo_fieldAddr_ptr rfl rfl Try.underlying46 rfl inf3 (by rw [sz3]; decide) ?_
  try simp only [Nat.zero_add]
  refine vo_store_var rfl rfl rfl rfl inf3 sz3 rfl ?_
  refine vo_stM ?_
  refine vo_nil ?_
  refine hK3 _ ?_
  refine vc_seq fun K4 hK4 => ?_
  refine vc_region ?_
  refine vo_fieldAddr_ptr rfl rfl Try.underlying72 rfl inf3 (by rw [sz3]; decide) ?_
  try simp only [Nat.zero_add]
  refine vo_load_var rfl rfl rfl Try.underlying3 rfl rfl ?_
  refine vo_fieldAddr_ptr rfl rfl Try.underlying46 rfl inf3 (by rw [sz3]; decide) ?_
  try simp only [Nat.zero_add]
  refine vo_store_var rfl rfl rfl rfl inf3 sz3 rfl ?_
  refine vo_stM ?_
  refine vo_nil ?_
  refine hK4 _ ?_
  refine vc_seq fun K5 hK5 => ?_
  refine vc_region ?_
  refine vo_fieldAddr_ptr rfl rfl Try.underlying72 rfl inf3 (by rw [sz3]; decide) ?_
  try simp only [Nat.zero_add]
  refine vo_load_var rfl rfl rfl Try.underlying3 rfl rfl ?_
  refine vo_fieldAddr_ptr rfl rfl Try.underlying46 rfl inf3 (by rw [sz3]; decide) ?_
  try simp only [Nat.zero_add]
  refine vo_store_var rfl rfl rfl rfl inf3 sz3 rfl ?_
  refine vo_stM ?_
  refine vo_nil ?_
  refine hK5 _ ?_
  refine vc_seq fun K6 hK6 => ?_
  refine vc_region ?_
  refine vo_fieldAddr_ptr rfl rfl Try.underlying72 rfl inf4 (by rw [sz4]; decide) ?_
  try simp only [Nat.zero_add]
  refine vo_load_var rfl rfl rfl Try.underlying4 rfl rfl ?_
  refine vo_fieldAddr_ptr rfl rfl Try.underlying46 rfl inf4 (by rw [sz4]; decide) ?_
  try simp only [Nat.zero_add]
  refine vo_store_var rfl rfl rfl rfl inf4 sz4 rfl ?_
  refine vo_stM ?_
  refine vo_nil ?_
  refine hK6 _ ?_
  refine vc_seq fun K7 hK7 => ?_
  refine vc_region ?_
  refine vo_load_varS rfl rfl rfl Try.underlying46 rfl inf46 sz46 rfl rfl ?_
  refine vo_store_varS rfl rfl rfl inf46 sz46 rfl ?_
  refine vo_stM ?_
  refine vo_nil ?_
  refine hK7 _ ?_
  refine vc_ret ?_
  change retQ _ _ _ _ _
  refine retQ_sel [] (srows := []) (.inr rfl) hC rfl rfl rfl rfl rfl rfl rfl ?_
  exact ⟨rfl, rfl⟩


theorem toOpS_sat {nl0 : Option Bool} {a : List OpM} (ha : a.length < 1000000000)  : SatAt Try.prog 19 [.pv false (.sl nl0 4 (a.map opP))] [] (fun res rows => res = [.pv true (.sl (some false) 4 (a.map opP))] ∧ rows = []) := by
  have hcl := fun k h => cpy_len (⟨0, 0, 0, false⟩ : OpM) a k h
  refine sat_entry_G (rs := [(2, none)]) Try.func19 rfl rfl (Nat.le_of_ble_eq_true rfl) (Nat.le_of_ble_eq_true rfl) (resTs1 trivial) fun C hC => ?_
  rw [Try.ntmps19]
  replace hC : C.nb = 0 := hC
  refine vc_seq fun K1 hK1 => ?_
  refine vc_region ?_
  refine vo_assign_pv rfl rfl ?_
  refine vo_nil ?_
  refine hK1 _ ?_
  refine vc_seq fun K2 hK2 => ?_
  refine vc_region ?_
  refine vo_move_pv rfl rfl ?_
  refine vo_len_pv rfl rfl Try.underlying27 ?_
  refine vo_make E23 rfl rfl rfl sd sd sd ?_
  refine vo_assign_ref rfl rfl ?_
  refine vo_nil ?_
  refine hK2 _ ?_
  refine vc_seq fun K3 hK3 => ?_
  refine vc_seq fun K4 hK4 => ?_
  refine vc_region ?_
  refine vo_assign_pv rfl rfl ?_
  refine vo_nil ?_
  refine hK4 _ ?_
  refine vc_block ?_
  refine vc_stM ?_
  refine vc_loopE [0] [3, 4] [0] _ _ (fun mz vs rs => ∃ (k : Nat), mz = a.length - k ∧ (k ≤ a.length) ∧ vs = [.ref 0, i64 k] ∧ rs = [Row.own 46 4 (some false) true ((cpy ⟨0, 0, 0, false⟩ a k).map opP)]) (a.length) rfl rfl (le_len hC rfl) ⟨rfl, rfl, rfl⟩ rfl ⟨0, rfl, Nat.zero_le _, rfl, (by simp only [rep_ops, cpy_0, List.length_map]; rfl)⟩ ?_
  rintro mz vs rs - - ⟨k, rfl, hk, rfl, rfl⟩
  refine vc_stM ?_
  have hcl9 := hcl k hk
  refine vc_seq fun K5 hK5 => ?_
  refine vc_seq fun K6 hK6 => ?_
  refine vc_region ?_
  refine vo_move_pv rfl rfl ?_
  refine vo_move_pv rfl rfl ?_
  refine vo_len_pv rfl rfl Try.underlying27 ?_
  refine vo_binI rfl rfl rfl rfl trivial ?_
  refine vo_nil ?_
  refine hK6 _ ?_
  refine vc_cond rfl (fun hc1 => ?_) (fun hc1 => ?_)
  · try simp only [decide_eq_true_eq, decide_eq_false_iff_not, beq_iff_eq, bne_iff_ne, beq_eq_false_iff_ne, bne_eq_false_iff_eq, Bool.not_eq_true, Bool.not_eq_false, Bool.not_eq_eq_eq_not, Bool.not_true, Bool.not_false, List.length_map, Int.not_lt, Int.not_le, ne_eq, Decidable.not_not] at hc1
    refine vc_skip ?_
    refine hK5 _ ?_
    refine vc_seq fun K7 hK7 => ?_
    refine vc_block ?_
    refine vc_region ?_
    refine vo_move_ref rfl rfl ?_
    refine vo_move_pv rfl rfl ?_
    refine vo_move_pv rfl rfl ?_
    refine vo_move_pv rfl rfl ?_
    refine vo_index_pv (.agg [(.int .i64 0), (.int .i64 0), (.int .i64 0), (.bool false)]) rfl rfl rfl E27.und inf72 sz72 sd sd ?_
    simp only [Int.toNat_natCast, Int.toNat_zero, getD_ints, getD_intss, getD_bools, getD_bytes, PV.cells, getD_ops, getD_pairs, getD_insts]
    refine vo_load_adrS rfl rfl Try.underlying72 rfl inf72 sz72 rfl ?_
    refine vo_st (by (try simp only [St.put, PV.cells, PV.scal, List.drop_succ_cons, List.drop_zero, List.take_succ_cons, List.take_zero, List.map_cons, List.map_nil, Bool.or_true, Bool.or_false, Bool.false_or, Bool.true_or, opP, pairP, instP, heapP]); exact eq_refl _) ?_
    refine vo_call0 Try.func49 rfl rfl rfl rfl toOp_sat ?_
    rintro _ _ ⟨rfl, rfl⟩
    refine ⟨rfl, rfl, .inl rfl, ?_⟩
    refine vo_stM ?_
    refine vo_index_ref rfl rfl rfl rfl E23.und inf46 sz46 sd sd ?_
    try simp only [Int.toNat_natCast]
    refine vo_store_own rfl rfl rfl inf46 sz46 (by decide) rfl sd ?_
    try simp only [set_ints, set_intss, set_bools, rep_bools, rep_ints, Int.toNat_natCast, Int.toNat_zero, set_op1, rep_ops]
    refine vo_stM ?_
    refine vo_nil ?_
    refine hK7 _ ?_
    refine vc_region ?_
    refine vo_move_pv rfl rfl ?_
    refine vo_binI rfl rfl rfl rfl sd ?_
    refine vo_assign_pv rfl rfl ?_
    refine vo_nil ?_
    change againE _ _ _ _ _ _ _ _ _ _
    refine againE_mk rfl rfl rfl rfl rfl rfl ⟨_, ?_, k + 1, rfl, ?_, rfl, (by rw [← cpy_set _ _ _ (by omega)]; rfl)⟩
    · omega
    · omega
  · try simp only [decide_eq_true_eq, decide_eq_false_iff_not, beq_iff_eq, bne_iff_ne, beq_eq_false_iff_ne, bne_eq_false_iff_eq, Bool.not_eq_true, Bool.not_eq_false, Bool.not_eq_eq_eq_not, Bool.not_true, Bool.not_false, List.length_map, Int.not_lt, Int.not_le, ne_eq, Decidable.not_not] at hc1
    refine vc_exit ?_
    refine hK3 _ ?_
    refine vc_seq fun K8 hK8 => ?_
    refine vc_region ?_
    refine vo_move_ref rfl rfl ?_
    refine vo_assign_ref rfl rfl ?_
    refine vo_nil ?_
    refine hK8 _ ?_
    refine vc_expose 0 (by omega) rfl ?_
    refine vc_stM ?_
    refine vc_ret ?_
    change retQ _ _ _ _ _
    refine retQ_sel [] (srows := []) (.inr rfl) hC rfl rfl rfl rfl rfl rfl rfl ?_
    have : k = a.length := by omega
    subst this
    rw [cpy_end]
    exact ⟨rfl, rfl⟩


theorem eqOp_sat {a : OpM} {b : OpM}   : SatAt Try.prog 56 [.pv false (opP a), .pv false (opP b)] [] (fun res rows => res = [bo (decide (a = b))] ∧ rows = []) := by
  refine sat_entry_G (rs := [(4, none)]) Try.func56 rfl rfl (Nat.le_of_ble_eq_true rfl) (Nat.le_of_ble_eq_true rfl) (resTs1 trivial) fun C hC => ?_
  rw [Try.ntmps56]
  replace hC : C.nb = 0 := hC
  refine vc_seq fun K1 hK1 => ?_
  refine vc_region ?_
  refine vo_box rfl rfl ?_
  refine vo_stM ?_
  refine vo_box rfl rfl ?_
  refine vo_stM ?_
  refine vo_assign_pv rfl rfl ?_
  refine vo_nil ?_
  refine hK1 _ ?_
  refine vc_seq fun K2 hK2 => ?_
  refine vc_seq fun K3 hK3 => ?_
  refine vc_region ?_
  refine vo_fieldAddr_ptr rfl rfl Try.underlying46 rfl inf3 (by rw [sz3]; decide) ?_
  try simp only [Nat.zero_add]
  refine vo_load_var rfl rfl rfl Try.underlying3 rfl rfl ?_
  refine vo_fieldAddr_ptr rfl rfl Try.underlying46 rfl inf3 (by rw [sz3]; decide) ?_
  try simp only [Nat.zero_add]
  refine vo_load_var rfl rfl rfl Try.underlying3 rfl rfl ?_
  refine vo_binI rfl rfl rfl rfl trivial ?_
  refine vo_nil ?_
  refine hK3 _ ?_
  refine vc_cond rfl (fun hc1 => ?_) (fun hc1 => ?_)
  · try simp only [decide_eq_true_eq, decide_eq_false_iff_not, beq_iff_eq, bne_iff_ne, beq_eq_false_iff_ne, bne_eq_false_iff_eq, Bool.not_eq_true, Bool.not_eq_false, Bool.not_eq_eq_eq_not, Bool.not_true, Bool.not_false, List.length_map, Int.not_lt, Int.not_le, ne_eq, Decidable.not_not] at hc1
    refine vc_seq fun K4 hK4 => ?_
    refine vc_region ?_
    refine vo_assign_pv rfl rfl ?_
    refine vo_nil ?_
    refine hK4 _ ?_
    refine vc_ret ?_
    change retQ _ _ _ _ _
    refine retQ_sel [] (srows := []) (.inr rfl) hC rfl rfl rfl rfl rfl rfl rfl ?_
    refine ⟨?_, rfl⟩
    refine (congrArg (fun b => [bo b]) (?_ : _ = _) : [bo _] = [bo _])
    cases a; cases b; simp_all
  · try simp only [decide_eq_true_eq, decide_eq_false_iff_not, beq_iff_eq, bne_iff_ne, beq_eq_false_iff_ne, bne_eq_false_iff_eq, Bool.not_eq_true, Bool.not_eq_false, Bool.not_eq_eq_eq_not, Bool.not_true, Bool.not_false, List.length_map, Int.not_lt, Int.not_le, ne_eq, Decidable.not_not] at hc1
    refine vc_skip ?_
    refine hK2 _ ?_
    refine vc_seq fun K5 hK5 => ?_
    refine vc_seq fun K6 hK6 => ?_
    refine vc_region ?_
    refine vo_fieldAddr_ptr rfl rfl Try.underlying46 rfl inf3 (by rw [sz3]; decide) ?_
    try simp only [Nat.zero_add]
    refine vo_load_var rfl rfl rfl Try.underlying3 rfl rfl ?_
    refine vo_fieldAddr_ptr rfl rfl Try.underlying46 rfl inf3 (by rw [sz3]; decide) ?_
    try simp only [Nat.zero_add]
    refine vo_load_var rfl rfl rfl Try.underlying3 rfl rfl ?_
    refine vo_binI rfl rfl rfl rfl trivial ?_
    refine vo_nil ?_
    refine hK6 _ ?_
    refine vc_cond rfl (fun hc2 => ?_) (fun hc2 => ?_)
    · try simp only [decide_eq_true_eq, decide_eq_false_iff_not, beq_iff_eq, bne_iff_ne, beq_eq_false_iff_ne, bne_eq_false_iff_eq, Bool.not_eq_true, Bool.not_eq_false, Bool.not_eq_eq_eq_not, Bool.not_true, Bool.not_false, List.length_map, Int.not_lt, Int.not_le, ne_eq, Decidable.not_not] at hc2
      refine vc_seq fun K7 hK7 => ?_
      refine vc_region ?_
      refine vo_assign_pv rfl rfl ?_
      refine vo_nil ?_
      refine hK7 _ ?_
      refine vc_ret ?_
      change retQ _ _ _ _ _
      refine retQ_sel [] (srows := []) (.inr rfl) hC rfl rfl rfl rfl rfl rfl rfl ?_
      refine ⟨?_, rfl⟩
      refine (congrArg (fun b => [bo b]) (?_ : _ = _) : [bo _] = [bo _])
      cases a; cases b; simp_all
    · try simp only [decide_eq_true_eq, decide_eq_false_iff_not, beq_iff_eq, bne_iff_ne, beq_eq_false_iff_ne, bne_eq_false_iff_eq, Bool.not_eq_true, Bool.not_eq_false, Bool.not_eq_eq_eq_not, Bool.not_true, Bool.not_false, List.length_map, Int.not_lt, Int.not_le, ne_eq, Decidable.not_not] at hc2
      refine vc_skip ?_
      refine hK5 _ ?_
      refine vc_seq fun K8 hK8 => ?_
      refine vc_seq fun K9 hK9 => ?_
      refine vc_region ?_
      refine vo_fieldAddr_ptr rfl rfl Try.underlying46 rfl inf3 (by rw [sz3]; decide) ?_
      try simp only [Nat.zero_add]
      refine vo_load_var rfl rfl rfl Try.underlying3 rfl rfl ?_
      refine vo_fieldAddr_ptr rfl rfl Try.underlying46 rfl inf3 (by rw [sz3]; decide) ?_
      try simp only [Nat.zero_add]
      refine vo_load_var rfl rfl rfl Try.underlying3 rfl rfl ?_
      refine vo_binI rfl rfl rfl rfl trivial ?_
      refine vo_nil ?_
      refine hK9 _ ?_
      refine vc_cond rfl (fun hc3 => ?_) (fun hc3 => ?_)
      · try simp only [decide_eq_true_eq, decide_eq_false_iff_not, beq_iff_eq, bne_iff_ne, beq_eq_false_iff_ne, bne_eq_false_iff_eq, Bool.not_eq_true, Bool.not_eq_false, Bool.not_eq_eq_eq_not, Bool.not_true, Bool.not_false, List.length_map, Int.not_lt, Int.not_le, ne_eq, Decidable.not_not] at hc3
        refine vc_seq fun K10 hK10 => ?_
        refine vc_region ?_
        refine vo_assign_pv rfl rfl ?_
        refine vo_nil ?_
        refine hK10 _ ?_
        refine vc_ret ?_
        change retQ _ _ _ _ _
        refine retQ_sel [] (srows := []) (.inr rfl) hC rfl rfl rfl rfl rfl rfl rfl ?_
        refine ⟨?_, rfl⟩
        refine (congrArg (fun b => [bo b]) (?_ : _ = _) : [bo _] = [bo _])
        cases a; cases b; simp_all
      · try simp only [decide_eq_true_eq, decide_eq_false_iff_not, beq_iff_eq, bne_iff_ne, beq_eq_false_iff_ne, bne_eq_false_iff_eq, Bool.not_eq_true, Bool.not_eq_false, Bool.not_eq_eq_eq_not, Bool.not_true, Bool.not_false, List.length_map, Int.not_lt, Int.not_le, ne_eq, Decidable.not_not] at hc3
        refine vc_skip ?_
        refine hK8 _ ?_
        refine vc_seq fun K11 hK11 => ?_
        refine vc_seq fun K12 hK12 => ?_
        refine vc_region ?_
        refine vo_fieldAddr_ptr rfl rfl Try.underlying46 rfl inf4 (by rw [sz4]; decide) ?_
        try simp only [Nat.zero_add]
        refine vo_load_var rfl rfl rfl Try.underlying4 rfl rfl ?_
        refine vo_fieldAddr_ptr rfl rfl Try.underlying46 rfl inf4 (by rw [sz4]; decide) ?_
        try simp only [Nat.zero_add]
        refine vo_load_var rfl rfl rfl Try.underlying4 rfl rfl ?_
        refine vo_binB rfl rfl rfl rfl Try.underlying4 ?_
        refine vo_nil ?_
        refine hK12 _ ?_
        refine vc_cond rfl (fun hc4 => ?_) (fun hc4 => ?_)
        · try simp only [decide_eq_true_eq, decide_eq_false_iff_not, beq_iff_eq, bne_iff_ne, beq_eq_false_iff_ne, bne_eq_false_iff_eq, Bool.not_eq_true, Bool.not_eq_false, Bool.not_eq_eq_eq_not, Bool.not_true, Bool.not_false, List.length_map, Int.not_lt, Int.not_le, ne_eq, Decidable.not_not] at hc4
          refine vc_seq fun K13 hK13 => ?_
          refine vc_region ?_
          refine vo_assign_pv rfl rfl ?_
          refine vo_nil ?_
          refine hK13 _ ?_
          refine vc_ret ?_
          change retQ _ _ _ _ _
          refine retQ_sel [] (srows := []) (.inr rfl) hC rfl rfl rfl rfl rfl rfl rfl ?_
          refine ⟨?_, rfl⟩
          refine (congrArg (fun b => [bo b]) (?_ : _ = _) : [bo _] = [bo _])
          cases a; cases b; simp_all
        · try simp only [decide_eq_true_eq, decide_eq_false_iff_not, beq_iff_eq, bne_iff_ne, beq_eq_false_iff_ne, bne_eq_false_iff_eq, Bool.not_eq_true, Bool.not_eq_false, Bool.not_eq_eq_eq_not, Bool.not_true, Bool.not_false, List.length_map, Int.not_lt, Int.not_le, ne_eq, Decidable.not_not] at hc4
          refine vc_skip ?_
          refine hK11 _ ?_
          refine vc_seq fun K14 hK14 => ?_
          refine vc_region ?_
          refine vo_assign_pv rfl rfl ?_
          refine vo_nil ?_
          refine hK14 _ ?_
          refine vc_ret ?_
          change retQ _ _ _ _ _
          refine retQ_sel [] (srows := []) (.inr rfl) hC rfl rfl rfl rfl rfl rfl rfl ?_
          refine ⟨?_, rfl⟩
          refine (congrArg (fun b => [bo b]) (?_ : _ = _) : [bo _] = [bo _])
          cases a; cases b; simp_all


theorem eqOpS_sat {nl0 : Option Bool} {a : List OpM} {nl1 : Option Bool} {b : List OpM} (ha : a.length < 1000000000) (hb : b.length < 1000000000)  : SatAt Try.prog 20 [.pv false (.sl nl0 4 (a.map opP)), .pv false (.sl nl1 4 (b.map opP))] [] (fun res rows => res = [bo (decide (a = b))] ∧ rows = []) := by
  refine sat_entry_G (rs := [(4, none)]) Try.func20 rfl rfl (Nat.le_of_ble_eq_true rfl) (Nat.le_of_ble_eq_true rfl) (resTs1 trivial) fun C hC => ?_
  rw [Try.ntmps20]
  replace hC : C.nb = 0 := hC
  refine vc_seq fun K1 hK1 => ?_
  refine vc_region ?_
  refine vo_assign_pv rfl rfl ?_
  refine vo_nil ?_
  refine hK1 _ ?_
  refine vc_seq fun K2 hK2 => ?_
  refine vc_seq fun K3 hK3 => ?_
  refine vc_region ?_
  refine vo_move_pv rfl rfl ?_
  refine vo_len_pv rfl rfl Try.underlying23 ?_
  refine vo_move_pv rfl rfl ?_
  refine vo_len_pv rfl rfl Try.underlying23 ?_
  refine vo_binI rfl rfl rfl rfl trivial ?_
  refine vo_nil ?_
  refine hK3 _ ?_
  refine vc_cond rfl (fun hc1 => ?_) (fun hc1 => ?_)
  · try simp only [decide_eq_true_eq, decide_eq_false_iff_not, beq_iff_eq, bne_iff_ne, beq_eq_false_iff_ne, bne_eq_false_iff_eq, Bool.not_eq_true, Bool.not_eq_false, Bool.not_eq_eq_eq_not, Bool.not_true, Bool.not_false, List.length_map, Int.not_lt, Int.not_le, ne_eq, Decidable.not_not] at hc1
    refine vc_seq fun K4 hK4 => ?_
    refine vc_region ?_
    refine vo_assign_pv rfl rfl ?_
    refine vo_nil ?_
    refine hK4 _ ?_
    refine vc_ret ?_
    change retQ _ _ _ _ _
    refine retQ_sel [] (srows := []) (.inr rfl) hC rfl rfl rfl rfl rfl rfl rfl ?_
    refine ⟨?_, rfl⟩
    refine (congrArg (fun b => [bo b]) (?_ : _ = _) : [bo _] = [bo _])
    exact bF fun h => by rw [h] at hc1; exact hc1 rfl
  · try simp only [decide_eq_true_eq, decide_eq_false_iff_not, beq_iff_eq, bne_iff_ne, beq_eq_false_iff_ne, bne_eq_false_iff_eq, Bool.not_eq_true, Bool.not_eq_false, Bool.not_eq_eq_eq_not, Bool.not_true, Bool.not_false, List.length_map, Int.not_lt, Int.not_le, ne_eq, Decidable.not_not] at hc1
    refine vc_skip ?_
    refine hK2 _ ?_
    refine vc_seq fun K5 hK5 => ?_
    refine vc_seq fun K6 hK6 => ?_
    refine vc_region ?_
    refine vo_assign_pv rfl rfl ?_
    refine vo_nil ?_
    refine hK6 _ ?_
    refine vc_block ?_
    refine vc_stM ?_
    refine vc_loopE [0, 1] [5] [] _ _ (fun mz vs rs => ∃ (k : Nat), mz = a.length - k ∧ (k ≤ a.length) ∧ (a.take k = b.take k) ∧ vs = [i64 k] ∧ rs = []) (a.length) rfl rfl (le_len hC rfl) ⟨rfl, rfl, rfl⟩ rfl ⟨0, rfl, Nat.zero_le _, (by simp), rfl, rfl⟩ ?_
    rintro mz vs rs - - ⟨k, rfl, hk, hf, rfl, rfl⟩
    refine vc_stM ?_
    refine vc_seq fun K7 hK7 => ?_
    refine vc_seq fun K8 hK8 => ?_
    refine vc_region ?_
    refine vo_move_pv rfl rfl ?_
    refine vo_move_pv rfl rfl ?_
    refine vo_len_pv rfl rfl Try.underlying23 ?_
    refine vo_binI rfl rfl rfl rfl trivial ?_
    refine vo_nil ?_
    refine hK8 _ ?_
    refine vc_cond rfl (fun hc2 => ?_) (fun hc2 => ?_)
    · try simp only [decide_eq_true_eq, decide_eq_false_iff_not, beq_iff_eq, bne_iff_ne, beq_eq_false_iff_ne, bne_eq_false_iff_eq, Bool.not_eq_true, Bool.not_eq_false, Bool.not_eq_eq_eq_not, Bool.not_true, Bool.not_false, List.length_map, Int.not_lt, Int.not_le, ne_eq, Decidable.not_not] at hc2
      refine vc_skip ?_
      refine hK7 _ ?_
      refine vc_seq fun K9 hK9 => ?_
      refine vc_block ?_
      refine vc_seq fun K10 hK10 => ?_
      refine vc_draw (by kernel_rfl) ?_
      change VD _ _ _ 10 _ _ _
      refine vd_light 0 rfl rfl rfl (by kernel_rfl) (by kernel_rfl) (by kernel_rfl) (wnt_none rfl) (lt_move_pv rfl) ?_
      refine vd_light 1 rfl rfl rfl (by kernel_rfl) (by kernel_rfl) (by kernel_rfl) (wnt_none rfl) (lt_move_pv rfl) ?_
      refine vd_light 2 rfl rfl rfl (by kernel_rfl) (by kernel_rfl) (by kernel_rfl) (wnt_none rfl) (lt_index_pv (.agg [(.int .i64 0), (.int .i64 0), (.int .i64 0), (.bool false)]) rfl rfl E23.und inf46 sz46 sd sd) ?_
      simp only [Int.toNat_natCast, Int.toNat_zero, getD_ints, getD_intss, getD_bools, getD_bytes, PV.cells, getD_ops, getD_pairs, getD_insts]
      refine vd_light 3 rfl rfl rfl (by kernel_rfl) (by kernel_rfl) (by kernel_rfl) (wnt_none rfl) (lt_load_adrS rfl Try.underlying46 rfl inf46 sz46 rfl) ?_
      refine vd_st (by (try simp only [St.put, PV.cells, PV.scal, List.drop_succ_cons, List.drop_zero, List.take_succ_cons, List.take_zero, List.map_cons, List.map_nil, Bool.or_true, Bool.or_false, Bool.false_or, Bool.true_or, opP, pairP, instP, heapP]); exact eq_refl _) ?_
      refine vd_light 4 rfl rfl rfl (by kernel_rfl) (by kernel_rfl) (by kernel_rfl) (wnt_none rfl) (lt_move_pv rfl) ?_
      refine vd_light 5 rfl rfl rfl (by kernel_rfl) (by kernel_rfl) (by kernel_rfl) (wnt_none rfl) (lt_move_pv rfl) ?_
      refine vd_light 6 rfl rfl rfl (by kernel_rfl) (by kernel_rfl) (by kernel_rfl) (wnt_none rfl) (lt_index_pv (.agg [(.int .i64 0), (.int .i64 0), (.int .i64 0), (.bool false)]) rfl rfl E23.und inf46 sz46 sd sd) ?_
      simp only [Int.toNat_natCast, Int.toNat_zero, getD_ints, getD_intss, getD_bools, getD_bytes, PV.cells, getD_ops, getD_pairs, getD_insts]
      refine vd_light 7 rfl rfl rfl (by kernel_rfl) (by kernel_rfl) (by kernel_rfl) (wnt_none rfl) (lt_load_adrS rfl Try.underlying46 rfl inf46 sz46 rfl) ?_
      refine vd_st (by (try simp only [St.put, PV.cells, PV.scal, List.drop_succ_cons, List.drop_zero, List.take_succ_cons, List.take_zero, List.map_cons, List.map_nil, Bool.or_true, Bool.or_false, Bool.false_or, Bool.true_or, opP, pairP, instP, heapP]); exact eq_refl _) ?_
      refine vd_call 8 rfl (by kernel_rfl) (wnt_none rfl) Try.func56 rfl rfl rfl rfl eqOp_sat ?_
      rintro _ _ ⟨rfl, rfl⟩
      refine ⟨rfl, rfl, .inl rfl, ?_⟩
      refine vd_stM ?_
      refine vd_light 9 rfl rfl rfl (by kernel_rfl) (by kernel_rfl) (by kernel_rfl) (wnt_none rfl) (lt_not rfl) ?_
      refine vd_nil (by kernel_rfl) ?_
      refine hK10 _ ?_
      refine vc_cond rfl (fun hc3 => ?_) (fun hc3 => ?_)
      · try simp only [decide_eq_true_eq, decide_eq_false_iff_not, beq_iff_eq, bne_iff_ne, beq_eq_false_iff_ne, bne_eq_false_iff_eq, Bool.not_eq_true, Bool.not_eq_false, Bool.not_eq_eq_eq_not, Bool.not_true, Bool.not_false, List.length_map, Int.not_lt, Int.not_le, ne_eq, Decidable.not_not] at hc3
        refine vc_seq fun K11 hK11 => ?_
        refine vc_region ?_
        refine vo_assign_pv rfl rfl ?_
        refine vo_nil ?_
        refine hK11 _ ?_
        refine vc_ret ?_
        change retQ _ _ _ _ _
        refine retQ_sel [] (srows := []) (.inr rfl) hC rfl rfl rfl rfl rfl rfl rfl ?_
        refine ⟨?_, rfl⟩
        refine (congrArg (fun b => [bo b]) (?_ : _ = _) : [bo _] = [bo _])
        exact bF fun h => hc3 (by rw [h])
      · try simp only [decide_eq_true_eq, decide_eq_false_iff_not, beq_iff_eq, bne_iff_ne, beq_eq_false_iff_ne, bne_eq_false_iff_eq, Bool.not_eq_true, Bool.not_eq_false, Bool.not_eq_eq_eq_not, Bool.not_true, Bool.not_false, List.length_map, Int.not_lt, Int.not_le, ne_eq, Decidable.not_not] at hc3
        refine vc_skip ?_
        refine hK9 _ ?_
        refine vc_region ?_
        refine vo_move_pv rfl rfl ?_
        refine vo_binI rfl rfl rfl rfl sd ?_
        refine vo_assign_pv rfl rfl ?_
        refine vo_nil ?_
        change againE _ _ _ _ _ _ _ _ _ _
        refine againE_mk rfl rfl rfl rfl rfl rfl ⟨_, ?_, k + 1, rfl, ?_, ?_, rfl, rfl⟩
        · omega
        · omega
        · exact (take_eqS ⟨0, 0, 0, false⟩ (by omega) (by omega)).2 ⟨hf, by first | assumption | (simpa using hc3)⟩
    · try simp only [decide_eq_true_eq, decide_eq_false_iff_not, beq_iff_eq, bne_iff_ne, beq_eq_false_iff_ne, bne_eq_false_iff_eq, Bool.not_eq_true, Bool.not_eq_false, Bool.not_eq_eq_eq_not, Bool.not_true, Bool.not_false, List.length_map, Int.not_lt, Int.not_le, ne_eq, Decidable.not_not] at hc2
      refine vc_exit ?_
      refine hK5 _ ?_
      refine vc_seq fun K12 hK12 => ?_
      refine vc_region ?_
      refine vo_assign_pv rfl rfl ?_
      refine vo_nil ?_
      refine hK12 _ ?_
      refine vc_ret ?_
      change retQ _ _ _ _ _
      refine retQ_sel [] (srows := []) (.inr rfl) hC rfl rfl rfl rfl rfl rfl rfl ?_
      refine ⟨?_, rfl⟩
      refine (congrArg (fun b => [bo b]) (?_ : _ = _) : [bo _] = [bo _])
      rw [take_all (by omega), take_all (by omega)] at hf; exact bT hf

end Go.Vl

namespace Go.Vl
set_option linter.unusedVariables false
set_option linter.unusedSimpArgs false
open Go.Proofs
open Go.Proofs
theorem opn_int : Opens Try.prog 3 1 intP i64R := opens_int Try.underlying3
theorem opn_bool : Opens Try.prog 4 1 boolP (fun _ => True) := opens_bool Try.underlying4
theorem opn_lop : Opens Try.prog 72 4 opP (fun _ => True) := by
  have h := opens_struct (P := Try.prog) (t := 72) Try.underlying72 (by kernel_rfl) (openF_cons opn_int rfl (show Try.prog.cellsOf 3 = 1 by kernel_rfl) (openF_cons opn_int rfl (show Try.prog.cellsOf 3 = 1 by kernel_rfl) (openF_cons opn_int rfl (show Try.prog.cellsOf 3 = 1 by kernel_rfl) (openF_cons opn_bool rfl (show Try.prog.cellsOf 4 = 1 by kernel_rfl) openF_nil))))
  exact opens_map h (fun a => ⟨a.1, a.2.1, a.2.2.1, a.2.2.2.1⟩) (fun _ => rfl) (fun _ _ => trivial)
theorem opn_lops : Opens Try.prog 27 1 (fun l : List OpM => .sl none 4 (l.map opP)) (fun l => l.length ≤ 9223372036854775807 ∧ ∀ a ∈ l, True) := opens_slice (P := Try.prog) Try.underlying27 (show Try.prog.cellsOf 72 = 4 by kernel_rfl) (by decide) opn_lop

theorem szOpS_satX {nl0 : Option Bool} {a : List OpM} {left : Int}  (ha : a.length ≤ 9223372036854775807) (hl : 0 ≤ left ∧ left ≤ 2000000) : SatAt Try.prog 18 [.pv false (.sl nl0 4 (a.map opP)), i64 left] [] (fun res rows => res = [i64 (if left - (a.length : Int) < 0 then -1 else left - (a.length : Int))] ∧ rows = []) := by
  refine sat_entry_G (rs := [(4, none)]) Try.func18 rfl rfl (Nat.le_of_ble_eq_true rfl) (Nat.le_of_ble_eq_true rfl) (resTs1 trivial) fun C hC => ?_
  rw [Try.ntmps18]
  replace hC : C.nb = 0 := hC
  refine vc_seq fun K1 hK1 => ?_
  refine vc_region ?_
  refine vo_assign_pv rfl rfl ?_
  refine vo_nil ?_
  refine hK1 _ ?_
  refine vc_seq fun K2 hK2 => ?_
  refine vc_region ?_
  refine vo_move_pv rfl rfl ?_
  refine vo_move_pv rfl rfl ?_
  refine vo_len_pv rfl rfl Try.underlying27 ?_
  refine vo_binI rfl rfl rfl rfl sd ?_
  refine vo_assign_pv rfl rfl ?_
  refine vo_nil ?_
  refine hK2 _ ?_
  refine vc_seq fun K3 hK3 => ?_
  refine vc_seq fun K4 hK4 => ?_
  refine vc_region ?_
  refine vo_move_pv rfl rfl ?_
  refine vo_binI rfl rfl rfl rfl trivial ?_
  refine vo_nil ?_
  refine hK4 _ ?_
  refine vc_cond rfl (fun hc1 => ?_) (fun hc1 => ?_)
  · try simp only [decide_eq_true_eq, decide_eq_false_iff_not, beq_iff_eq, bne_iff_ne, beq_eq_false_iff_ne, bne_eq_false_iff_eq, Bool.not_eq_true, Bool.not_eq_false, Bool.not_eq_eq_eq_not, Bool.not_true, Bool.not_false, List.length_map, Int.not_lt, Int.not_le, ne_eq, Decidable.not_not] at hc1
    refine vc_seq fun K5 hK5 => ?_
    refine vc_region ?_
    refine vo_assign_pv rfl rfl ?_
    refine vo_nil ?_
    refine hK5 _ ?_
    refine vc_ret ?_
    change retQ _ _ _ _ _
    refine retQ_sel [] (srows := []) (.inr rfl) hC rfl rfl rfl rfl rfl rfl rfl ?_
    refine ⟨?_, rfl⟩
    refine (congrArg (fun b => [i64 b]) (?_ : _ = _) : [i64 _] = [i64 _])
    rw [if_pos (by omega)]
  · try simp only [decide_eq_true_eq, decide_eq_false_iff_not, beq_iff_eq, bne_iff_ne, beq_eq_false_iff_ne, bne_eq_false_iff_eq, Bool.not_eq_true, Bool.not_eq_false, Bool.not_eq_eq_eq_not, Bool.not_true, Bool.not_false, List.length_map, Int.not_lt, Int.not_le, ne_eq, Decidable.not_not] at hc1
    refine vc_skip ?_
    refine hK3 _ ?_
    refine vc_seq fun K6 hK6 => ?_
    refine vc_region ?_
    refine vo_move_pv rfl rfl ?_
    refine vo_assign_pv rfl rfl ?_
    refine vo_nil ?_
    refine hK6 _ ?_
    refine vc_ret ?_
    change retQ _ _ _ _ _
    refine retQ_sel [] (srows := []) (.inr rfl) hC rfl rfl rfl rfl rfl rfl rfl ?_
    refine ⟨?_, rfl⟩
    refine (congrArg (fun b => [i64 b]) (?_ : _ = _) : [i64 _] = [i64 _])
    simp only [List.length_map]; rw [if_neg (by omega)]


theorem FnExactValidOps_sat {nl0 : Option Bool} {a : List OpM}  (ha : a.length ≤ 9223372036854775807 ∧ ∀ x ∈ a, True) : SatAt Try.prog 4 [.pv false (.sl nl0 4 (a.map opP))] [] (fun res rows => res = [bo true] ∧ rows = []) := by
  refine sat_entry_G (rs := [(2, none)]) Try.func4 rfl rfl (Nat.le_of_ble_eq_true rfl) (Nat.le_of_ble_eq_true rfl) (resTs1 trivial) fun C hC => ?_
  rw [Try.ntmps4]
  replace hC : C.nb = 0 := hC
  refine vc_seq fun K1 hK1 => ?_
  refine vc_region ?_
  refine vo_assign_pv rfl rfl ?_
  refine vo_nil ?_
  refine hK1 _ ?_
  refine vc_seq fun K2 hK2 => ?_
  refine vc_region ?_
  refine vo_assign_pv rfl rfl ?_
  refine vo_nil ?_
  refine hK2 _ ?_
  refine vc_seq fun K3 hK3 => ?_
  refine vc_region ?_
  refine vo_move_pv rfl rfl ?_
  refine vo_move_pv rfl rfl ?_
  refine vo_call0 Try.func18 rfl rfl rfl rfl (szOpS_satX ha.1 (by omega)) ?_
  rintro _ _ ⟨rfl, rfl⟩
  refine ⟨rfl, rfl, .inl rfl, ?_⟩
  refine vo_stM ?_
  refine vo_assign_pv rfl rfl ?_
  refine vo_nil ?_
  refine hK3 _ ?_
  refine vc_seq fun K4 hK4 => ?_
  refine vc_seq fun K5 hK5 => ?_
  refine vc_region ?_
  refine vo_move_pv rfl rfl ?_
  refine vo_binI rfl rfl rfl rfl trivial ?_
  refine vo_nil ?_
  refine hK5 _ ?_
  refine vc_cond rfl (fun hc1 => ?_) (fun hc1 => ?_)
  · try simp only [decide_eq_true_eq, decide_eq_false_iff_not, beq_iff_eq, bne_iff_ne, beq_eq_false_iff_ne, bne_eq_false_iff_eq, Bool.not_eq_true, Bool.not_eq_false, Bool.not_eq_eq_eq_not, Bool.not_true, Bool.not_false, List.length_map, Int.not_lt, Int.not_le, ne_eq, Decidable.not_not] at hc1
    refine vc_seq fun K6 hK6 => ?_
    refine vc_region ?_
    refine vo_assign_pv rfl rfl ?_
    refine vo_nil ?_
    refine hK6 _ ?_
    refine vc_ret ?_
    change retQ _ _ _ _ _
    refine retQ_sel [] (srows := []) (.inr rfl) hC rfl rfl rfl rfl rfl rfl rfl ?_
    exact ⟨rfl, rfl⟩
  · try simp only [decide_eq_true_eq, decide_eq_false_iff_not, beq_iff_eq, bne_iff_ne, beq_eq_false_iff_ne, bne_eq_false_iff_eq, Bool.not_eq_true, Bool.not_eq_false, Bool.not_eq_eq_eq_not, Bool.not_true, Bool.not_false, List.length_map, Int.not_lt, Int.not_le, ne_eq, Decidable.not_not] at hc1
    split at hc1
    · omega
    have hlen : a.length ≤ 1048576 := by omega
    refine vc_skip ?_
    refine hK4 _ ?_
    refine vc_seq fun K7 hK7 => ?_
    refine vc_region ?_
    refine vo_move_pv rfl rfl ?_
    refine vo_call0 Try.func19 rfl rfl rfl rfl (toOpS_sat (by omega)) ?_
    rintro _ _ ⟨rfl, rfl⟩
    refine ⟨rfl, rfl, .inl rfl, ?_⟩
    refine vo_stM ?_
    refine vo_call0 Try.func17 rfl rfl rfl rfl (specValidOps_sat (by omega)) ?_
    rintro _ _ ⟨rfl, rfl⟩
    refine ⟨rfl, rfl, .inl rfl, ?_⟩
    refine vo_stM ?_
    refine vo_assign_pv rfl rfl ?_
    refine vo_nil ?_
    refine hK7 _ ?_
    refine vc_seq fun K8 hK8 => ?_
    refine vc_region ?_
    refine vo_move_pv rfl rfl ?_
    refine vo_call0 Try.func19 rfl rfl rfl rfl (toOpS_sat (by omega)) ?_
    rintro _ _ ⟨rfl, rfl⟩
    refine ⟨rfl, rfl, .inl rfl, ?_⟩
    refine vo_stM ?_
    refine vo_assign_pv rfl rfl ?_
    refine vo_nil ?_
    refine hK8 _ ?_
    refine vc_seq fun K9 hK9 => ?_
    refine vc_region ?_
    refine vo_move_pv rfl rfl ?_
    refine vo_call0 Try.func16 rfl rfl rfl rfl (implValidOps_sat (by omega)) ?_
    rintro _ _ ⟨rfl, rfl⟩
    refine ⟨rfl, rfl, .inl rfl, ?_⟩
    refine vo_stM ?_
    refine vo_assign_pv rfl rfl ?_
    refine vo_nil ?_
    refine hK9 _ ?_
    refine vc_seq fun K10 hK10 => ?_
    refine vc_seq fun K11 hK11 => ?_
    refine vc_region ?_
    refine vo_move_pv rfl rfl ?_
    refine vo_move_pv rfl rfl ?_
    refine vo_binB rfl rfl rfl rfl Try.underlying4 ?_
    refine vo_nil ?_
    refine hK11 _ ?_
    refine vc_cond rfl (fun hc2 => ?_) (fun hc2 => ?_)
    · try simp only [decide_eq_true_eq, decide_eq_false_iff_not, beq_iff_eq, bne_iff_ne, beq_eq_false_iff_ne, bne_eq_false_iff_eq, Bool.not_eq_true, Bool.not_eq_false, Bool.not_eq_eq_eq_not, Bool.not_true, Bool.not_false, List.length_map, Int.not_lt, Int.not_le, ne_eq, Decidable.not_not] at hc2
      refine vc_seq fun K12 hK12 => ?_
      refine vc_region ?_
      refine vo_assign_pv rfl rfl ?_
      refine vo_nil ?_
      refine hK12 _ ?_
      refine vc_ret ?_
      change retQ _ _ _ _ _
      refine retQ_sel [] (srows := []) (.inr rfl) hC rfl rfl rfl rfl rfl rfl rfl ?_
      exact absurd trivial hc2
    · try simp only [decide_eq_true_eq, decide_eq_false_iff_not, beq_iff_eq, bne_iff_ne, beq_eq_false_iff_ne, bne_eq_false_iff_eq, Bool.not_eq_true, Bool.not_eq_false, Bool.not_eq_eq_eq_not, Bool.not_true, Bool.not_false, List.length_map, Int.not_lt, Int.not_le, ne_eq, Decidable.not_not] at hc2
      refine vc_skip ?_
      refine hK10 _ ?_
      refine vc_seq fun K13 hK13 => ?_
      refine vc_seq fun K14 hK14 => ?_
      refine vc_region ?_
      refine vo_move_pv rfl rfl ?_
      refine vo_move_pv rfl rfl ?_
      refine vo_call0 Try.func19 rfl rfl rfl rfl (toOpS_sat (by omega)) ?_
      rintro _ _ ⟨rfl, rfl⟩
      refine ⟨rfl, rfl, .inl rfl, ?_⟩
      refine vo_stM ?_
      refine vo_call0 Try.func20 rfl rfl rfl rfl (eqOpS_sat (by omega) (by omega)) ?_
      rintro _ _ ⟨rfl, rfl⟩
      refine ⟨rfl, rfl, .inl rfl, ?_⟩
      refine vo_stM ?_
      refine vo_not rfl rfl ?_
      refine vo_nil ?_
      refine hK14 _ ?_
      refine vc_cond rfl (fun hc3 => ?_) (fun hc3 => ?_)
      · try simp only [decide_eq_true_eq, decide_eq_false_iff_not, beq_iff_eq, bne_iff_ne, beq_eq_false_iff_ne, bne_eq_false_iff_eq, Bool.not_eq_true, Bool.not_eq_false, Bool.not_eq_eq_eq_not, Bool.not_true, Bool.not_false, List.length_map, Int.not_lt, Int.not_le, ne_eq, Decidable.not_not] at hc3
        refine vc_seq fun K15 hK15 => ?_
        refine vc_region ?_
        refine vo_assign_pv rfl rfl ?_
        refine vo_nil ?_
        refine hK15 _ ?_
        refine vc_ret ?_
        change retQ _ _ _ _ _
        refine retQ_sel [] (srows := []) (.inr rfl) hC rfl rfl rfl rfl rfl rfl rfl ?_
        exact absurd trivial hc3
      · try simp only [decide_eq_true_eq, decide_eq_false_iff_not, beq_iff_eq, bne_iff_ne, beq_eq_false_iff_ne, bne_eq_false_iff_eq, Bool.not_eq_true, Bool.not_eq_false, Bool.not_eq_eq_eq_not, Bool.not_true, Bool.not_false, List.length_map, Int.not_lt, Int.not_le, ne_eq, Decidable.not_not] at hc3
        refine vc_skip ?_
        refine hK13 _ ?_
        refine vc_seq fun K16 hK16 => ?_
        refine vc_region ?_
        refine vo_assign_pv rfl rfl ?_
        refine vo_nil ?_
        refine hK16 _ ?_
        refine vc_ret ?_
        change retQ _ _ _ _ _
        refine retQ_sel [] (srows := []) (.inr rfl) hC rfl rfl rfl rfl rfl rfl rfl ?_
        exact ⟨rfl, rfl⟩

end Go.Vl

namespace Go.Vl
set_option linter.unusedVariables false
set_option linter.unusedSimpArgs false
open Go.Proofs

/-- A reader that has given p numbers. -/
abbrev rdr (nl : Option Bool) (c : List (Fin 256)) (p : Nat) : Row := .var 113 [.pv false (.sl nl 1 (c.map byteP)), i64 p]
/-- Bases as the readers make them. -/
def SB (B : List (List Int)) : Prop := 1 ≤ B.length ∧ B.getD 0 [] = [] ∧ ∀ i, i < B.length → 0 < i → B.getD i [] ≠ [] ∧ (B.getD i []).length ≤ 3 ∧ (B.getD i []).Nodup ∧ ∀ x ∈ B.getD i [], 0 ≤ x ∧ x < i
theorem getD_app {α : Type} {l l' : List α} {i : Nat} (h : i < l.length) (d : α) : (l ++ l').getD i d = l.getD i d := by simp [List.getD, List.getElem?_append_left h]
theorem getD_end {α : Type} {l : List α} {x : α} (d : α) : (l ++ [x]).getD l.length d = x := by simp [List.getD]
theorem nodup_snoc {l : List Int} {x : Int} (h : l.Nodup) (hx : x ∉ l) : (l ++ [x]).Nodup := by
  rw [List.nodup_append]; exact ⟨h, by simp, fun a ha b hb e => hx (by rw [List.mem_singleton.1 hb] at e; exact e ▸ ha)⟩
theorem SB.snoc {B : List (List Int)} {l : List Int} (h : SB B) (h1 : l ≠ []) (h2 : l.length ≤ 3) (h3 : l.Nodup) (h4 : ∀ x ∈ l, 0 ≤ x ∧ x < B.length) : SB (B ++ [l]) := by
  obtain ⟨a1, a2, a3⟩ := h
  refine ⟨by simp, by rw [getD_app (by omega)]; exact a2, fun i hi h0 => ?_⟩
  rcases Nat.lt_or_ge i B.length with hb | hb
  · rw [getD_app hb]; exact a3 i hb h0
  · have : i = B.length := by simp at hi; omega
    subst this
    rw [getD_end]
    exact ⟨h1, h2, h3, h4⟩
theorem SB.lens {B : List (List Int)} (h : SB B) : ∀ l ∈ B, l.length ≤ 3 := by
  intro l hl
  obtain ⟨i, hi, rfl⟩ := List.getElem_of_mem hl
  have e : B[i] = B.getD i [] := by simp [List.getD, List.getElem?_eq_getElem hi]
  rw [e]
  rcases Nat.eq_zero_or_pos i with rfl | h0
  · rw [h.2.1]; simp
  · exact (h.2.2 i hi h0).2.1

theorem newReader_sat {nl : Option Bool} {c : List (Fin 256)} (hl : c.length < 1000000000) : SatAt Try.prog 53 [.pv false (.sl nl 1 (c.map byteP))] [] (fun res rows => ∃ nl2 c2, c2.length ≤ 2000 ∧ res = [.ptr 0 0 0 0] ∧ rows = [rdr nl2 c2 0]) := by
  refine sat_entry_g (ts := [2]) Try.func53 rfl rfl (by decide) (Nat.le_of_ble_eq_true rfl) fun C hC => ?_
  rw [Try.ntmps53]
  replace hC : C.nb = 0 := hC
  refine vc_seq fun K1 hK1 => ?_
  refine vc_region ?_
  refine vo_assign rfl ?_
  refine vo_nil ?_
  refine hK1 _ ?_
  refine vc_seq fun K2 hK2 => ?_
  refine vc_seq fun K3 hK3 => ?_
  refine vc_region ?_
  refine vo_move_pv rfl rfl ?_
  refine vo_len_pv rfl rfl Try.underlying22 ?_
  refine vo_binI rfl rfl rfl rfl trivial ?_
  refine vo_nil ?_
  refine hK3 _ ?_
  refine vc_cond rfl (fun hc1 => ?_) (fun hc1 => ?_)
  · try simp only [decide_eq_true_eq, decide_eq_false_iff_not, beq_iff_eq, bne_iff_ne, beq_eq_false_iff_ne, bne_eq_false_iff_eq, Bool.not_eq_true, Bool.not_eq_false, Bool.not_eq_eq_eq_not, Bool.not_true, Bool.not_false, List.length_map, Int.not_lt, Int.not_le, ne_eq, Decidable.not_not] at hc1
    refine vc_region ?_
    refine vo_move_pv rfl rfl ?_
    refine vo_slice_pv rfl rfl rfl rfl E22.und inf5 sz5 sd sd sd ?_
    simp only [Int.toNat_natCast, Int.toNat_zero, List.drop_zero, Nat.sub_zero, ← List.map_drop, ← List.map_take]
    refine vo_assign_pv rfl rfl ?_
    refine vo_nil ?_
    refine hK2 _ ?_
    refine vc_seq fun K4 hK4 => ?_
    refine vc_region ?_
    refine vo_move_pv rfl rfl ?_
    refine vo_build S113 rfl rfl rfl ?_
    refine vo_box rfl rfl ?_
    refine vo_assign_ptr rfl rfl ?_
    refine vo_nil ?_
    refine hK4 _ ?_
    refine vc_ret ?_
    change retG _ _ _ _ _
    refine retG_one 0 hC rfl rfl rfl rfl rfl ?_
    refine ⟨_, _, ?_, rfl, rfl⟩
    first | omega | (simp; omega)
  · try simp only [decide_eq_true_eq, decide_eq_false_iff_not, beq_iff_eq, bne_iff_ne, beq_eq_false_iff_ne, bne_eq_false_iff_eq, Bool.not_eq_true, Bool.not_eq_false, Bool.not_eq_eq_eq_not, Bool.not_true, Bool.not_false, List.length_map, Int.not_lt, Int.not_le, ne_eq, Decidable.not_not] at hc1
    refine vc_skip ?_
    refine hK2 _ ?_
    refine vc_seq fun K5 hK5 => ?_
    refine vc_region ?_
    refine vo_move_pv rfl rfl ?_
    refine vo_build S113 rfl rfl rfl ?_
    refine vo_box rfl rfl ?_
    refine vo_assign_ptr rfl rfl ?_
    refine vo_nil ?_
    refine hK5 _ ?_
    refine vc_ret ?_
    change retG _ _ _ _ _
    refine retG_one 0 hC rfl rfl rfl rfl rfl ?_
    refine ⟨_, _, ?_, rfl, rfl⟩
    first | omega | (simp; omega)


theorem pick_sat {nl : Option Bool} {c : List (Fin 256)} {p : Nat} {n : Int} (hc : c.length ≤ 2000) (hp : p < 1000000) : SatAt Try.prog 58 [.ptr 0 0 0 0, i64 n] [rdr nl c p] (fun res rows => ∃ x, (0 ≤ x ∧ (1 ≤ n → x < n)) ∧ res = [i64 x] ∧ rows = [rdr nl c (p + 1)]) := by
  have hL : ((c.map byteP).length : Int) = c.length := by simp
  refine sat_entry_g (ts := [4]) Try.func58 rfl rfl (by decide) (Nat.le_of_ble_eq_true rfl) fun C hC => ?_
  rw [Try.ntmps58]
  replace hC : C.nb = 1 := hC
  refine vc_seq fun K1 hK1 => ?_
  refine vc_region ?_
  refine vo_assign_pv rfl rfl ?_
  refine vo_nil ?_
  refine hK1 _ ?_
  refine vc_seq fun K2 hK2 => ?_
  refine vc_region ?_
  refine vo_move_ptr rfl rfl ?_
  refine vo_move_ptr rfl rfl ?_
  refine vo_nilCheck_ptr rfl rfl ?_
  refine vo_fieldAddr_ptr rfl rfl Try.underlying113 rfl inf3 (by rw [sz3]; decide) ?_
  refine vo_load_var rfl rfl rfl Try.underlying3 rfl rfl ?_
  refine vo_binI rfl rfl rfl rfl sd ?_
  refine vo_nilCheck_ptr rfl rfl ?_
  refine vo_fieldAddr_ptr rfl rfl Try.underlying113 rfl inf3 (by rw [sz3]; decide) ?_
  refine vo_store_var rfl rfl rfl rfl inf3 sz3 rfl ?_
  refine vo_nil ?_
  refine hK2 _ ?_
  refine vc_seq fun K3 hK3 => ?_
  refine vc_seq fun K4 hK4 => ?_
  refine vc_region ?_
  refine vo_move_pv rfl rfl ?_
  refine vo_binI rfl rfl rfl rfl trivial ?_
  refine vo_move_pv rfl rfl ?_
  refine vo_split 17 rfl (fun hg1 => ?_) (fun hg1 => ?_)
  · try simp only [decide_eq_true_eq, decide_eq_false_iff_not, beq_iff_eq, bne_iff_ne, beq_eq_false_iff_ne, bne_eq_false_iff_eq, Bool.not_eq_true, Bool.not_eq_false, Bool.not_eq_eq_eq_not, Bool.not_true, Bool.not_false, List.length_map, Int.not_lt, Int.not_le, ne_eq, Decidable.not_not] at hg1
    refine vo_guard_off rfl rfl rfl rfl rfl ?_
    refine vo_guard_off rfl rfl rfl rfl rfl ?_
    refine vo_guard_off rfl rfl rfl rfl rfl ?_
    refine vo_guard_off rfl rfl rfl rfl rfl ?_
    refine vo_guard_off rfl rfl rfl rfl rfl ?_
    refine vo_guard_off rfl rfl rfl rfl rfl ?_
    refine vo_pick_t rfl rfl ?_
    refine vo_nil ?_
    refine hK4 _ ?_
    refine vc_cond_t rfl ?_
    refine vc_seq fun K5 hK5 => ?_
    refine vc_region ?_
    refine vo_assign_pv rfl rfl ?_
    refine vo_nil ?_
    refine hK5 _ ?_
    refine vc_ret ?_
    change retG _ _ _ _ _
    refine retG_sel [] [] hC rfl rfl rfl rfl rfl rfl ?_
    exact ⟨_, ⟨by omega, by omega⟩, rfl, rfl⟩
  · try simp only [decide_eq_true_eq, decide_eq_false_iff_not, beq_iff_eq, bne_iff_ne, beq_eq_false_iff_ne, bne_eq_false_iff_eq, Bool.not_eq_true, Bool.not_eq_false, Bool.not_eq_eq_eq_not, Bool.not_true, Bool.not_false, List.length_map, Int.not_lt, Int.not_le, ne_eq, Decidable.not_not] at hg1
    refine vo_guard_on rfl rfl rfl ?_
    refine vo_move_ptr rfl rfl ?_
    refine vo_guard_on rfl rfl rfl ?_
    refine vo_nilCheck_ptr rfl rfl ?_
    refine vo_guard_on rfl rfl rfl ?_
    refine vo_fieldAddr_ptr rfl rfl Try.underlying113 rfl inf22 (by rw [sz22]; decide) ?_
    refine vo_guard_on rfl rfl rfl ?_
    refine vo_load_var rfl rfl rfl Try.underlying22 rfl rfl ?_
    refine vo_guard_on rfl rfl rfl ?_
    refine vo_len_pv rfl rfl Try.underlying22 ?_
    refine vo_guard_on rfl rfl rfl ?_
    refine vo_binI rfl rfl rfl rfl trivial ?_
    refine vo_pick_f rfl rfl ?_
    refine vo_nil ?_
    refine hK4 _ ?_
    refine vc_cond rfl (fun hc2 => ?_) (fun hc2 => ?_)
    · try simp only [decide_eq_true_eq, decide_eq_false_iff_not, beq_iff_eq, bne_iff_ne, beq_eq_false_iff_ne, bne_eq_false_iff_eq, Bool.not_eq_true, Bool.not_eq_false, Bool.not_eq_eq_eq_not, Bool.not_true, Bool.not_false, List.length_map, Int.not_lt, Int.not_le, ne_eq, Decidable.not_not] at hc2
      refine vc_seq fun K6 hK6 => ?_
      refine vc_region ?_
      refine vo_assign_pv rfl rfl ?_
      refine vo_nil ?_
      refine hK6 _ ?_
      refine vc_ret ?_
      change retG _ _ _ _ _
      refine retG_sel [] [] hC rfl rfl rfl rfl rfl rfl ?_
      exact ⟨_, ⟨by omega, by omega⟩, rfl, rfl⟩
    · try simp only [decide_eq_true_eq, decide_eq_false_iff_not, beq_iff_eq, bne_iff_ne, beq_eq_false_iff_ne, bne_eq_false_iff_eq, Bool.not_eq_true, Bool.not_eq_false, Bool.not_eq_eq_eq_not, Bool.not_true, Bool.not_false, List.length_map, Int.not_lt, Int.not_le, ne_eq, Decidable.not_not] at hc2
      refine vc_skip ?_
      refine hK3 _ ?_
      refine vc_seq fun K7 hK7 => ?_
      refine vc_region ?_
      refine vo_move_ptr rfl rfl ?_
      refine vo_nilCheck_ptr rfl rfl ?_
      refine vo_fieldAddr_ptr rfl rfl Try.underlying113 rfl inf3 (by rw [sz3]; decide) ?_
      refine vo_load_var rfl rfl rfl Try.underlying3 rfl rfl ?_
      refine vo_binI rfl rfl rfl rfl sd ?_
      refine vo_assign_pv rfl rfl ?_
      refine vo_nil ?_
      refine hK7 _ ?_
      refine vc_seq fun K8 hK8 => ?_
      refine vc_seq fun K9 hK9 => ?_
      refine vc_region ?_
      refine vo_move_pv rfl rfl ?_
      refine vo_move_ptr rfl rfl ?_
      refine vo_nilCheck_ptr rfl rfl ?_
      refine vo_fieldAddr_ptr rfl rfl Try.underlying113 rfl inf22 (by rw [sz22]; decide) ?_
      refine vo_load_var rfl rfl rfl Try.underlying22 rfl rfl ?_
      refine vo_len_pv rfl rfl Try.underlying22 ?_
      refine vo_binI rfl rfl rfl rfl trivial ?_
      refine vo_nil ?_
      refine hK9 _ ?_
      refine vc_cond rfl (fun hc3 => ?_) (fun hc3 => ?_)
      · try simp only [decide_eq_true_eq, decide_eq_false_iff_not, beq_iff_eq, bne_iff_ne, beq_eq_false_iff_ne, bne_eq_false_iff_eq, Bool.not_eq_true, Bool.not_eq_false, Bool.not_eq_eq_eq_not, Bool.not_true, Bool.not_false, List.length_map, Int.not_lt, Int.not_le, ne_eq, Decidable.not_not] at hc3
        refine vc_seq fun K10 hK10 => ?_
        refine vc_region ?_
        refine vo_move_ptr rfl rfl ?_
        refine vo_nilCheck_ptr rfl rfl ?_
        refine vo_fieldAddr_ptr rfl rfl Try.underlying113 rfl inf22 (by rw [sz22]; decide) ?_
        refine vo_load_var rfl rfl rfl Try.underlying22 rfl rfl ?_
        refine vo_move_pv rfl rfl ?_
        refine vo_index_pv (.int .u8 0) rfl rfl rfl E22.und inf5 sz5 sd sd ?_
        simp only [Int.toNat_natCast, Int.toNat_zero, getD_ints, getD_intss, getD_bools, getD_bytes, PV.cells]
        refine vo_load_adr rfl rfl Try.underlying5 rfl ?_
        refine vo_convI rfl rfl Try.underlying5 Try.underlying3 sd ?_
        refine vo_move_pv rfl rfl ?_
        refine vo_binI rfl rfl rfl rfl sd ?_
        refine vo_assign_pv rfl rfl ?_
        refine vo_nil ?_
        refine hK10 _ ?_
        refine vc_ret ?_
        change retG _ _ _ _ _
        refine retG_sel [] [] hC rfl rfl rfl rfl rfl rfl ?_
        exact ⟨_, ⟨Int.emod_nonneg _ (by omega), fun h => Int.emod_lt_of_pos _ (by omega)⟩, rfl, rfl⟩
      · try simp only [decide_eq_true_eq, decide_eq_false_iff_not, beq_iff_eq, bne_iff_ne, beq_eq_false_iff_ne, bne_eq_false_iff_eq, Bool.not_eq_true, Bool.not_eq_false, Bool.not_eq_eq_eq_not, Bool.not_true, Bool.not_false, List.length_map, Int.not_lt, Int.not_le, ne_eq, Decidable.not_not] at hc3
        have e1 : 0 ≤ ((p : Int) + 1 - 1) % ((c.map byteP).length : Int) := Int.emod_nonneg _ (by omega)
        have e2 : ((p : Int) + 1 - 1) % ((c.map byteP).length : Int) < ((c.map byteP).length : Int) := Int.emod_lt_of_pos _ (by omega)
        have e3 : 0 ≤ (((p : Int) + 1 - 1) * 7 + 3) % ((c.map byteP).length : Int) := Int.emod_nonneg _ (by omega)
        have e4 : (((p : Int) + 1 - 1) * 7 + 3) % ((c.map byteP).length : Int) < ((c.map byteP).length : Int) := Int.emod_lt_of_pos _ (by omega)
        have e5 : 0 ≤ ((p : Int) + 1 - 1) / ((c.map byteP).length : Int) := Int.ediv_nonneg (by omega) (by omega)
        have e6 : ((p : Int) + 1 - 1) / ((c.map byteP).length : Int) ≤ (p : Int) + 1 - 1 := Int.ediv_le_self _ (by omega)
        refine vc_skip ?_
        refine hK8 _ ?_
        refine vc_seq fun K11 hK11 => ?_
        refine vc_draw (by kernel_rfl) ?_
        change VD _ _ _ 46 _ _ _
        refine vd_light 0 rfl rfl rfl (by kernel_rfl) (by kernel_rfl) (by kernel_rfl) (wnt_none rfl) (lt_move_ptr rfl) ?_
        refine vd_light 1 rfl rfl rfl (by kernel_rfl) (by kernel_rfl) (by kernel_rfl) (wnt_none rfl) (lt_nilCheck_ptr rfl) ?_
        refine vd_light 2 rfl rfl rfl (by kernel_rfl) (by kernel_rfl) (by kernel_rfl) (wnt_none rfl) (lt_fieldAddr_ptr rfl Try.underlying113 rfl inf22 (by rw [sz22]; decide)) ?_
        refine vd_light 3 rfl rfl rfl (by kernel_rfl) (by kernel_rfl) (by kernel_rfl) (wnt_none rfl) (lt_load_var rfl rfl Try.underlying22 rfl rfl) ?_
        refine vd_light 4 rfl rfl rfl (by kernel_rfl) (by kernel_rfl) (by kernel_rfl) (wnt_none rfl) (lt_move_pv rfl) ?_
        refine vd_light 5 rfl rfl rfl (by kernel_rfl) (by kernel_rfl) (by kernel_rfl) (wnt_none rfl) (lt_move_ptr rfl) ?_
        refine vd_light 6 rfl rfl rfl (by kernel_rfl) (by kernel_rfl) (by kernel_rfl) (wnt_none rfl) (lt_nilCheck_ptr rfl) ?_
        refine vd_light 7 rfl rfl rfl (by kernel_rfl) (by kernel_rfl) (by kernel_rfl) (wnt_none rfl) (lt_fieldAddr_ptr rfl Try.underlying113 rfl inf22 (by rw [sz22]; decide)) ?_
        refine vd_light 8 rfl rfl rfl (by kernel_rfl) (by kernel_rfl) (by kernel_rfl) (wnt_none rfl) (lt_load_var rfl rfl Try.underlying22 rfl rfl) ?_
        refine vd_light 9 rfl rfl rfl (by kernel_rfl) (by kernel_rfl) (by kernel_rfl) (wnt_none rfl) (lt_len_pv rfl Try.underlying22) ?_
        refine vd_light 10 rfl rfl rfl (by kernel_rfl) (by kernel_rfl) (by kernel_rfl) (wnt_none rfl) (lt_binI rfl rfl rfl sd) ?_
        refine vd_light 11 rfl rfl rfl (by kernel_rfl) (by kernel_rfl) (by kernel_rfl) (wnt_none rfl) (lt_index_pv (.int .u8 0) rfl rfl E22.und inf5 sz5 sd sd) ?_
        simp only [Int.toNat_natCast, Int.toNat_zero, getD_ints, getD_intss, getD_bools, getD_bytes, PV.cells]
        refine vd_light 12 rfl rfl rfl (by kernel_rfl) (by kernel_rfl) (by kernel_rfl) (wnt_none rfl) (lt_load_adr rfl Try.underlying5 rfl) ?_
        refine vd_light 13 rfl rfl rfl (by kernel_rfl) (by kernel_rfl) (by kernel_rfl) (wnt_none rfl) (lt_convI rfl Try.underlying5 Try.underlying3 sd) ?_
        refine vd_light 14 rfl rfl rfl (by kernel_rfl) (by kernel_rfl) (by kernel_rfl) (wnt_none rfl) (lt_binI rfl rfl rfl sd) ?_
        refine vd_light 15 rfl rfl rfl (by kernel_rfl) (by kernel_rfl) (by kernel_rfl) (wnt_none rfl) (lt_move_ptr rfl) ?_
        refine vd_light 16 rfl rfl rfl (by kernel_rfl) (by kernel_rfl) (by kernel_rfl) (wnt_none rfl) (lt_nilCheck_ptr rfl) ?_
        refine vd_light 17 rfl rfl rfl (by kernel_rfl) (by kernel_rfl) (by kernel_rfl) (wnt_none rfl) (lt_fieldAddr_ptr rfl Try.underlying113 rfl inf22 (by rw [sz22]; decide)) ?_
        refine vd_light 18 rfl rfl rfl (by kernel_rfl) (by kernel_rfl) (by kernel_rfl) (wnt_none rfl) (lt_load_var rfl rfl Try.underlying22 rfl rfl) ?_
        refine vd_light 19 rfl rfl rfl (by kernel_rfl) (by kernel_rfl) (by kernel_rfl) (wnt_none rfl) (lt_move_pv rfl) ?_
        refine vd_light 20 rfl rfl rfl (by kernel_rfl) (by kernel_rfl) (by kernel_rfl) (wnt_none rfl) (lt_binI rfl rfl rfl sd) ?_
        refine vd_light 21 rfl rfl rfl (by kernel_rfl) (by kernel_rfl) (by kernel_rfl) (wnt_none rfl) (lt_binI rfl rfl rfl sd) ?_
        refine vd_light 22 rfl rfl rfl (by kernel_rfl) (by kernel_rfl) (by kernel_rfl) (wnt_none rfl) (lt_move_ptr rfl) ?_
        refine vd_light 23 rfl rfl rfl (by kernel_rfl) (by kernel_rfl) (by kernel_rfl) (wnt_none rfl) (lt_nilCheck_ptr rfl) ?_
        refine vd_light 24 rfl rfl rfl (by kernel_rfl) (by kernel_rfl) (by kernel_rfl) (wnt_none rfl) (lt_fieldAddr_ptr rfl Try.underlying113 rfl inf22 (by rw [sz22]; decide)) ?_
        refine vd_light 25 rfl rfl rfl (by kernel_rfl) (by kernel_rfl) (by kernel_rfl) (wnt_none rfl) (lt_load_var rfl rfl Try.underlying22 rfl rfl) ?_
        refine vd_light 26 rfl rfl rfl (by kernel_rfl) (by kernel_rfl) (by kernel_rfl) (wnt_none rfl) (lt_len_pv rfl Try.underlying22) ?_
        refine vd_light 27 rfl rfl rfl (by kernel_rfl) (by kernel_rfl) (by kernel_rfl) (wnt_none rfl) (lt_binI rfl rfl rfl sd) ?_
        refine vd_light 28 rfl rfl rfl (by kernel_rfl) (by kernel_rfl) (by kernel_rfl) (wnt_none rfl) (lt_index_pv (.int .u8 0) rfl rfl E22.und inf5 sz5 sd sd) ?_
        simp only [Int.toNat_natCast, Int.toNat_zero, getD_ints, getD_intss, getD_bools, getD_bytes, PV.cells]
        refine vd_light 29 rfl rfl rfl (by kernel_rfl) (by kernel_rfl) (by kernel_rfl) (wnt_none rfl) (lt_load_adr rfl Try.underlying5 rfl) ?_
        refine vd_light 30 rfl rfl rfl (by kernel_rfl) (by kernel_rfl) (by kernel_rfl) (wnt_none rfl) (lt_convI rfl Try.underlying5 Try.underlying3 sd) ?_
        refine vd_light 31 rfl rfl rfl (by kernel_rfl) (by kernel_rfl) (by kernel_rfl) (wnt_none rfl) (lt_binI rfl rfl rfl sd) ?_
        refine vd_light 32 rfl rfl rfl (by kernel_rfl) (by kernel_rfl) (by kernel_rfl) (wnt_none rfl) (lt_binI rfl rfl rfl sd) ?_
        refine vd_light 33 rfl rfl rfl (by kernel_rfl) (by kernel_rfl) (by kernel_rfl) (wnt_none rfl) (lt_move_pv rfl) ?_
        refine vd_light 34 rfl rfl rfl (by kernel_rfl) (by kernel_rfl) (by kernel_rfl) (wnt_none rfl) (lt_binI rfl rfl rfl sd) ?_
        refine vd_light 35 rfl rfl rfl (by kernel_rfl) (by kernel_rfl) (by kernel_rfl) (wnt_none rfl) (lt_binI rfl rfl rfl sd) ?_
        refine vd_light 36 rfl rfl rfl (by kernel_rfl) (by kernel_rfl) (by kernel_rfl) (wnt_none rfl) (lt_move_pv rfl) ?_
        refine vd_light 37 rfl rfl rfl (by kernel_rfl) (by kernel_rfl) (by kernel_rfl) (wnt_none rfl) (lt_move_ptr rfl) ?_
        refine vd_light 38 rfl rfl rfl (by kernel_rfl) (by kernel_rfl) (by kernel_rfl) (wnt_none rfl) (lt_nilCheck_ptr rfl) ?_
        refine vd_light 39 rfl rfl rfl (by kernel_rfl) (by kernel_rfl) (by kernel_rfl) (wnt_none rfl) (lt_fieldAddr_ptr rfl Try.underlying113 rfl inf22 (by rw [sz22]; decide)) ?_
        refine vd_light 40 rfl rfl rfl (by kernel_rfl) (by kernel_rfl) (by kernel_rfl) (wnt_none rfl) (lt_load_var rfl rfl Try.underlying22 rfl rfl) ?_
        refine vd_light 41 rfl rfl rfl (by kernel_rfl) (by kernel_rfl) (by kernel_rfl) (wnt_none rfl) (lt_len_pv rfl Try.underlying22) ?_
        refine vd_light 42 rfl rfl rfl (by kernel_rfl) (by kernel_rfl) (by kernel_rfl) (wnt_none rfl) (lt_binI rfl rfl rfl sd) ?_
        refine vd_light 43 rfl rfl rfl (by kernel_rfl) (by kernel_rfl) (by kernel_rfl) (wnt_none rfl) (lt_binI rfl rfl rfl sd) ?_
        refine vd_light 44 rfl rfl rfl (by kernel_rfl) (by kernel_rfl) (by kernel_rfl) (wnt_none rfl) (lt_binI rfl rfl rfl sd) ?_
        refine vd_light 45 rfl rfl rfl (by kernel_rfl) (by kernel_rfl) (by kernel_rfl) (wnt_none rfl) (lt_assign_pv rfl) ?_
        refine vd_nil (by kernel_rfl) ?_
        refine hK11 _ ?_
        refine vc_seq fun K12 hK12 => ?_
        refine vc_region ?_
        refine vo_move_pv rfl rfl ?_
        refine vo_move_pv rfl rfl ?_
        refine vo_binI rfl rfl rfl rfl sd ?_
        refine vo_xor rfl rfl rfl sd sd sd sd ?_
        refine vo_assign_pv rfl rfl ?_
        refine vo_nil ?_
        refine hK12 _ ?_
        refine vc_seq fun K13 hK13 => ?_
        refine vc_region ?_
        refine vo_move_pv rfl rfl ?_
        refine vo_move_pv rfl rfl ?_
        refine vo_binI rfl rfl rfl rfl sd ?_
        refine vo_assign_pv rfl rfl ?_
        refine vo_nil ?_
        refine hK13 _ ?_
        refine vc_ret ?_
        change retG _ _ _ _ _
        refine retG_sel [] [] hC rfl rfl rfl rfl rfl rfl ?_
        exact ⟨_, ⟨Int.emod_nonneg _ (by omega), fun h => Int.emod_lt_of_pos _ (by omega)⟩, rfl, rfl⟩


theorem one_sat {nl : Option Bool} {c : List (Fin 256)} {p : Nat} {nl2 : Option Bool} {list : List Int} (hc : c.length ≤ 2000) (hp : p < 1000000) (hn : list ≠ []) (hl : list.length < 1000000000) : SatAt Try.prog 65 [.ptr 0 0 0 0, .pv false (.sl nl2 1 (list.map intP))] [rdr nl c p] (fun res rows => ∃ x, x ∈ list ∧ res = [i64 x] ∧ rows = [rdr nl c (p + 1)]) := by
  have hL : ((list.map intP).length : Int) = list.length := by simp
  have hN := List.length_pos_iff.2 hn
  refine sat_entry_g (ts := [4]) Try.func65 rfl rfl (by decide) (Nat.le_of_ble_eq_true rfl) fun C hC => ?_
  rw [Try.ntmps65]
  replace hC : C.nb = 1 := hC
  refine vc_seq fun K1 hK1 => ?_
  refine vc_region ?_
  refine vo_assign_pv rfl rfl ?_
  refine vo_nil ?_
  refine hK1 _ ?_
  refine vc_seq fun K2 hK2 => ?_
  refine vc_region ?_
  refine vo_move_pv rfl rfl ?_
  refine vo_move_ptr rfl rfl ?_
  refine vo_move_pv rfl rfl ?_
  refine vo_len_pv rfl rfl Try.underlying50 ?_
  refine vo_call [0] Try.func58 rfl rfl rfl rfl rfl rfl rfl (pick_sat hc (by omega)) ?_
  rintro _ _ ⟨x, ⟨hx0, hx1⟩, rfl, rfl⟩
  refine ⟨Nat.le_of_ble_eq_true rfl, ⟨rfl, rfl, rfl, rfl⟩, .inl rfl, ?_⟩
  refine vo_stN ?_
  refine vo_index_pv (.int .i64 0) rfl rfl rfl E50.und inf3 sz3 sd sd ?_
  simp only [Int.toNat_natCast, Int.toNat_zero, getD_ints, getD_intss, getD_bools, getD_bytes, PV.cells]
  refine vo_load_adr rfl rfl Try.underlying3 rfl ?_
  refine vo_assign_pv rfl rfl ?_
  refine vo_nil ?_
  refine hK2 _ ?_
  refine vc_ret ?_
  change retG _ _ _ _ _
  refine retG_sel [] [] hC rfl rfl rfl rfl rfl rfl ?_
  exact ⟨_, getD_mem (by omega) 0, rfl, rfl⟩

end Go.Vl

namespace Go.Vl
set_option linter.unusedVariables false
set_option linter.unusedSimpArgs false
open Go.Proofs

theorem rows2_eq {r : Row} {el : TypeId} {e : Nat} {nl : Option Bool} {f : Bool} {xs ys : List PV} (h : xs = ys) : [r, Row.own el e nl f xs] = [r, Row.own el e nl f ys] := by rw [h]
theorem map_snoc_nil (S : List (List Int)) : S.map ints ++ [.sl none 1 []] = (S ++ [[]]).map ints := by simp

end Go.Vl

/- Operations that read no memory come at any time, behind those that write too. -/
namespace Go.Vl
set_option linter.unusedVariables false
set_option linter.unusedSimpArgs false
open Go.RowKit
section
variable {P : Program} {C : Ctx} {s : St} {t : Nat} {ty : TypeId} {pos : String} {af : Array Edge}

theorem l0_binI {op : BinOp} {xt yt : TypeId} {x y : Operand} {k : IntKind} {n1 n2 : Int} {f1 f2 : Bool} {cnd : Prop} {r : PV}
    (hx : getO s.env x = .pv f1 (.int k n1)) (hy : getO s.env y = .pv f2 (.int k n2)) (hb : binI op k n1 n2 = some (cnd, r)) (hc : cnd) : Lt0 P C s ⟨some t, .binOp op xt x y yt, ty, pos, af, none⟩ (.pv true r) := by
  intro m a w hs
  have e1 := hs.int hx
  have e2 := hs.int hy
  have hguard : ∀ (T : TypeId) (w : World), (eqGuard op T x y (.int k n1) (.int k n2)).run P w = .ok () w := by
    intro T w
    cases op <;> rfl
  have key : ∃ v, (∀ w, (binOp op xt (.int k n1) (.int k n2)).run P w = .ok v w) ∧ RS w (Gd C s.rows m w) m s.rows.length (.pv true r) v := by
    cases op <;> simp only [binI, Option.some.injEq, Prod.mk.injEq, reduceCtorEq] at hb
    all_goals try (obtain ⟨rfl, rfl⟩ := hb)
    all_goals try simp only [binOp, ne_eq, not_true, if_false, Op.intArith, Op.intCmp, Op.intDiv]
    all_goals first
      | exact ⟨_, fun _ => rfl, .pv _ _ _ (by rw [wrap_in hc]; exact .int _ _)⟩
      | exact ⟨_, fun _ => rfl, .pv _ _ _ (.bool _)⟩
      | (rw [if_neg (by omega)]
         refine ⟨_, fun _ => rfl, .pv _ _ _ ?_⟩
         first
           | (rw [Int.tdiv_eq_ediv_of_nonneg hc.1, wrap_in hc.2.2]; exact .int _ _)
           | (rw [Int.tmod_eq_emod_of_nonneg hc.1]; exact .int _ _))
  obtain ⟨v, hr, hv⟩ := key
  refine ⟨v, fun w' => ?_, hv⟩
  simp only [execOp, e1, e2]
  have := hguard xt w'
  simp [this, hr]

theorem l0_slice_pv {x : Operand} {lo hi : Option Operand} {f : Bool} {nl : Option Bool} {e : Nat} {xs : List PV} {T el : TypeId} {inf : TypeInfo} {l h : Int} 
 (hx : getO s.env x = .pv f (.sl nl e xs)) (hl : bnd s.env lo 0 = some l) (hh : bnd s.env hi xs.length = some h)
 (hT : P.underlying T = some (.slice el)) (hinf : P.info? el = some inf) (hsz : inf.size = e) (h0 : 0 ≤ l) (h1 : l ≤ h) (h2 : h ≤ xs.length) : Lt0 P C s ⟨some t, .slice T x lo hi none, ty, pos, af, none⟩ ((.pv f (.sl nl e ((xs.drop l.toNat).take (h.toNat - l.toNat))))) := by
  intro m a w hs
  have hv := hs.get x
  rw [hx] at hv
  have hv := hv.pv_inv
  obtain ⟨l', rfl⟩ := Int.eq_ofNat_of_zero_le h0
  obtain ⟨h', rfl⟩ := Int.eq_ofNat_of_zero_le (Int.le_trans h0 h1)
  simp only [Int.toNat_natCast] at *
  have hb : ∀ (w1 : World) (len cap : Nat), len = xs.length → h' ≤ cap → (Instr.sliceBounds true len cap (lo.map a.eval) (hi.map a.eval) none).run P w1 = .ok (l', h', cap) w1 := by
    intro w1 len cap hlen hcap
    subst hlen
    have r1 : ∀ y code, l' ≤ y → ∀ o, lo = some o → (Instr.sliceBound (a.eval o) y code).run P w1 = .ok l' w1 := by
      intro y code hy o ho
      subst ho
      simp only [bnd] at hl
      split at hl
      · rename_i f' k' n' he
        simp at hl
        subst hl
        have := hs.bnd_run (P := P) (w1 := w1) (y := y) (code := code) he (by omega) (by omega)
        simpa using this
      · simp at hl
    have r2 : ∀ y code, h' ≤ y → ∀ o, hi = some o → (Instr.sliceBound (a.eval o) y code).run P w1 = .ok h' w1 := by
      intro y code hy o ho
      subst ho
      simp only [bnd] at hh
      split at hh
      · rename_i f' k' n' he
        simp at hh
        subst hh
        have := hs.bnd_run (P := P) (w1 := w1) (y := y) (code := code) he (by omega) (by omega)
        simpa using this
      · simp at hh
    cases lo with
    | none =>
      simp [bnd] at hl
      cases hi with
      | none => simp [bnd] at hh; simp [Instr.sliceBounds]; omega
      | some o => simp [Instr.sliceBounds, r2 _ _ hcap o rfl]; omega
    | some ol =>
      cases hi with
      | none =>
        simp [bnd] at hh
        have hh : xs.length = h' := by omega
        subst hh
        simp [Instr.sliceBounds, r1 xs.length _ (by omega) ol rfl]
      | some o => simp [Instr.sliceBounds, r2 _ _ hcap o rfl, r1 h' _ (by omega) ol rfl]
  generalize hav : a.eval x = v at hv
  have hval : ∀ (ao : Option Addr) (len cap : Nat), v = .slice ao len cap → len = xs.length → len ≤ cap → ∀ w',
      (execOp a.eval ⟨some t, .slice T x lo hi none, ty, pos, af, none⟩).run P w' = .ok (.value (.slice (if cap = l' then ao else ao.map (·.add (l' * e))) (h' - l') (cap - l'))) w' := by
    intro ao len cap e1 e2 e3 w'
    subst e1
    have := hb w' len cap e2 (by omega)
    simp [execOp, Instr.sliceAt, Instr.slice, run_underlying hT, hav, this, sizeOf, typeInfo, hinf, hsz]
  cases hv with
  | nilsl nl e hnl =>
    have hl0 : l' = 0 := by simp at h2; omega
    have hh0 : h' = 0 := by simp at h2; omega
    subst hl0; subst hh0
    refine ⟨_, hval none 0 0 rfl rfl (by omega), ?_⟩
    simp
    exact .pv _ _ _ (.nilsl nl e hnl)
  | sl nl e xs ad len cap fv hnl hsp hlen hcap hg hw hc hr =>
    refine ⟨_, hval (some ad) len cap rfl hlen hcap, ?_⟩
    have hlen2 : ((xs.drop l').take (h' - l')).length = h' - l' := by simp; omega
    have hel : ∀ (i : Nat) (y : PV), ((xs.drop l').take (h' - l'))[i]? = some y → xs[l' + i]? = some y := by
      intro i y hy
      rw [List.getElem?_take] at hy
      split at hy
      · rw [List.getElem?_drop] at hy; exact hy
      · cases hy
    by_cases hcl : cap = l'
    · have e0 : h' - l' = 0 := by omega
      rw [if_pos hcl, e0]
      simp only [List.take_zero]
      exact .pv _ _ _ (.sl nl e [] ad 0 _ (fun _ _ => undef) hnl (fun h => (h rfl).elim) rfl (by omega) (by simp) (by simp) (by simp) (by simp))
    · rw [if_neg hcl]
      by_cases hx0 : xs = []
      · subst hx0
        have e0 : h' - l' = 0 := by simp at h2; omega
        rw [e0]
        simp only [List.drop_nil, List.take_nil, Option.map_some]
        exact .pv _ _ _ (.sl nl e [] _ 0 _ (fun _ _ => undef) hnl (fun h => (h rfl).elim) rfl (by omega) (by simp) (by simp) (by simp) (by simp))
      have hsp := hsp hx0
      have hadd : ad.add (l' * e) = ⟨ad.block, ad.off + l' * e, none⟩ := by
        unfold Addr.add
        split
        · rename_i h0
          rw [h0]
          cases ad
          simp at hsp
          simp [hsp]
        · rw [← hsp]
      simp only [Option.map_some, hadd]
      refine .pv _ _ _ (.sl nl e _ ⟨ad.block, ad.off + l' * e, none⟩ _ _ (fun i j => fv (l' + i) j) hnl (fun _ => rfl) hlen2.symm (by omega) (fun hne => hg (fun h0 => hne (by simp [h0]))) (fun i y hy => hw _ y (hel i y hy)) (fun i y j c hy hcj => ?_) (fun i y j c hy hcj => hr _ y j c (hel i y hy) hcj))
      have := hc _ y j c (hel i y hy) hcj
      rw [← this]
      congr 2
      simp only [Nat.add_mul, Nat.add_assoc]

theorem l0_len_pv {x : Operand} {f : Bool} {nl : Option Bool} {e : Nat} {xs : List PV} {T el : TypeId} (hx : getO s.env x = .pv f (.sl nl e xs)) (hT : P.underlying T = some (.slice el)) : Lt0 P C s ⟨some t, .call ⟨.builtin .len, #[x], #[T]⟩, ty, pos, af, none⟩ ((.pv true (.int .i64 xs.length))) := by
  intro m a w hs
  have hv := hs.get x
  rw [hx] at hv
  have hv := hv.pv_inv
  refine ⟨.int .i64 xs.length, fun _ => ?_, .pv _ _ _ (.int _ _)⟩
  generalize hav : a.eval x = v at hv
  cases hv with
  | nilsl => simp [execOp, resolve, invoke, builtin, Builtin.len_, hav, run_underlying hT, goInt]
  | sl nl e xs ad len cap f h hs' hl => subst hl; simp [execOp, resolve, invoke, builtin, Builtin.len_, hav, run_underlying hT, goInt]

theorem l0_index_pv {x i : Operand} {f f2 : Bool} {nl : Option Bool} {e : Nat} {xs : List PV} {T el : TypeId} {k : IntKind} {n : Int} {inf : TypeInfo} (d : PV) 
 (hx : getO s.env x = .pv f (.sl nl e xs)) (hi : getO s.env i = .pv f2 (.int k n)) (hT : P.underlying T = some (.slice el)) (hinf : P.info? el = some inf) (hsz : inf.size = e)
 (h0 : 0 ≤ n) (hn : n < xs.length) : Lt0 P C s ⟨some t, .indexAddr T x i, ty, pos, af, none⟩ ((.adr f (xs.getD n.toNat d).cells)) := by
  intro m a w hs
  have e2 := hs.int hi
  have hv := hs.get x
  rw [hx] at hv
  have hv := hv.pv_inv
  obtain ⟨j, rfl⟩ := Int.eq_ofNat_of_zero_le h0
  have hj : j < xs.length := by omega
  have hget : xs[j]? = some (xs.getD j d) := by simp [List.getD, List.getElem?_eq_getElem hj]
  generalize hav : a.eval x = v at hv
  cases hv with
  | nilsl => simp at hj
  | sl nl e xs ad len cap fv h hsp hl hcap hg hw hc hr =>
    subst hl
    have hne : xs ≠ [] := by intro h0; subst h0; simp at hj
    have hsp := hsp hne
    refine ⟨.pointer (some (ad.add (j * e))), fun _ => ?_, ?_⟩
    · simp [execOp, Instr.indexAt, hav, e2, asIntOf, run_underlying hT, sizeOf, typeInfo, hinf, hsz, hj]
    · have hadd : ad.add (j * e) = ⟨ad.block, ad.off + j * e, none⟩ := by
        unfold Addr.add
        split
        · rename_i h0
          rw [h0]
          cases ad
          simp at hsp
          simp [hsp]
        · rw [← hsp]
      rw [hadd]
      simp only [Int.toNat_natCast]
      have hfit := hw j _ hget
      refine .adr f _ ⟨ad.block, ad.off + j * e, none⟩ (fv j) rfl (fun _ => hg hne) hfit.2 (fun q c hq => ?_) (fun q c hq => hr j _ q c hget hq)
      exact hc j _ q c hget hq

theorem l0_not {xt : TypeId} {x : Operand} {f : Bool} {b : Bool} (hx : getO s.env x = .pv f (.bool b)) : Lt0 P C s ⟨some t, .unOp .not xt x, ty, pos, af, none⟩ ((.pv true (.bool (!b)))) := by
  intro m a w hs
  have e1 := hs.bool hx
  exact ⟨.bool (!b), fun _ => by simp [execOp, e1, Op.unary], .pv _ _ _ (.bool _)⟩

theorem l0_len_ref {x : Operand} {id : Nat} {R e : Nat} {nl : Option Bool} {xs : List PV} {T el : TypeId} (hx : getO s.env x = .ref id)
 (hrow : (s.rows[id]?).bind Row.sl = some (R, e, nl, xs)) (hT : P.underlying T = some (.slice el)) : Lt0 P C s ⟨some t, .call ⟨.builtin .len, #[x], #[T]⟩, ty, pos, af, none⟩ ((.pv true (.int .i64 xs.length))) := by
  intro m a w hs
  obtain ⟨hv, _⟩ := hs.row hx
  obtain ⟨⟨vals, hown⟩, _, _, _⟩ := hs.sl hrow
  obtain ⟨ao, cap, e1⟩ : ∃ ao cap, (m id).v = .slice ao xs.length cap := by
    rcases hown.2 with ⟨e, hn⟩ | ⟨g, cap, cur, e, _⟩
    · exact ⟨none, 0, by rw [e, hn]⟩
    · exact ⟨_, cap, e⟩
  rw [e1] at hv
  refine ⟨.int .i64 xs.length, fun _ => ?_, .pv _ _ _ (.int _ _)⟩
  simp [execOp, resolve, invoke, builtin, Builtin.len_, hv, run_underlying hT, goInt]

theorem l0_slice_ref {x : Operand} {lo hi : Option Operand} {id R e : Nat} {nl : Option Bool} {xs : List PV} {T el : TypeId} {inf : TypeInfo} {l h : Int}
    (hx : getO s.env x = .ref id) (hrow : (s.rows[id]?).bind Row.sl = some (R, e, nl, xs)) (hl : bnd s.env lo 0 = some l) (hh : bnd s.env hi xs.length = some h)
    (hT : P.underlying T = some (.slice el)) (hinf : P.info? el = some inf) (hsz : inf.size = e) (h0 : 0 ≤ l) (h1 : l ≤ h) (h2 : h ≤ xs.length) :
    Lt0 P C s ⟨some t, .slice T x lo hi none, ty, pos, af, none⟩ (.sub id e l.toNat h.toNat xs.length) := by
  intro m a w hs
  obtain ⟨hv, hid⟩ := hs.row hx
  obtain ⟨⟨vals, hown⟩, _, _, _⟩ := hs.sl hrow
  obtain ⟨l', rfl⟩ := Int.eq_ofNat_of_zero_le h0
  obtain ⟨h', rfl⟩ := Int.eq_ofNat_of_zero_le (Int.le_trans h0 h1)
  simp only [Int.toNat_natCast]
  have g1 : l' ≤ h' := by omega
  have g2 : h' ≤ xs.length := by omega
  rcases hown.2 with ⟨e0, hn0⟩ | ⟨g, cap, cur, e0, _, hh', hle, hmx, hsz', htk⟩
  · have hb := fun w1 => sliceBounds_ok (P := P) (w1 := w1) (len := 0) (cap := 0) hs hl hh (fun _ => hn0.symm) g1 (by omega)
    have hl0 : l' = 0 := by omega
    have hh0 : h' = 0 := by omega
    subst hl0; subst hh0
    rw [e0] at hv
    refine ⟨.slice none 0 0, fun w1 => ?_, .sub id e 0 0 xs.length _ hid (.inl ⟨e0, rfl, rfl, hn0, rfl⟩)⟩
    simp [execOp, Instr.sliceAt, Instr.slice, run_underlying hT, hv, hb w1, sizeOf, typeInfo, hinf, hsz]
  · have hb := fun w1 => sliceBounds_ok (P := P) (w1 := w1) (len := xs.length) (cap := cap) hs hl hh (fun _ => rfl) g1 (by omega)
    rw [e0] at hv
    refine ⟨.slice (some (if cap = l' then ⟨g, 0, none⟩ else ⟨g, l' * e, none⟩)) (h' - l') (cap - l'), fun w1 => ?_, .sub id e l' h' xs.length _ hid (.inr ⟨g, xs.length, cap, e0, g1, g2, hle, rfl⟩)⟩
    have hA : (if cap = l' then some (⟨g, 0, none⟩ : Addr) else some ((⟨g, 0, none⟩ : Addr).add (l' * e))) = some (if cap = l' then ⟨g, 0, none⟩ else ⟨g, l' * e, none⟩) := by
      split <;> simp [addr_mul]
    simp [execOp, Instr.sliceAt, Instr.slice, run_underlying hT, hv, hb w1, sizeOf, typeInfo, hinf, hsz, hA]
end
end Go.Vl

namespace Go.Vl
set_option linter.unusedVariables false
set_option linter.unusedSimpArgs false
open Go.Proofs

theorem VOps_del {l : List OpM} {k a b : Nat} (h : VOps l) (hk : k ≤ a) : VOps (l.take k ++ (l.drop a).take b) := by
  refine ⟨?_, fun o ho => h.2 o ?_⟩
  · rw [List.length_append, List.length_take, List.length_take, List.length_drop]; have := h.1; omega
  rcases List.mem_append.1 ho with ho | ho
  · exact List.mem_of_mem_take ho
  · exact List.mem_of_mem_drop (List.mem_of_mem_take ho)

theorem someOps_sat {nl : Option Bool} {c : List (Fin 256)} {p : Nat} (hc : c.length ≤ 2000) (hp : p < 999000) : SatAt Try.prog 52 [.ptr 0 0 0 0] [rdr nl c p] (fun res rows => ∃ (l : List OpM) (q : Nat), (l.length ≤ 20 ∧ q ≤ p + 300) ∧ res = [.ref 1] ∧ rows = [rdr nl c q, Row.own 46 4 (some false) true (l.map opP)]) := by
  refine sat_entry_G (rs := [(2, none)]) Try.func52 rfl rfl (Nat.le_of_ble_eq_true rfl) (Nat.le_of_ble_eq_true rfl) (resTs1 trivial) fun C hC => ?_
  rw [Try.ntmps52]
  replace hC : C.nb = 1 := hC
  refine vc_seq fun K1 hK1 => ?_
  refine vc_region ?_
  refine vo_assign_pv rfl rfl ?_
  refine vo_nil ?_
  refine hK1 _ ?_
  refine vc_seq fun K2 hK2 => ?_
  refine vc_region ?_
  refine vo_buildSlice E23 rfl rfl rfl rfl rfl ?_
  refine vo_stM ?_
  refine vo_assign_ref rfl rfl ?_
  refine vo_nil ?_
  refine hK2 _ ?_
  refine vc_seq fun K3 hK3 => ?_
  refine vc_seq fun K4 hK4 => ?_
  refine vc_region ?_
  refine vo_move_ptr rfl rfl ?_
  refine vo_buildSlice E50 rfl rfl rfl rfl rfl ?_
  refine vo_stM ?_
  refine vo_expose 2 (by omega) rfl ?_
  refine vo_stM ?_
  refine vo_weaken 7 rfl ?_
  refine vo_stM ?_
  refine vo_call [0] Try.func65 rfl rfl rfl rfl rfl rfl rfl (one_sat (list := [_,_,_,_,_,_]) hc (by omega) (by simp) (by simp)) ?_
  rintro _ _ ⟨y8, hy8, rfl, rfl⟩
  refine ⟨Nat.le_of_ble_eq_true rfl, ⟨rfl, rfl, rfl, rfl⟩, .inl rfl, ?_⟩
  refine vo_stM ?_
  refine vo_assign_pv rfl rfl ?_
  refine vo_nil ?_
  refine hK4 _ ?_
  refine vc_block ?_
  refine vc_stM ?_
  refine vc_loopE [0] [3, 4] [0, 1] _ _ (fun mz vs rs => ∃ (l : List OpM) (q : Nat) (n : Int), mz = n.toNat ∧ ((0 ≤ n ∧ l.length + n ≤ 20)) ∧ ((q + 7 * n ≤ p + 200)) ∧ vs = [.ref 1, i64 n] ∧ rs = [rdr nl c q, Row.own 46 4 (some false) true (l.map opP)]) (y8.toNat) rfl rfl (le_len hC rfl) ⟨rfl, rfl, rfl⟩ rfl ⟨[], p+1, y8, rfl, (by simp at hy8; simp; omega), (by simp at hy8; omega), rfl, rfl⟩ ?_
  rintro mz vs rs - - ⟨l, q, n, rfl, hn, hq, rfl, rfl⟩
  refine vc_stM ?_
  refine vc_seq fun K5 hK5 => ?_
  refine vc_seq fun K6 hK6 => ?_
  refine vc_region ?_
  refine vo_move_pv rfl rfl ?_
  refine vo_binI rfl rfl rfl rfl trivial ?_
  refine vo_nil ?_
  refine hK6 _ ?_
  refine vc_cond rfl (fun hc1 => ?_) (fun hc1 => ?_)
  · try simp only [decide_eq_true_eq, decide_eq_false_iff_not, beq_iff_eq, bne_iff_ne, beq_eq_false_iff_ne, bne_eq_false_iff_eq, Bool.not_eq_true, Bool.not_eq_false, Bool.not_eq_eq_eq_not, Bool.not_true, Bool.not_false, List.length_map, Int.not_lt, Int.not_le, ne_eq, Decidable.not_not] at hc1
    refine vc_skip ?_
    refine hK5 _ ?_
    refine vc_seq fun K7 hK7 => ?_
    refine vc_block ?_
    refine vc_region ?_
    refine vo_move_ref rfl rfl ?_
    refine vo_move_ptr rfl rfl ?_
    refine vo_move_ptr rfl rfl ?_
    refine vo_call [0] Try.func58 rfl rfl rfl rfl rfl rfl rfl (pick_sat hc (by omega)) ?_
    rintro _ _ ⟨x16, ⟨hx160, hx161⟩, rfl, rfl⟩
    refine ⟨Nat.le_of_ble_eq_true rfl, ⟨rfl, rfl, rfl, rfl⟩, .inl rfl, ?_⟩
    refine vo_stM ?_
    refine vo_buildSlice E50 rfl rfl rfl rfl rfl ?_
    refine vo_stM ?_
    refine vo_expose 3 (by omega) rfl ?_
    refine vo_stM ?_
    refine vo_weaken 17 rfl ?_
    refine vo_stM ?_
    refine vo_call [0] Try.func65 rfl rfl rfl rfl rfl rfl rfl (one_sat (list := [_,_,_,_]) hc (by omega) (by simp) (by simp)) ?_
    rintro _ _ ⟨y18, hy18, rfl, rfl⟩
    refine ⟨Nat.le_of_ble_eq_true rfl, ⟨rfl, rfl, rfl, rfl⟩, .inl rfl, ?_⟩
    refine vo_stM ?_
    refine vo_move_ptr rfl rfl ?_
    refine vo_move_ptr rfl rfl ?_
    refine vo_call [0] Try.func58 rfl rfl rfl rfl rfl rfl rfl (pick_sat hc (by omega)) ?_
    rintro _ _ ⟨x21, ⟨hx210, hx211⟩, rfl, rfl⟩
    refine ⟨Nat.le_of_ble_eq_true rfl, ⟨rfl, rfl, rfl, rfl⟩, .inl rfl, ?_⟩
    refine vo_stM ?_
    refine vo_buildSlice E50 rfl rfl rfl rfl rfl ?_
    refine vo_stM ?_
    refine vo_expose 4 (by omega) rfl ?_
    refine vo_stM ?_
    refine vo_weaken 22 rfl ?_
    refine vo_stM ?_
    refine vo_call [0] Try.func65 rfl rfl rfl rfl rfl rfl rfl (one_sat (list := [_,_,_,_,_]) hc (by omega) (by simp) (by simp)) ?_
    rintro _ _ ⟨y23, hy23, rfl, rfl⟩
    refine ⟨Nat.le_of_ble_eq_true rfl, ⟨rfl, rfl, rfl, rfl⟩, .inl rfl, ?_⟩
    refine vo_stM ?_
    refine vo_move_ptr rfl rfl ?_
    refine vo_call [0] Try.func58 rfl rfl rfl rfl rfl rfl rfl (pick_sat hc (by omega)) ?_
    rintro _ _ ⟨x25, ⟨hx250, hx251⟩, rfl, rfl⟩
    refine ⟨Nat.le_of_ble_eq_true rfl, ⟨rfl, rfl, rfl, rfl⟩, .inl rfl, ?_⟩
    refine vo_stM ?_
    refine vo_move_ptr rfl rfl ?_
    refine vo_call [0] Try.func58 rfl rfl rfl rfl rfl rfl rfl (pick_sat hc (by omega)) ?_
    rintro _ _ ⟨x27, ⟨hx270, hx271⟩, rfl, rfl⟩
    refine ⟨Nat.le_of_ble_eq_true rfl, ⟨rfl, rfl, rfl, rfl⟩, .inl rfl, ?_⟩
    refine vo_stM ?_
    refine vo_binI rfl rfl rfl rfl trivial ?_
    refine vo_build S46 rfl rfl rfl ?_
    refine vo_stM ?_
    refine vo_buildSlice E23 rfl rfl rfl rfl rfl ?_
    refine vo_stM ?_
    refine vo_append E23 rfl (by omega) rfl rfl rfl sd sd ?_
    refine vo_stM ?_
    try simp only [app_ints, app_intss, app_bools]
    refine vo_assign_ref rfl rfl ?_
    refine vo_nil ?_
    refine hK7 _ ?_
    refine vc_region ?_
    refine vo_move_pv rfl rfl ?_
    refine vo_binI rfl rfl rfl rfl sd ?_
    refine vo_assign_pv rfl rfl ?_
    refine vo_nil ?_
    change againE _ _ _ _ _ _ _ _ _ _
    refine againE_mk rfl rfl rfl rfl rfl rfl ⟨_, ?_, l ++ [⟨y18, y23, x25, decide (x27 = 0)⟩], q + 6, n - 1, rfl, ?_, ?_, rfl, (by simp only [List.map_append]; rfl)⟩
    · omega
    · refine ⟨by omega, ?_⟩; rw [List.length_append, List.length_singleton]; omega
    · omega
  · try simp only [decide_eq_true_eq, decide_eq_false_iff_not, beq_iff_eq, bne_iff_ne, beq_eq_false_iff_ne, bne_eq_false_iff_eq, Bool.not_eq_true, Bool.not_eq_false, Bool.not_eq_eq_eq_not, Bool.not_true, Bool.not_false, List.length_map, Int.not_lt, Int.not_le, ne_eq, Decidable.not_not] at hc1
    refine vc_exit ?_
    refine hK3 _ ?_
    refine vc_seq fun K8 hK8 => ?_
    refine vc_seq fun K9 hK9 => ?_
    refine vc_region ?_
    refine vo_move_ref rfl rfl ?_
    refine vo_len_ref rfl rfl rfl Try.underlying23 ?_
    refine vo_binI rfl rfl rfl rfl trivial ?_
    refine vo_move_pv rfl rfl ?_
    refine vo_split 35 rfl (fun hg2 => ?_) (fun hg2 => ?_)
    · try simp only [decide_eq_true_eq, decide_eq_false_iff_not, beq_iff_eq, bne_iff_ne, beq_eq_false_iff_ne, bne_eq_false_iff_eq, Bool.not_eq_true, Bool.not_eq_false, Bool.not_eq_eq_eq_not, Bool.not_true, Bool.not_false, List.length_map, Int.not_lt, Int.not_le, ne_eq, Decidable.not_not] at hg2
      obtain ⟨o, l, rfl⟩ := List.exists_cons_of_length_pos (show 0 < l.length by omega)
      have hl9 : (o :: l).length ≤ 20 := by omega
      refine vo_guard_on rfl rfl rfl ?_
      refine vo_move_ptr rfl rfl ?_
      refine vo_guard_on rfl rfl rfl ?_
      refine vo_call [0] Try.func58 rfl rfl rfl rfl rfl rfl rfl (pick_sat hc (by omega)) ?_
      rintro _ _ ⟨x37, ⟨hx370, hx371⟩, rfl, rfl⟩
      refine ⟨Nat.le_of_ble_eq_true rfl, ⟨rfl, rfl, rfl, rfl⟩, .inl rfl, ?_⟩
      refine vo_stM ?_
      refine vo_guard_on rfl rfl rfl ?_
      refine vo_binI rfl rfl rfl rfl trivial ?_
      refine vo_pick_t rfl rfl ?_
      refine vo_nil ?_
      refine hK9 _ ?_
      refine vc_cond rfl (fun hc3 => ?_) (fun hc3 => ?_)
      · try simp only [decide_eq_true_eq, decide_eq_false_iff_not, beq_iff_eq, bne_iff_ne, beq_eq_false_iff_ne, bne_eq_false_iff_eq, Bool.not_eq_true, Bool.not_eq_false, Bool.not_eq_eq_eq_not, Bool.not_true, Bool.not_false, List.length_map, Int.not_lt, Int.not_le, ne_eq, Decidable.not_not] at hc3
        refine vc_region ?_
        refine vo_move_ref rfl rfl ?_
        refine vo_move_ptr rfl rfl ?_
        refine vo_buildSlice E50 rfl rfl rfl rfl rfl ?_
        refine vo_stM ?_
        refine vo_expose 3 (by omega) rfl ?_
        refine vo_stM ?_
        refine vo_weaken 42 rfl ?_
        refine vo_stM ?_
        refine vo_call [0] Try.func65 rfl rfl rfl rfl rfl rfl rfl (one_sat (list := [_,_]) hc (by omega) (by simp) (by simp)) ?_
        rintro _ _ ⟨y43, hy43, rfl, rfl⟩
        refine ⟨Nat.le_of_ble_eq_true rfl, ⟨rfl, rfl, rfl, rfl⟩, .inl rfl, ?_⟩
        refine vo_stM ?_
        refine vo_index_ref rfl rfl rfl rfl E23.und inf46 sz46 sd sd ?_
        try simp only [Int.toNat_natCast]
        refine vo_fieldAddr_ptr rfl rfl Try.underlying46 rfl inf3 (by rw [sz3]; decide) ?_
        try simp only [Nat.zero_add]
        refine vo_store_ownC rfl rfl rfl rfl inf3 sz3 rfl rfl ?_
        try simp only [List.set_cons_zero, List.set_cons_succ, Int.toNat_natCast, Int.toNat_zero]
        refine vo_stM ?_
        refine vo_nil ?_
        refine hK8 _ ?_
        refine vc_seq fun K10 hK10 => ?_
        refine vc_region ?_
        refine vo_move_ref rfl rfl ?_
        refine vo_assign_ref rfl rfl ?_
        refine vo_nil ?_
        refine hK10 _ ?_
        refine vc_ret ?_
        change retQ _ _ _ _ _
        refine retQ_sel [1] (srows := [_]) (.inr rfl) hC rfl rfl rfl rfl rfl rfl rfl ?_
        exact ⟨⟨o.who, y43, o.value, o.gone⟩ :: l, _, ⟨hl9, by omega⟩, rfl, rfl⟩
      · try simp only [decide_eq_true_eq, decide_eq_false_iff_not, beq_iff_eq, bne_iff_ne, beq_eq_false_iff_ne, bne_eq_false_iff_eq, Bool.not_eq_true, Bool.not_eq_false, Bool.not_eq_eq_eq_not, Bool.not_true, Bool.not_false, List.length_map, Int.not_lt, Int.not_le, ne_eq, Decidable.not_not] at hc3
        refine vc_skip ?_
        refine hK8 _ ?_
        refine vc_seq fun K11 hK11 => ?_
        refine vc_region ?_
        refine vo_move_ref rfl rfl ?_
        refine vo_assign_ref rfl rfl ?_
        refine vo_nil ?_
        refine hK11 _ ?_
        refine vc_ret ?_
        change retQ _ _ _ _ _
        refine retQ_sel [1] (srows := [_]) (.inr rfl) hC rfl rfl rfl rfl rfl rfl rfl ?_
        exact ⟨o :: l, _, ⟨hl9, by omega⟩, rfl, rfl⟩
    · try simp only [decide_eq_true_eq, decide_eq_false_iff_not, beq_iff_eq, bne_iff_ne, beq_eq_false_iff_ne, bne_eq_false_iff_eq, Bool.not_eq_true, Bool.not_eq_false, Bool.not_eq_eq_eq_not, Bool.not_true, Bool.not_false, List.length_map, Int.not_lt, Int.not_le, ne_eq, Decidable.not_not] at hg2
      refine vo_guard_off rfl rfl rfl rfl rfl ?_
      refine vo_guard_off rfl rfl rfl rfl rfl ?_
      refine vo_guard_off rfl rfl rfl rfl rfl ?_
      refine vo_pick_f rfl rfl ?_
      refine vo_nil ?_
      refine hK9 _ ?_
      refine vc_cond_f rfl ?_
      refine vc_skip ?_
      refine hK8 _ ?_
      refine vc_seq fun K12 hK12 => ?_
      refine vc_region ?_
      refine vo_move_ref rfl rfl ?_
      refine vo_assign_ref rfl rfl ?_
      refine vo_nil ?_
      refine hK12 _ ?_
      refine vc_ret ?_
      change retQ _ _ _ _ _
      refine retQ_sel [1] (srows := [_]) (.inr rfl) hC rfl rfl rfl rfl rfl rfl rfl ?_
      exact ⟨l, _, ⟨by omega, by omega⟩, rfl, rfl⟩


theorem DrawValidOps_sat {nl : Option Bool} {c : List (Fin 256)} (hl : c.length < 1000000000) : SatAt Try.prog 15 [.pv false (.sl nl 1 (c.map byteP))] [] (fun res rows => ∃ l : List OpM, l.length ≤ 20 ∧ res = [.pv true (.sl (some false) 4 (l.map opP))] ∧ rows = []) := by
  refine sat_entry_G (rs := [(2, none)]) Try.func15 rfl rfl (Nat.le_of_ble_eq_true rfl) (Nat.le_of_ble_eq_true rfl) (resTs1 trivial) fun C hC => ?_
  rw [Try.ntmps15]
  replace hC : C.nb = 0 := hC
  refine vc_seq fun K1 hK1 => ?_
  refine vc_region ?_
  refine vo_assign_pv rfl rfl ?_
  refine vo_nil ?_
  refine hK1 _ ?_
  refine vc_seq fun K2 hK2 => ?_
  refine vc_region ?_
  refine vo_move_pv rfl rfl ?_
  refine vo_call [] Try.func53 rfl rfl rfl rfl rfl rfl rfl (newReader_sat (by omega)) ?_
  rintro _ _ ⟨nl2, c2, hc, rfl, rfl⟩
  refine ⟨Nat.le_of_ble_eq_true rfl, ⟨rfl, rfl, rfl, rfl⟩, .inl rfl, ?_⟩
  refine vo_stM ?_
  refine vo_call [0] Try.func52 rfl rfl rfl rfl rfl rfl rfl (someOps_sat hc (by omega)) ?_
  rintro _ _ ⟨l, q, ⟨hl1, hq⟩, rfl, rfl⟩
  refine ⟨Nat.le_of_ble_eq_true rfl, ⟨rfl, rfl, rfl, rfl⟩, .inl rfl, ?_⟩
  refine vo_stM ?_
  refine vo_assign_ref rfl rfl ?_
  refine vo_nil ?_
  refine hK2 _ ?_
  refine vc_expose 1 (by omega) rfl ?_
  refine vc_stM ?_
  refine vc_ret ?_
  change retQ _ _ _ _ _
  refine retQ_sel [] (srows := []) (.inr rfl) hC rfl rfl rfl rfl rfl rfl rfl ?_
  exact ⟨l, hl1, rfl, rfl⟩


theorem FnValidOps_sat {nl : Option Bool} {code : List (Fin 256)} : SatAt Try.prog 3 [.pv false (.sl nl 1 (code.map byteP))] [] (fun res rows => res = [bo true] ∧ rows = []) := by
  refine sat_entry_G (rs := [(2, none)]) Try.func3 rfl rfl (Nat.le_of_ble_eq_true rfl) (Nat.le_of_ble_eq_true rfl) (resTs1 trivial) fun C hC => ?_
  rw [Try.ntmps3]
  replace hC : C.nb = 0 := hC
  refine vc_seq fun K1 hK1 => ?_
  refine vc_region ?_
  refine vo_assign_pv rfl rfl ?_
  refine vo_nil ?_
  refine hK1 _ ?_
  refine vc_seq fun K2 hK2 => ?_
  refine vc_seq fun K3 hK3 => ?_
  refine vc_region ?_
  refine vo_move_pv rfl rfl ?_
  refine vo_len_pv rfl rfl Try.underlying22 ?_
  refine vo_binI rfl rfl rfl rfl trivial ?_
  refine vo_nil ?_
  refine hK3 _ ?_
  refine vc_cond rfl (fun hc1 => ?_) (fun hc1 => ?_)
  · try simp only [decide_eq_true_eq, decide_eq_false_iff_not, beq_iff_eq, bne_iff_ne, beq_eq_false_iff_ne, bne_eq_false_iff_eq, Bool.not_eq_true, Bool.not_eq_false, Bool.not_eq_eq_eq_not, Bool.not_true, Bool.not_false, List.length_map, Int.not_lt, Int.not_le, ne_eq, Decidable.not_not] at hc1
    refine vc_seq fun K4 hK4 => ?_
    refine vc_region ?_
    refine vo_assign_pv rfl rfl ?_
    refine vo_nil ?_
    refine hK4 _ ?_
    refine vc_ret ?_
    change retQ _ _ _ _ _
    refine retQ_sel [] (srows := []) (.inr rfl) hC rfl rfl rfl rfl rfl rfl rfl ?_
    exact ⟨rfl, rfl⟩
  · try simp only [decide_eq_true_eq, decide_eq_false_iff_not, beq_iff_eq, bne_iff_ne, beq_eq_false_iff_ne, bne_eq_false_iff_eq, Bool.not_eq_true, Bool.not_eq_false, Bool.not_eq_eq_eq_not, Bool.not_true, Bool.not_false, List.length_map, Int.not_lt, Int.not_le, ne_eq, Decidable.not_not] at hc1
    have hlen : code.length ≤ 1048576 := by omega
    refine vc_skip ?_
    refine hK2 _ ?_
    refine vc_seq fun K5 hK5 => ?_
    refine vc_region ?_
    refine vo_move_pv rfl rfl ?_
    refine vo_call0 Try.func15 rfl rfl rfl rfl (DrawValidOps_sat (by omega)) ?_
    rintro _ _ ⟨l, hl1, rfl, rfl⟩
    refine ⟨rfl, rfl, .inl rfl, ?_⟩
    refine vo_stM ?_
    refine vo_assign_pv rfl rfl ?_
    refine vo_nil ?_
    refine hK5 _ ?_
    refine vc_seq fun K6 hK6 => ?_
    refine vc_region ?_
    refine vo_move_pv rfl rfl ?_
    refine vo_call0 Try.func16 rfl rfl rfl rfl (implValidOps_sat (by omega)) ?_
    rintro _ _ ⟨rfl, rfl⟩
    refine ⟨rfl, rfl, .inl rfl, ?_⟩
    refine vo_stM ?_
    refine vo_assign_pv rfl rfl ?_
    refine vo_nil ?_
    refine hK6 _ ?_
    refine vc_seq fun K7 hK7 => ?_
    refine vc_seq fun K8 hK8 => ?_
    refine vc_region ?_
    refine vo_move_pv rfl rfl ?_
    refine vo_move_pv rfl rfl ?_
    refine vo_call0 Try.func17 rfl rfl rfl rfl (specValidOps_sat (by omega)) ?_
    rintro _ _ ⟨rfl, rfl⟩
    refine ⟨rfl, rfl, .inl rfl, ?_⟩
    refine vo_stM ?_
    refine vo_binB rfl rfl rfl rfl Try.underlying4 ?_
    refine vo_move_pv rfl rfl ?_
    refine vo_split 17 rfl (fun hg2 => ?_) (fun hg2 => ?_)
    · try simp only [decide_eq_true_eq, decide_eq_false_iff_not, beq_iff_eq, bne_iff_ne, beq_eq_false_iff_ne, bne_eq_false_iff_eq, Bool.not_eq_true, Bool.not_eq_false, Bool.not_eq_eq_eq_not, Bool.not_true, Bool.not_false, List.length_map, Int.not_lt, Int.not_le, ne_eq, Decidable.not_not] at hg2
      refine vo_guard_off rfl rfl rfl rfl rfl ?_
      refine vo_guard_off rfl rfl rfl rfl rfl ?_
      refine vo_pick_t rfl rfl ?_
      refine vo_nil ?_
      refine hK8 _ ?_
      refine vc_cond_t rfl ?_
      refine vc_seq fun K9 hK9 => ?_
      refine vc_region ?_
      refine vo_move_pv rfl rfl ?_
      refine vo_move_pv rfl rfl ?_
      refine vo_call0 Try.func17 rfl rfl rfl rfl (specValidOps_sat (by omega)) ?_
      rintro _ _ ⟨rfl, rfl⟩
      refine ⟨rfl, rfl, .inl rfl, ?_⟩
      refine vo_stM ?_
      refine vo_binB rfl rfl rfl rfl Try.underlying4 ?_
      refine vo_assign_pv rfl rfl ?_
      refine vo_nil ?_
      refine hK9 _ ?_
      refine vc_ret ?_
      change retQ _ _ _ _ _
      refine retQ_sel [] (srows := []) (.inr rfl) hC rfl rfl rfl rfl rfl rfl rfl ?_
      first | exact absurd trivial hg2 | (exfalso; exact absurd (VOps_del hc3 (by omega)) hc5) | (refine ⟨(congrArg (fun b => [bo b]) (?_ : _ = true) : [bo _] = [bo true]), rfl⟩; simp)
    · try simp only [decide_eq_true_eq, decide_eq_false_iff_not, beq_iff_eq, bne_iff_ne, beq_eq_false_iff_ne, bne_eq_false_iff_eq, Bool.not_eq_true, Bool.not_eq_false, Bool.not_eq_eq_eq_not, Bool.not_true, Bool.not_false, List.length_map, Int.not_lt, Int.not_le, ne_eq, Decidable.not_not] at hg2
      refine vo_guard_on rfl rfl rfl ?_
      refine vo_move_pv rfl rfl ?_
      refine vo_guard_on rfl rfl rfl ?_
      refine vo_not rfl rfl ?_
      refine vo_pick_f rfl rfl ?_
      refine vo_nil ?_
      refine hK8 _ ?_
      refine vc_cond rfl (fun hc3 => ?_) (fun hc3 => ?_)
      · try simp only [decide_eq_true_eq, decide_eq_false_iff_not, beq_iff_eq, bne_iff_ne, beq_eq_false_iff_ne, bne_eq_false_iff_eq, Bool.not_eq_true, Bool.not_eq_false, Bool.not_eq_eq_eq_not, Bool.not_true, Bool.not_false, List.length_map, Int.not_lt, Int.not_le, ne_eq, Decidable.not_not] at hc3
        refine vc_seq fun K10 hK10 => ?_
        refine vc_region ?_
        refine vo_move_pv rfl rfl ?_
        refine vo_move_pv rfl rfl ?_
        refine vo_call0 Try.func17 rfl rfl rfl rfl (specValidOps_sat (by omega)) ?_
        rintro _ _ ⟨rfl, rfl⟩
        refine ⟨rfl, rfl, .inl rfl, ?_⟩
        refine vo_stM ?_
        refine vo_binB rfl rfl rfl rfl Try.underlying4 ?_
        refine vo_assign_pv rfl rfl ?_
        refine vo_nil ?_
        refine hK10 _ ?_
        refine vc_ret ?_
        change retQ _ _ _ _ _
        refine retQ_sel [] (srows := []) (.inr rfl) hC rfl rfl rfl rfl rfl rfl rfl ?_
        first | exact absurd trivial hg2 | (exfalso; exact absurd (VOps_del hc3 (by omega)) hc5) | (refine ⟨(congrArg (fun b => [bo b]) (?_ : _ = true) : [bo _] = [bo true]), rfl⟩; simp)
      · try simp only [decide_eq_true_eq, decide_eq_false_iff_not, beq_iff_eq, bne_iff_ne, beq_eq_false_iff_ne, bne_eq_false_iff_eq, Bool.not_eq_true, Bool.not_eq_false, Bool.not_eq_eq_eq_not, Bool.not_true, Bool.not_false, List.length_map, Int.not_lt, Int.not_le, ne_eq, Decidable.not_not] at hc3
        refine vc_skip ?_
        refine hK7 _ ?_
        refine vc_seq fun K11 hK11 => ?_
        refine vc_seq fun K12 hK12 => ?_
        refine vc_region ?_
        refine vo_assign_pv rfl rfl ?_
        refine vo_nil ?_
        refine hK12 _ ?_
        refine vc_block ?_
        refine vc_stM ?_
        refine vc_loopE [3] [5] [] _ _ (fun mz vs rs => ∃ (k : Nat), mz = l.length - k ∧ (k ≤ l.length) ∧ vs = [i64 k] ∧ rs = []) (l.length) rfl rfl (le_len hC rfl) ⟨rfl, rfl, rfl⟩ rfl ⟨0, rfl, Nat.zero_le _, rfl, rfl⟩ ?_
        rintro mz vs rs - - ⟨k, rfl, hk, rfl, rfl⟩
        refine vc_stM ?_
        refine vc_seq fun K13 hK13 => ?_
        refine vc_seq fun K14 hK14 => ?_
        refine vc_region ?_
        refine vo_move_pv rfl rfl ?_
        refine vo_move_pv rfl rfl ?_
        refine vo_len_pv rfl rfl Try.underlying23 ?_
        refine vo_binI rfl rfl rfl rfl trivial ?_
        refine vo_nil ?_
        refine hK14 _ ?_
        refine vc_cond rfl (fun hc4 => ?_) (fun hc4 => ?_)
        · try simp only [decide_eq_true_eq, decide_eq_false_iff_not, beq_iff_eq, bne_iff_ne, beq_eq_false_iff_ne, bne_eq_false_iff_eq, Bool.not_eq_true, Bool.not_eq_false, Bool.not_eq_eq_eq_not, Bool.not_true, Bool.not_false, List.length_map, Int.not_lt, Int.not_le, ne_eq, Decidable.not_not] at hc4
          refine vc_skip ?_
          refine hK13 _ ?_
          refine vc_seq fun K15 hK15 => ?_
          refine vc_block ?_
          refine vc_seq fun K16 hK16 => ?_
          refine vc_drawL [0, 4, 9, 10] (by kernel_rfl) ?_
          change VL [0, 4, 9, 10] _ _ _ 12 _ _ _
          refine vl_light0 1 rfl rfl rfl (by kernel_rfl) (by kernel_rfl) (by kernel_rfl) (wnt_none rfl) (l0_move_pv rfl) ?_
          refine vl_light0 2 rfl rfl rfl (by kernel_rfl) (by kernel_rfl) (by kernel_rfl) (wnt_none rfl) (l0_move_pv rfl) ?_
          refine vl_light0 3 rfl rfl rfl (by kernel_rfl) (by kernel_rfl) (by kernel_rfl) (wnt_none rfl) (l0_slice_pv rfl rfl rfl E23.und inf46 sz46 sd sd sd) ?_
          simp only [Int.toNat_natCast, Int.toNat_zero, List.drop_zero, Nat.sub_zero, ← List.map_drop, ← List.map_take]
          refine vl_light0 5 rfl rfl rfl (by kernel_rfl) (by kernel_rfl) (by kernel_rfl) (wnt_none rfl) (l0_move_pv rfl) ?_
          refine vl_light0 6 rfl rfl rfl (by kernel_rfl) (by kernel_rfl) (by kernel_rfl) (wnt_none rfl) (l0_move_pv rfl) ?_
          refine vl_light0 7 rfl rfl rfl (by kernel_rfl) (by kernel_rfl) (by kernel_rfl) (wnt_none rfl) (l0_binI rfl rfl rfl sd) ?_
          refine vl_light0 8 rfl rfl rfl (by kernel_rfl) (by kernel_rfl) (by kernel_rfl) (wnt_none rfl) (l0_slice_pv rfl rfl rfl E23.und inf46 sz46 sd sd sd) ?_
          simp only [Int.toNat_natCast, Int.toNat_zero, List.drop_zero, Nat.sub_zero, ← List.map_drop, ← List.map_take]
          refine vl_one 0 rfl (by kernel_rfl) rfl ?_
          refine vo_buildSlice E23 rfl rfl rfl rfl rfl ?_
          refine vo_stM ?_
          refine vo_done ⟨rfl, ?_⟩
          refine vl_one 4 rfl (by kernel_rfl) rfl ?_
          refine vo_append E23 rfl (by omega) rfl rfl rfl sd sd ?_
          refine vo_stM ?_
          try simp only [app_ints, app_intss, app_bools, List.nil_append, ← List.map_take, ← List.map_drop, ← List.map_append]
          refine vo_done ⟨rfl, ?_⟩
          refine vl_one 9 rfl (by kernel_rfl) rfl ?_
          refine vo_append E23 rfl (by omega) rfl rfl rfl sd sd ?_
          refine vo_stM ?_
          try simp only [app_ints, app_intss, app_bools, List.nil_append, ← List.map_take, ← List.map_drop, ← List.map_append]
          refine vo_done ⟨rfl, ?_⟩
          refine vl_one 10 rfl (by kernel_rfl) rfl ?_
          refine vo_expose 0 (by omega) rfl ?_
          refine vo_stM ?_
          refine vo_weaken 40 rfl ?_
          refine vo_stM ?_
          refine vo_call0 Try.func16 rfl rfl rfl rfl (implValidOps_sat (list := l.take k ++ (l.drop ((k : Int) + 1).toNat).take ((l.map opP).length - ((k : Int) + 1).toNat)) (by rw [List.length_append, List.length_take, List.length_take, List.length_drop]; omega)) ?_
          rintro _ _ ⟨rfl, rfl⟩
          refine ⟨rfl, rfl, .inl rfl, ?_⟩
          refine vo_stM ?_
          refine vo_done ⟨rfl, ?_⟩
          refine vl_light0 11 rfl rfl rfl (by kernel_rfl) (by kernel_rfl) (by kernel_rfl) (wnt_none rfl) (l0_not rfl) ?_
          refine vl_nil (by kernel_rfl) ?_
          refine hK16 _ ?_
          refine vc_cond rfl (fun hc5 => ?_) (fun hc5 => ?_)
          · try simp only [decide_eq_true_eq, decide_eq_false_iff_not, beq_iff_eq, bne_iff_ne, beq_eq_false_iff_ne, bne_eq_false_iff_eq, Bool.not_eq_true, Bool.not_eq_false, Bool.not_eq_eq_eq_not, Bool.not_true, Bool.not_false, List.length_map, Int.not_lt, Int.not_le, ne_eq, Decidable.not_not] at hc5
            refine vc_seq fun K17 hK17 => ?_
            refine vc_region ?_
            refine vo_assign_pv rfl rfl ?_
            refine vo_nil ?_
            refine hK17 _ ?_
            refine vc_ret ?_
            change retQ _ _ _ _ _
            refine retQ_sel [] (srows := []) (.inr rfl) hC rfl rfl rfl rfl rfl rfl rfl ?_
            first | exact absurd trivial hg2 | (exfalso; exact absurd (VOps_del hc3 (by omega)) hc5) | (refine ⟨(congrArg (fun b => [bo b]) (?_ : _ = true) : [bo _] = [bo true]), rfl⟩; simp)
          · try simp only [decide_eq_true_eq, decide_eq_false_iff_not, beq_iff_eq, bne_iff_ne, beq_eq_false_iff_ne, bne_eq_false_iff_eq, Bool.not_eq_true, Bool.not_eq_false, Bool.not_eq_eq_eq_not, Bool.not_true, Bool.not_false, List.length_map, Int.not_lt, Int.not_le, ne_eq, Decidable.not_not] at hc5
            refine vc_skip ?_
            refine hK15 _ ?_
            refine vc_region ?_
            refine vo_move_pv rfl rfl ?_
            refine vo_binI rfl rfl rfl rfl sd ?_
            refine vo_assign_pv rfl rfl ?_
            refine vo_nil ?_
            change againE _ _ _ _ _ _ _ _ _ _
            refine againE_mk rfl rfl rfl rfl rfl rfl ⟨_, ?_, k + 1, rfl, ?_, rfl, rfl⟩
            · omega
            · omega
        · try simp only [decide_eq_true_eq, decide_eq_false_iff_not, beq_iff_eq, bne_iff_ne, beq_eq_false_iff_ne, bne_eq_false_iff_eq, Bool.not_eq_true, Bool.not_eq_false, Bool.not_eq_eq_eq_not, Bool.not_true, Bool.not_false, List.length_map, Int.not_lt, Int.not_le, ne_eq, Decidable.not_not] at hc4
          refine vc_exit ?_
          refine hK11 _ ?_
          refine vc_seq fun K18 hK18 => ?_
          refine vc_region ?_
          refine vo_assign_pv rfl rfl ?_
          refine vo_nil ?_
          refine hK18 _ ?_
          refine vc_ret ?_
          change retQ _ _ _ _ _
          refine retQ_sel [] (srows := []) (.inr rfl) hC rfl rfl rfl rfl rfl rfl rfl ?_
          exact ⟨rfl, rfl⟩

end Go.Vl

namespace Go.Vl
set_option linter.unusedVariables false
set_option linter.unusedSimpArgs false
open Go.Proofs
open Go.Proofs
theorem opn_lpair : Opens Try.prog 86 2 pairP (fun _ => True) := by
  have h := opens_struct (P := Try.prog) (t := 86) Try.underlying86 (by kernel_rfl) (openF_cons opn_int rfl (show Try.prog.cellsOf 3 = 1 by kernel_rfl) (openF_cons opn_int rfl (show Try.prog.cellsOf 3 = 1 by kernel_rfl) openF_nil))
  exact opens_map h (fun a => (a.1, a.2.1)) (fun _ => rfl) (fun _ _ => trivial)
theorem opn_lpairs : Opens Try.prog 38 1 (fun l : List (Int × Int) => .sl none 2 (l.map pairP)) (fun l => l.length ≤ 9223372036854775807 ∧ ∀ a ∈ l, True) := opens_slice (P := Try.prog) Try.underlying38 (show Try.prog.cellsOf 86 = 2 by kernel_rfl) (by decide) opn_lpair
def nms (l : List (Int × Int)) : List Int := l.map Prod.fst
theorem getD_nms (l : List (Int × Int)) (k : Nat) : (nms l).getD k 0 = (l.getD k (0, 0)).1 := getD_map0 Prod.fst l k (0, 0) 0 rfl
@[simp] theorem nms_len (l : List (Int × Int)) : (nms l).length = l.length := by simp [nms]
theorem take_nms (l : List (Int × Int)) (k : Nat) : (nms l).take k = nms (l.take k) := by simp [nms]
theorem findM_nms (n : Int) (l : List (Int × Int)) (k : Nat) (h : k < l.length) : findM n ((nms l).drop k) k = if (l.getD k (0, 0)).1 = n then (k : Int) else findM n ((nms l).drop (k+1)) (k+1) := by
  rw [findM_drop _ _ _ (by rw [nms_len]; exact h), getD_nms]
theorem nodup_nms_succ {l : List (Int × Int)} {k : Nat} (h : k < l.length) : (nms (l.take (k+1))).Nodup ↔ (nms (l.take k)).Nodup ∧ (l.getD k (0, 0)).1 ∉ nms (l.take k) := by
  rw [← take_nms, ← take_nms, nodup_take_succ (by rw [nms_len]; exact h) 0, getD_nms]
theorem nodup_nms_take {l : List (Int × Int)} (k : Nat) (h : (nms l).Nodup) : (nms (l.take k)).Nodup := by
  rw [← take_nms]; exact nodup_take k h
theorem app_nm (l : List (Int × Int)) (k : Nat) (h : k < l.length) : (nms (l.take k)).map intP ++ [.int .i64 (l.getD k (0, 0)).1] = (nms (l.take (k+1))).map intP := by
  have : l.take (k+1) = l.take k ++ [l.getD k (0,0)] := by rw [List.take_add_one, List.getD, List.getElem?_eq_getElem h]; rfl
  rw [this]; simp [nms]
theorem app_nm1 (l : List (Int × Int)) (k : Nat) (h : k < l.length) : nms (l.take k) ++ [(l.getD k (0, 0)).1] = nms (l.take (k+1)) := by
  have : l.take (k+1) = l.take k ++ [l.getD k (0,0)] := by rw [List.take_add_one, List.getD, List.getElem?_eq_getElem h]; rfl
  rw [this]; simp [nms]
def SPairs (a b : List (Int × Int)) : Prop := a.length ≤ 40 ∧ (nms a).Nodup ∧ a.length = b.length ∧ ∀ p ∈ a, p ∈ b
instance (a b : List (Int × Int)) : Decidable (SPairs a b) := by unfold SPairs; exact inferInstance
theorem findM_pos_iff {n : Int} {l : List Int} : ∀ {k : Int}, 0 ≤ k → 0 ≤ findM n l k → ∃ i, i < l.length ∧ findM n l k = k + i ∧ l.getD i 0 = n ∧ ∀ j, j < i → l.getD j 0 ≠ n := by
  induction l with
  | nil => intro k hk h; simp [findM] at h
  | cons x xs ih =>
    intro k hk h
    by_cases hx : x = n
    · exact ⟨0, by simp, by simp [findM, hx], by simp [hx], fun j hj => by omega⟩
    · have e : findM n (x :: xs) k = findM n xs (k + 1) := by simp [findM, hx]
      rw [e] at h
      obtain ⟨i, hi, h1, h2, h3⟩ := ih (by omega) h
      refine ⟨i + 1, by simp; omega, by rw [e, h1]; push_cast; omega, by simpa using h2, fun j hj => ?_⟩
      cases j with
      | zero => simpa using hx
      | succ j => simpa using h3 j (by omega)
/-- The value that a name has in pairs of different names. -/
theorem pair_at {b : List (Int × Int)} {n : Int} {z : Nat} (hz : findM n (nms b) 0 = z) : z < b.length ∧ (b.getD z (0,0)).1 = n := by
  obtain ⟨i, hi, h1, h2, _⟩ := findM_pos_iff (n := n) (l := nms b) (k := 0) (by omega) (by omega)
  have : i = z := by omega
  subst this
  rw [getD_nms] at h2; rw [nms_len] at hi
  exact ⟨hi, h2⟩
theorem pair_mem_nms {p : Int × Int} {b : List (Int × Int)} (h : p ∈ b) : p.1 ∈ nms b := List.mem_map_of_mem h
theorem pair_uniq {b : List (Int × Int)} (h : (nms b).Nodup) {p q : Int × Int} (hp : p ∈ b) (hq : q ∈ b) (e : p.1 = q.1) : p = q := by
  induction b with
  | nil => cases hp
  | cons x xs ih =>
    simp only [nms, List.map_cons, List.nodup_cons] at h
    rcases List.mem_cons.1 hp with hp1 | hp1 <;> rcases List.mem_cons.1 hq with hq1 | hq1
    · rw [hp1, hq1]
    · subst hp1; exact absurd (by rw [e]; exact pair_mem_nms hq1) h.1
    · subst hq1; exact absurd (by rw [← e]; exact pair_mem_nms hp1) h.1
    · exact ih h.2 hp1 hq1
theorem perm_of_sub {α : Type} [DecidableEq α] : ∀ {a b : List α}, a.Nodup → b.length ≤ a.length → (∀ p ∈ a, p ∈ b) → a.Perm b
  | [], b, _, hl, _ => by have : b = [] := List.length_eq_zero_iff.1 (by simpa using hl); subst this; exact .nil
  | x :: xs, b, ha, hl, hs => by
    have hx : x ∈ b := hs x (by simp)
    have h1 : b.Perm (x :: b.erase x) := List.perm_cons_erase hx
    have hn := List.nodup_cons.1 ha
    refine (List.Perm.cons x (perm_of_sub hn.2 ?_ fun p hp => ?_)).trans h1.symm
    · have := h1.length_eq; simp at this hl; omega
    · have hne : p ≠ x := fun e => hn.1 (by rw [← e]; exact hp)
      exact (List.mem_erase_of_ne hne).2 (hs p (by simp [hp]))
/-- Lists of one length: if the first has different names and lies in the other, the other has different names. -/
theorem nodup_of_sub {a b : List (Int × Int)} (ha : (nms a).Nodup) (hl : b.length ≤ a.length) (hs : ∀ p ∈ a, p ∈ b) : (nms b).Nodup := by
  have h1 : a.Nodup := by
    have := ha
    simp only [nms, List.nodup_iff_pairwise_ne, List.pairwise_map] at this
    exact List.Pairwise.imp (fun h e => h (by rw [e])) this
  have hp : a.Perm b := perm_of_sub h1 hl hs
  exact (hp.map Prod.fst).nodup_iff.1 ha
theorem Q37 : EqI2 Try.prog 37 := by
  refine ⟨fun x y x' y' w => ?_, by kernel_rfl⟩
  have hS : Try.prog.underlying 37 = some (.struct (Try.prog.fieldsOf 37)) := by kernel_rfl
  have hp : Try.prog.stoodInHeld 37 = false := by kernel_rfl
  have u3 := Try.underlying3
  have a3 := Try.isAgg3
  have z3 := Try.sizeOf3
  rw [show (10000 : Nat) = 9999 + 1 from rfl, run_equalIn_agg w 9999 37 _ _ hS hp]
  simp only [Program.fieldsOf, Try.underlying37]
  go_simp
  by_cases h1 : x = x' <;> by_cases h2 : y = y' <;> simp [h1, h2]

theorem pairAt_sat {nl0 : Option Bool} {list : List (Int × Int)} {name : Int} (hlist : list.length < 1000000000)  : SatAt Try.prog 62 [.pv false (.sl nl0 2 (list.map pairP)), i64 name] [] (fun res rows => res = [i64 (findM name (nms list) 0)] ∧ rows = []) := by
  refine sat_entry_G (rs := [(4, none)]) Try.func62 rfl rfl (Nat.le_of_ble_eq_true rfl) (Nat.le_of_ble_eq_true rfl) (resTs1 trivial) fun C hC => ?_
  rw [Try.ntmps62]
  replace hC : C.nb = 0 := hC
  refine vc_seq fun K1 hK1 => ?_
  refine vc_region ?_
  refine vo_assign_pv rfl rfl ?_
  refine vo_nil ?_
  refine hK1 _ ?_
  refine vc_seq fun K2 hK2 => ?_
  refine vc_seq fun K3 hK3 => ?_
  refine vc_region ?_
  refine vo_assign_pv rfl rfl ?_
  refine vo_nil ?_
  refine hK3 _ ?_
  refine vc_block ?_
  refine vc_stM ?_
  refine vc_loopE [0, 1] [5] [] _ _ (fun mz vs rs => ∃ (k : Nat), mz = list.length - k ∧ (k ≤ list.length) ∧ (findM name (nms list) 0 = findM name ((nms list).drop k) k) ∧ vs = [i64 k] ∧ rs = []) (list.length) rfl rfl (le_len hC rfl) ⟨rfl, rfl, rfl⟩ rfl ⟨0, rfl, Nat.zero_le _, rfl, rfl, rfl⟩ ?_
  rintro mz vs rs - - ⟨k, rfl, hk, hf, rfl, rfl⟩
  refine vc_stM ?_
  refine vc_seq fun K4 hK4 => ?_
  refine vc_seq fun K5 hK5 => ?_
  refine vc_region ?_
  refine vo_move_pv rfl rfl ?_
  refine vo_move_pv rfl rfl ?_
  refine vo_len_pv rfl rfl Try.underlying32 ?_
  refine vo_binI rfl rfl rfl rfl trivial ?_
  refine vo_nil ?_
  refine hK5 _ ?_
  refine vc_cond rfl (fun hc1 => ?_) (fun hc1 => ?_)
  · try simp only [decide_eq_true_eq, decide_eq_false_iff_not, beq_iff_eq, bne_iff_ne, beq_eq_false_iff_ne, bne_eq_false_iff_eq, Bool.not_eq_true, Bool.not_eq_false, Bool.not_eq_eq_eq_not, Bool.not_true, Bool.not_false, List.length_map, Int.not_lt, Int.not_le, ne_eq, Decidable.not_not] at hc1
    refine vc_skip ?_
    refine hK4 _ ?_
    refine vc_seq fun K6 hK6 => ?_
    refine vc_block ?_
    refine vc_seq fun K7 hK7 => ?_
    refine vc_region ?_
    refine vo_move_pv rfl rfl ?_
    refine vo_move_pv rfl rfl ?_
    refine vo_index_pv (.agg [(.int .i64 0), (.int .i64 0)]) rfl rfl rfl E32.und inf37 sz37 sd sd ?_
    simp only [Int.toNat_natCast, Int.toNat_zero, getD_ints, getD_intss, getD_bools, getD_bytes, PV.cells, getD_ops, getD_pairs, getD_insts]
    refine vo_fieldAddr_adr rfl rfl Try.underlying37 rfl inf3 (by rw [sz3]; decide) ?_
    refine vo_load_adr rfl rfl Try.underlying3 rfl ?_
    refine vo_move_pv rfl rfl ?_
    refine vo_binI rfl rfl rfl rfl trivial ?_
    refine vo_nil ?_
    refine hK7 _ ?_
    refine vc_cond rfl (fun hc2 => ?_) (fun hc2 => ?_)
    · try simp only [decide_eq_true_eq, decide_eq_false_iff_not, beq_iff_eq, bne_iff_ne, beq_eq_false_iff_ne, bne_eq_false_iff_eq, Bool.not_eq_true, Bool.not_eq_false, Bool.not_eq_eq_eq_not, Bool.not_true, Bool.not_false, List.length_map, Int.not_lt, Int.not_le, ne_eq, Decidable.not_not] at hc2
      refine vc_seq fun K8 hK8 => ?_
      refine vc_region ?_
      refine vo_move_pv rfl rfl ?_
      refine vo_assign_pv rfl rfl ?_
      refine vo_nil ?_
      refine hK8 _ ?_
      refine vc_ret ?_
      change retQ _ _ _ _ _
      refine retQ_sel [] (srows := []) (.inr rfl) hC rfl rfl rfl rfl rfl rfl rfl ?_
      refine ⟨?_, rfl⟩
      refine (congrArg (fun b => [i64 b]) (?_ : _ = _) : [i64 _] = [i64 _])
      rw [hf, findM_nms _ _ _ (by omega), if_pos (by omega)]
    · try simp only [decide_eq_true_eq, decide_eq_false_iff_not, beq_iff_eq, bne_iff_ne, beq_eq_false_iff_ne, bne_eq_false_iff_eq, Bool.not_eq_true, Bool.not_eq_false, Bool.not_eq_eq_eq_not, Bool.not_true, Bool.not_false, List.length_map, Int.not_lt, Int.not_le, ne_eq, Decidable.not_not] at hc2
      refine vc_skip ?_
      refine hK6 _ ?_
      refine vc_region ?_
      refine vo_move_pv rfl rfl ?_
      refine vo_binI rfl rfl rfl rfl sd ?_
      refine vo_assign_pv rfl rfl ?_
      refine vo_nil ?_
      change againE _ _ _ _ _ _ _ _ _ _
      refine againE_mk rfl rfl rfl rfl rfl rfl ⟨_, ?_, k + 1, rfl, ?_, ?_, rfl, rfl⟩
      · omega
      · omega
      · rw [hf, findM_nms _ _ _ (by omega), if_neg (by omega)]; rfl
  · try simp only [decide_eq_true_eq, decide_eq_false_iff_not, beq_iff_eq, bne_iff_ne, beq_eq_false_iff_ne, bne_eq_false_iff_eq, Bool.not_eq_true, Bool.not_eq_false, Bool.not_eq_eq_eq_not, Bool.not_true, Bool.not_false, List.length_map, Int.not_lt, Int.not_le, ne_eq, Decidable.not_not] at hc1
    refine vc_exit ?_
    refine hK2 _ ?_
    refine vc_seq fun K9 hK9 => ?_
    refine vc_region ?_
    refine vo_assign_pv rfl rfl ?_
    refine vo_nil ?_
    refine hK9 _ ?_
    refine vc_ret ?_
    change retQ _ _ _ _ _
    refine retQ_sel [] (srows := []) (.inr rfl) hC rfl rfl rfl rfl rfl rfl rfl ?_
    refine ⟨?_, rfl⟩
    refine (congrArg (fun b => [i64 b]) (?_ : _ = _) : [i64 _] = [i64 _])
    rw [hf, show k = (nms list).length by rw [nms_len]; omega, List.drop_length]; rfl


theorem goodPairs_sat {nl0 : Option Bool} {list : List (Int × Int)} (hlist : list.length < 1000000000)  : SatAt Try.prog 61 [.pv false (.sl nl0 2 (list.map pairP))] [] (fun res rows => res = [bo (decide (list.length ≤ 40 ∧ (nms list).Nodup))] ∧ rows = []) := by
  refine sat_entry_G (rs := [(2, none)]) Try.func61 rfl rfl (Nat.le_of_ble_eq_true rfl) (Nat.le_of_ble_eq_true rfl) (resTs1 trivial) fun C hC => ?_
  rw [Try.ntmps61]
  replace hC : C.nb = 0 := hC
  refine vc_seq fun K1 hK1 => ?_
  refine vc_region ?_
  refine vo_assign_pv rfl rfl ?_
  refine vo_nil ?_
  refine hK1 _ ?_
  refine vc_seq fun K2 hK2 => ?_
  refine vc_seq fun K3 hK3 => ?_
  refine vc_region ?_
  refine vo_assign_pv rfl rfl ?_
  refine vo_nil ?_
  refine hK3 _ ?_
  refine vc_block ?_
  refine vc_stM ?_
  refine vc_loopE [0] [3] [] _ _ (fun mz vs rs => ∃ (k : Nat), mz = list.length - k ∧ (k ≤ list.length) ∧ ((nms (list.take k)).Nodup) ∧ vs = [i64 k] ∧ rs = []) (list.length) rfl rfl (le_len hC rfl) ⟨rfl, rfl, rfl⟩ rfl ⟨0, rfl, Nat.zero_le _, (by simp [nms]), rfl, rfl⟩ ?_
  rintro mz vs rs - - ⟨k, rfl, hk, hf, rfl, rfl⟩
  refine vc_stM ?_
  refine vc_seq fun K4 hK4 => ?_
  refine vc_seq fun K5 hK5 => ?_
  refine vc_region ?_
  refine vo_move_pv rfl rfl ?_
  refine vo_move_pv rfl rfl ?_
  refine vo_len_pv rfl rfl Try.underlying32 ?_
  refine vo_binI rfl rfl rfl rfl trivial ?_
  refine vo_nil ?_
  refine hK5 _ ?_
  refine vc_cond rfl (fun hc1 => ?_) (fun hc1 => ?_)
  · try simp only [decide_eq_true_eq, decide_eq_false_iff_not, beq_iff_eq, bne_iff_ne, beq_eq_false_iff_ne, bne_eq_false_iff_eq, Bool.not_eq_true, Bool.not_eq_false, Bool.not_eq_eq_eq_not, Bool.not_true, Bool.not_false, List.length_map, Int.not_lt, Int.not_le, ne_eq, Decidable.not_not] at hc1
    refine vc_skip ?_
    refine hK4 _ ?_
    refine vc_seq fun K6 hK6 => ?_
    refine vc_block ?_
    refine vc_seq fun K7 hK7 => ?_
    refine vc_draw (by kernel_rfl) ?_
    change VD _ _ _ 10 _ _ _
    refine vd_light 0 rfl rfl rfl (by kernel_rfl) (by kernel_rfl) (by kernel_rfl) (wnt_none rfl) (lt_move_pv rfl) ?_
    refine vd_light 1 rfl rfl rfl (by kernel_rfl) (by kernel_rfl) (by kernel_rfl) (wnt_none rfl) (lt_move_pv rfl) ?_
    refine vd_light 2 rfl rfl rfl (by kernel_rfl) (by kernel_rfl) (by kernel_rfl) (wnt_none rfl) (lt_slice_pv rfl rfl rfl E32.und inf37 sz37 sd sd sd) ?_
    simp only [Int.toNat_natCast, Int.toNat_zero, List.drop_zero, Nat.sub_zero, ← List.map_drop, ← List.map_take]
    refine vd_light 3 rfl rfl rfl (by kernel_rfl) (by kernel_rfl) (by kernel_rfl) (wnt_none rfl) (lt_move_pv rfl) ?_
    refine vd_light 4 rfl rfl rfl (by kernel_rfl) (by kernel_rfl) (by kernel_rfl) (wnt_none rfl) (lt_move_pv rfl) ?_
    refine vd_light 5 rfl rfl rfl (by kernel_rfl) (by kernel_rfl) (by kernel_rfl) (wnt_none rfl) (lt_index_pv (.agg [(.int .i64 0), (.int .i64 0)]) rfl rfl E32.und inf37 sz37 sd sd) ?_
    simp only [Int.toNat_natCast, Int.toNat_zero, getD_ints, getD_intss, getD_bools, getD_bytes, PV.cells, getD_ops, getD_pairs, getD_insts]
    refine vd_light 6 rfl rfl rfl (by kernel_rfl) (by kernel_rfl) (by kernel_rfl) (wnt_none rfl) (lt_fieldAddr_adr rfl Try.underlying37 rfl inf3 (by rw [sz3]; decide)) ?_
    refine vd_light 7 rfl rfl rfl (by kernel_rfl) (by kernel_rfl) (by kernel_rfl) (wnt_none rfl) (lt_load_adr rfl Try.underlying3 rfl) ?_
    refine vd_call 8 rfl (by kernel_rfl) (wnt_none rfl) Try.func62 rfl rfl rfl rfl (pairAt_sat (list := list.take k) (by simp; omega)) ?_
    rintro _ _ ⟨rfl, rfl⟩
    refine ⟨rfl, rfl, .inl rfl, ?_⟩
    refine vd_stM ?_
    refine vd_light 9 rfl rfl rfl (by kernel_rfl) (by kernel_rfl) (by kernel_rfl) (wnt_none rfl) (lt_binI rfl rfl rfl trivial) ?_
    refine vd_nil (by kernel_rfl) ?_
    refine hK7 _ ?_
    refine vc_cond rfl (fun hc2 => ?_) (fun hc2 => ?_)
    · try simp only [decide_eq_true_eq, decide_eq_false_iff_not, beq_iff_eq, bne_iff_ne, beq_eq_false_iff_ne, bne_eq_false_iff_eq, Bool.not_eq_true, Bool.not_eq_false, Bool.not_eq_eq_eq_not, Bool.not_true, Bool.not_false, List.length_map, Int.not_lt, Int.not_le, ne_eq, Decidable.not_not] at hc2
      refine vc_seq fun K8 hK8 => ?_
      refine vc_region ?_
      refine vo_assign_pv rfl rfl ?_
      refine vo_nil ?_
      refine hK8 _ ?_
      refine vc_ret ?_
      change retQ _ _ _ _ _
      refine retQ_sel [] (srows := []) (.inr rfl) hC rfl rfl rfl rfl rfl rfl rfl ?_
      refine ⟨?_, rfl⟩
      refine (congrArg (fun b => [bo b]) (?_ : _ = _) : [bo _] = [bo _])
      exact bF fun h => ((nodup_nms_succ (by omega)).1 (nodup_nms_take (k+1) h.2)).2 ((findM_mem _ _ 0 (by omega)).1 (by omega))
    · try simp only [decide_eq_true_eq, decide_eq_false_iff_not, beq_iff_eq, bne_iff_ne, beq_eq_false_iff_ne, bne_eq_false_iff_eq, Bool.not_eq_true, Bool.not_eq_false, Bool.not_eq_eq_eq_not, Bool.not_true, Bool.not_false, List.length_map, Int.not_lt, Int.not_le, ne_eq, Decidable.not_not] at hc2
      refine vc_skip ?_
      refine hK6 _ ?_
      refine vc_region ?_
      refine vo_move_pv rfl rfl ?_
      refine vo_binI rfl rfl rfl rfl sd ?_
      refine vo_assign_pv rfl rfl ?_
      refine vo_nil ?_
      change againE _ _ _ _ _ _ _ _ _ _
      refine againE_mk rfl rfl rfl rfl rfl rfl ⟨_, ?_, k + 1, rfl, ?_, ?_, rfl, rfl⟩
      · omega
      · omega
      · exact (nodup_nms_succ (by omega)).2 ⟨hf, (findM_not _ _ 0 (by omega)).1 (by omega)⟩
  · try simp only [decide_eq_true_eq, decide_eq_false_iff_not, beq_iff_eq, bne_iff_ne, beq_eq_false_iff_ne, bne_eq_false_iff_eq, Bool.not_eq_true, Bool.not_eq_false, Bool.not_eq_eq_eq_not, Bool.not_true, Bool.not_false, List.length_map, Int.not_lt, Int.not_le, ne_eq, Decidable.not_not] at hc1
    refine vc_exit ?_
    refine hK2 _ ?_
    refine vc_seq fun K9 hK9 => ?_
    refine vc_region ?_
    refine vo_move_pv rfl rfl ?_
    refine vo_len_pv rfl rfl Try.underlying32 ?_
    refine vo_binI rfl rfl rfl rfl trivial ?_
    refine vo_assign_pv rfl rfl ?_
    refine vo_nil ?_
    refine hK9 _ ?_
    refine vc_ret ?_
    change retQ _ _ _ _ _
    refine retQ_sel [] (srows := []) (.inr rfl) hC rfl rfl rfl rfl rfl rfl rfl ?_
    refine ⟨?_, rfl⟩
    refine (congrArg (fun b => [bo b]) (?_ : _ = _) : [bo _] = [bo _])
    rw [take_all (by omega)] at hf; exact decide_eq_decide.2 ⟨fun h => ⟨by simp at h; omega, hf⟩, fun h => by have := h.1; simp; omega⟩


theorem szPairS_sat {nl0 : Option Bool} {a : List (Int × Int)} {left : Int}  (ha : a.length ≤ 9223372036854775807) (hl : 0 ≤ left ∧ left ≤ 2000000) : SatAt Try.prog 24 [.pv false (.sl nl0 2 (a.map pairP)), i64 left] [] (fun res rows => res = [i64 (if left - (a.length : Int) < 0 then -1 else left - (a.length : Int))] ∧ rows = []) := by
  refine sat_entry_G (rs := [(4, none)]) Try.func24 rfl rfl (Nat.le_of_ble_eq_true rfl) (Nat.le_of_ble_eq_true rfl) (resTs1 trivial) fun C hC => ?_
  rw [Try.ntmps24]
  replace hC : C.nb = 0 := hC
  refine vc_seq fun K1 hK1 => ?_
  refine vc_region ?_
  refine vo_assign_pv rfl rfl ?_
  refine vo_nil ?_
  refine hK1 _ ?_
  refine vc_seq fun K2 hK2 => ?_
  refine vc_region ?_
  refine vo_move_pv rfl rfl ?_
  refine vo_move_pv rfl rfl ?_
  refine vo_len_pv rfl rfl Try.underlying38 ?_
  refine vo_binI rfl rfl rfl rfl sd ?_
  refine vo_assign_pv rfl rfl ?_
  refine vo_nil ?_
  refine hK2 _ ?_
  refine vc_seq fun K3 hK3 => ?_
  refine vc_seq fun K4 hK4 => ?_
  refine vc_region ?_
  refine vo_move_pv rfl rfl ?_
  refine vo_binI rfl rfl rfl rfl trivial ?_
  refine vo_nil ?_
  refine hK4 _ ?_
  refine vc_cond rfl (fun hc1 => ?_) (fun hc1 => ?_)
  · try simp only [decide_eq_true_eq, decide_eq_false_iff_not, beq_iff_eq, bne_iff_ne, beq_eq_false_iff_ne, bne_eq_false_iff_eq, Bool.not_eq_true, Bool.not_eq_false, Bool.not_eq_eq_eq_not, Bool.not_true, Bool.not_false, List.length_map, Int.not_lt, Int.not_le, ne_eq, Decidable.not_not] at hc1
    refine vc_seq fun K5 hK5 => ?_
    refine vc_region ?_
    refine vo_assign_pv rfl rfl ?_
    refine vo_nil ?_
    refine hK5 _ ?_
    refine vc_ret ?_
    change retQ _ _ _ _ _
    refine retQ_sel [] (srows := []) (.inr rfl) hC rfl rfl rfl rfl rfl rfl rfl ?_
    refine ⟨?_, rfl⟩
    refine (congrArg (fun b => [i64 b]) (?_ : _ = _) : [i64 _] = [i64 _])
    rw [if_pos (by omega)]
  · try simp only [decide_eq_true_eq, decide_eq_false_iff_not, beq_iff_eq, bne_iff_ne, beq_eq_false_iff_ne, bne_eq_false_iff_eq, Bool.not_eq_true, Bool.not_eq_false, Bool.not_eq_eq_eq_not, Bool.not_true, Bool.not_false, List.length_map, Int.not_lt, Int.not_le, ne_eq, Decidable.not_not] at hc1
    refine vc_skip ?_
    refine hK3 _ ?_
    refine vc_seq fun K6 hK6 => ?_
    refine vc_region ?_
    refine vo_move_pv rfl rfl ?_
    refine vo_assign_pv rfl rfl ?_
    refine vo_nil ?_
    refine hK6 _ ?_
    refine vc_ret ?_
    change retQ _ _ _ _ _
    refine retQ_sel [] (srows := []) (.inr rfl) hC rfl rfl rfl rfl rfl rfl rfl ?_
    refine ⟨?_, rfl⟩
    refine (congrArg (fun b => [i64 b]) (?_ : _ = _) : [i64 _] = [i64 _])
    simp only [List.length_map]; rw [if_neg (by omega)]


theorem toPair_sat {a : Int × Int}   : SatAt Try.prog 63 [.pv false (pairP a)] [] (fun res rows => res = [.pv true (pairP a)] ∧ rows = []) := by
  refine sat_entry_G (rs := [(2, some (37, 2))]) Try.func63 rfl rfl (Nat.le_of_ble_eq_true rfl) (Nat.le_of_ble_eq_true rfl) (resTs1 ⟨_, _, Try.underlying37, rfl, inf37, sz37⟩) fun C hC => ?_
  rw [Try.ntmps63]
  replace hC : C.nb = 0 := hC
  refine vc_seq fun K1 hK1 => ?_
  refine vc_region ?_
  refine vo_box rfl rfl ?_
  refine vo_stM ?_
  refine vo_alloc Z37 rfl ?_
  refine vo_stM ?_
  refine vo_nil ?_
  refine hK1 _ ?_
  refine vc_seq fun K2 hK2 => ?_
  refine vc_region ?_
  refine vo_alloc Z37 rfl ?_
  refine vo_stM ?_
  refine vo_nil ?_
  refine hK2 _ ?_
  refine vc_seq fun K3 hK3 => ?_
  refine vc_region ?_
  refine vo_fieldAddr_ptr rfl rfl Try.underlying86 rfl inf3 (by rw [sz3]; decide) ?_
  try simp only [Nat.zero_add]
  refine vo_load_var rfl rfl rfl Try.underlying3 rfl rfl ?_
  refine vo_fieldAddr_ptr rfl rfl Try.underlying37 rfl inf3 (by rw [sz3]; decide) ?_
  try simp only [Nat.zero_add]
  refine vo_store_var rfl rfl rfl rfl inf3 sz3 rfl ?_
  refine vo_stM ?_
  refine vo_nil ?_
  refine hK3 _ ?_
  refine vc_seq fun K4 hK4 => ?_
  refine vc_region ?_
  refine vo_fieldAddr_ptr rfl rfl Try.underlying86 rfl inf3 (by rw [sz3]; decide) ?_
  try simp only [Nat.zero_add]
  refine vo_load_var rfl rfl rfl Try.underlying3 rfl rfl ?_
  refine vo_fieldAddr_ptr rfl rfl Try.underlying37 rfl inf3 (by rw [sz3]; decide) ?_
  try simp only [Nat.zero_add]
  refine vo_store_var rfl rfl rfl rfl inf3 sz3 rfl ?_
  refine vo_stM ?_
  refine vo_nil ?_
  refine hK4 _ ?_
  refine vc_seq fun K5 hK5 => ?_
  refine vc_region ?_
  refine vo_load_varS rfl rfl rfl Try.underlying37 rfl inf37 sz37 rfl rfl ?_
  refine vo_store_varS rfl rfl rfl inf37 sz37 rfl ?_
  refine vo_stM ?_
  refine vo_nil ?_
  refine hK5 _ ?_
  refine vc_ret ?_
  change retQ _ _ _ _ _
  refine retQ_sel [] (srows := []) (.inr rfl) hC rfl rfl rfl rfl rfl rfl rfl ?_
  exact ⟨rfl, rfl⟩


theorem toPairS_sat {nl0 : Option Bool} {a : List (Int × Int)} (ha : a.length < 1000000000)  : SatAt Try.prog 25 [.pv false (.sl nl0 2 (a.map pairP))] [] (fun res rows => res = [.pv true (.sl (some false) 2 (a.map pairP))] ∧ rows = []) := by
  have hcl := fun k h => cpy_len ((0, 0) : Int × Int) a k h
  refine sat_entry_G (rs := [(2, none)]) Try.func25 rfl rfl (Nat.le_of_ble_eq_true rfl) (Nat.le_of_ble_eq_true rfl) (resTs1 trivial) fun C hC => ?_
  rw [Try.ntmps25]
  replace hC : C.nb = 0 := hC
  refine vc_seq fun K1 hK1 => ?_
  refine vc_region ?_
  refine vo_assign_pv rfl rfl ?_
  refine vo_nil ?_
  refine hK1 _ ?_
  refine vc_seq fun K2 hK2 => ?_
  refine vc_region ?_
  refine vo_move_pv rfl rfl ?_
  refine vo_len_pv rfl rfl Try.underlying38 ?_
  refine vo_make E32 rfl rfl rfl sd sd sd ?_
  refine vo_assign_ref rfl rfl ?_
  refine vo_nil ?_
  refine hK2 _ ?_
  refine vc_seq fun K3 hK3 => ?_
  refine vc_seq fun K4 hK4 => ?_
  refine vc_region ?_
  refine vo_assign_pv rfl rfl ?_
  refine vo_nil ?_
  refine hK4 _ ?_
  refine vc_block ?_
  refine vc_stM ?_
  refine vc_loopE [0] [3, 4] [0] _ _ (fun mz vs rs => ∃ (k : Nat), mz = a.length - k ∧ (k ≤ a.length) ∧ vs = [.ref 0, i64 k] ∧ rs = [Row.own 37 2 (some false) true ((cpy (0, 0) a k).map pairP)]) (a.length) rfl rfl (le_len hC rfl) ⟨rfl, rfl, rfl⟩ rfl ⟨0, rfl, Nat.zero_le _, rfl, (by simp only [rep_pairs, cpy_0, List.length_map]; rfl)⟩ ?_
  rintro mz vs rs - - ⟨k, rfl, hk, rfl, rfl⟩
  refine vc_stM ?_
  have hcl9 := hcl k hk
  refine vc_seq fun K5 hK5 => ?_
  refine vc_seq fun K6 hK6 => ?_
  refine vc_region ?_
  refine vo_move_pv rfl rfl ?_
  refine vo_move_pv rfl rfl ?_
  refine vo_len_pv rfl rfl Try.underlying38 ?_
  refine vo_binI rfl rfl rfl rfl trivial ?_
  refine vo_nil ?_
  refine hK6 _ ?_
  refine vc_cond rfl (fun hc1 => ?_) (fun hc1 => ?_)
  · try simp only [decide_eq_true_eq, decide_eq_false_iff_not, beq_iff_eq, bne_iff_ne, beq_eq_false_iff_ne, bne_eq_false_iff_eq, Bool.not_eq_true, Bool.not_eq_false, Bool.not_eq_eq_eq_not, Bool.not_true, Bool.not_false, List.length_map, Int.not_lt, Int.not_le, ne_eq, Decidable.not_not] at hc1
    refine vc_skip ?_
    refine hK5 _ ?_
    refine vc_seq fun K7 hK7 => ?_
    refine vc_block ?_
    refine vc_region ?_
    refine vo_move_ref rfl rfl ?_
    refine vo_move_pv rfl rfl ?_
    refine vo_move_pv rfl rfl ?_
    refine vo_move_pv rfl rfl ?_
    refine vo_index_pv (.agg [(.int .i64 0), (.int .i64 0)]) rfl rfl rfl E38.und inf86 sz86 sd sd ?_
    simp only [Int.toNat_natCast, Int.toNat_zero, getD_ints, getD_intss, getD_bools, getD_bytes, PV.cells, getD_ops, getD_pairs, getD_insts]
    refine vo_load_adrS rfl rfl Try.underlying86 rfl inf86 sz86 rfl ?_
    refine vo_st (by (try simp only [St.put, PV.cells, PV.scal, List.drop_succ_cons, List.drop_zero, List.take_succ_cons, List.take_zero, List.map_cons, List.map_nil, Bool.or_true, Bool.or_false, Bool.false_or, Bool.true_or, opP, pairP, instP, heapP]); exact eq_refl _) ?_
    refine vo_call0 Try.func63 rfl rfl rfl rfl toPair_sat ?_
    rintro _ _ ⟨rfl, rfl⟩
    refine ⟨rfl, rfl, .inl rfl, ?_⟩
    refine vo_stM ?_
    refine vo_index_ref rfl rfl rfl rfl E32.und inf37 sz37 sd sd ?_
    try simp only [Int.toNat_natCast]
    refine vo_store_own rfl rfl rfl inf37 sz37 (by decide) rfl sd ?_
    try simp only [set_ints, set_intss, set_bools, rep_bools, rep_ints, Int.toNat_natCast, Int.toNat_zero, set_pairs, set_pair1, rep_pairs]
    refine vo_stM ?_
    refine vo_nil ?_
    refine hK7 _ ?_
    refine vc_region ?_
    refine vo_move_pv rfl rfl ?_
    refine vo_binI rfl rfl rfl rfl sd ?_
    refine vo_assign_pv rfl rfl ?_
    refine vo_nil ?_
    change againE _ _ _ _ _ _ _ _ _ _
    refine againE_mk rfl rfl rfl rfl rfl rfl ⟨_, ?_, k + 1, rfl, ?_, rfl, (by rw [← cpy_set _ _ _ (by omega)]; rfl)⟩
    · omega
    · omega
  · try simp only [decide_eq_true_eq, decide_eq_false_iff_not, beq_iff_eq, bne_iff_ne, beq_eq_false_iff_ne, bne_eq_false_iff_eq, Bool.not_eq_true, Bool.not_eq_false, Bool.not_eq_eq_eq_not, Bool.not_true, Bool.not_false, List.length_map, Int.not_lt, Int.not_le, ne_eq, Decidable.not_not] at hc1
    refine vc_exit ?_
    refine hK3 _ ?_
    refine vc_seq fun K8 hK8 => ?_
    refine vc_region ?_
    refine vo_move_ref rfl rfl ?_
    refine vo_assign_ref rfl rfl ?_
    refine vo_nil ?_
    refine hK8 _ ?_
    refine vc_expose 0 (by omega) rfl ?_
    refine vc_stM ?_
    refine vc_ret ?_
    change retQ _ _ _ _ _
    refine retQ_sel [] (srows := []) (.inr rfl) hC rfl rfl rfl rfl rfl rfl rfl ?_
    have : k = a.length := by omega
    subst this
    rw [cpy_end]
    exact ⟨rfl, rfl⟩


theorem eqPair_sat {a : Int × Int} {b : Int × Int}   : SatAt Try.prog 64 [.pv false (pairP a), .pv false (pairP b)] [] (fun res rows => res = [bo (decide (a = b))] ∧ rows = []) := by
  refine sat_entry_G (rs := [(4, none)]) Try.func64 rfl rfl (Nat.le_of_ble_eq_true rfl) (Nat.le_of_ble_eq_true rfl) (resTs1 trivial) fun C hC => ?_
  rw [Try.ntmps64]
  replace hC : C.nb = 0 := hC
  refine vc_seq fun K1 hK1 => ?_
  refine vc_region ?_
  refine vo_box rfl rfl ?_
  refine vo_stM ?_
  refine vo_box rfl rfl ?_
  refine vo_stM ?_
  refine vo_assign_pv rfl rfl ?_
  refine vo_nil ?_
  refine hK1 _ ?_
  refine vc_seq fun K2 hK2 => ?_
  refine vc_seq fun K3 hK3 => ?_
  refine vc_region ?_
  refine vo_fieldAddr_ptr rfl rfl Try.underlying37 rfl inf3 (by rw [sz3]; decide) ?_
  try simp only [Nat.zero_add]
  refine vo_load_var rfl rfl rfl Try.underlying3 rfl rfl ?_
  refine vo_fieldAddr_ptr rfl rfl Try.underlying37 rfl inf3 (by rw [sz3]; decide) ?_
  try simp only [Nat.zero_add]
  refine vo_load_var rfl rfl rfl Try.underlying3 rfl rfl ?_
  refine vo_binI rfl rfl rfl rfl trivial ?_
  refine vo_nil ?_
  refine hK3 _ ?_
  refine vc_cond rfl (fun hc1 => ?_) (fun hc1 => ?_)
  · try simp only [decide_eq_true_eq, decide_eq_false_iff_not, beq_iff_eq, bne_iff_ne, beq_eq_false_iff_ne, bne_eq_false_iff_eq, Bool.not_eq_true, Bool.not_eq_false, Bool.not_eq_eq_eq_not, Bool.not_true, Bool.not_false, List.length_map, Int.not_lt, Int.not_le, ne_eq, Decidable.not_not] at hc1
    refine vc_seq fun K4 hK4 => ?_
    refine vc_region ?_
    refine vo_assign_pv rfl rfl ?_
    refine vo_nil ?_
    refine hK4 _ ?_
    refine vc_ret ?_
    change retQ _ _ _ _ _
    refine retQ_sel [] (srows := []) (.inr rfl) hC rfl rfl rfl rfl rfl rfl rfl ?_
    refine ⟨?_, rfl⟩
    refine (congrArg (fun b => [bo b]) (?_ : _ = _) : [bo _] = [bo _])
    cases a; cases b; simp_all
  · try simp only [decide_eq_true_eq, decide_eq_false_iff_not, beq_iff_eq, bne_iff_ne, beq_eq_false_iff_ne, bne_eq_false_iff_eq, Bool.not_eq_true, Bool.not_eq_false, Bool.not_eq_eq_eq_not, Bool.not_true, Bool.not_false, List.length_map, Int.not_lt, Int.not_le, ne_eq, Decidable.not_not] at hc1
    refine vc_skip ?_
    refine hK2 _ ?_
    refine vc_seq fun K5 hK5 => ?_
    refine vc_seq fun K6 hK6 => ?_
    refine vc_region ?_
    refine vo_fieldAddr_ptr rfl rfl Try.underlying37 rfl inf3 (by rw [sz3]; decide) ?_
    try simp only [Nat.zero_add]
    refine vo_load_var rfl rfl rfl Try.underlying3 rfl rfl ?_
    refine vo_fieldAddr_ptr rfl rfl Try.underlying37 rfl inf3 (by rw [sz3]; decide) ?_
    try simp only [Nat.zero_add]
    refine vo_load_var rfl rfl rfl Try.underlying3 rfl rfl ?_
    refine vo_binI rfl rfl rfl rfl trivial ?_
    refine vo_nil ?_
    refine hK6 _ ?_
    refine vc_cond rfl (fun hc2 => ?_) (fun hc2 => ?_)
    · try simp only [decide_eq_true_eq, decide_eq_false_iff_not, beq_iff_eq, bne_iff_ne, beq_eq_false_iff_ne, bne_eq_false_iff_eq, Bool.not_eq_true, Bool.not_eq_false, Bool.not_eq_eq_eq_not, Bool.not_true, Bool.not_false, List.length_map, Int.not_lt, Int.not_le, ne_eq, Decidable.not_not] at hc2
      refine vc_seq fun K7 hK7 => ?_
      refine vc_region ?_
      refine vo_assign_pv rfl rfl ?_
      refine vo_nil ?_
      refine hK7 _ ?_
      refine vc_ret ?_
      change retQ _ _ _ _ _
      refine retQ_sel [] (srows := []) (.inr rfl) hC rfl rfl rfl rfl rfl rfl rfl ?_
      refine ⟨?_, rfl⟩
      refine (congrArg (fun b => [bo b]) (?_ : _ = _) : [bo _] = [bo _])
      cases a; cases b; simp_all
    · try simp only [decide_eq_true_eq, decide_eq_false_iff_not, beq_iff_eq, bne_iff_ne, beq_eq_false_iff_ne, bne_eq_false_iff_eq, Bool.not_eq_true, Bool.not_eq_false, Bool.not_eq_eq_eq_not, Bool.not_true, Bool.not_false, List.length_map, Int.not_lt, Int.not_le, ne_eq, Decidable.not_not] at hc2
      refine vc_skip ?_
      refine hK5 _ ?_
      refine vc_seq fun K8 hK8 => ?_
      refine vc_region ?_
      refine vo_assign_pv rfl rfl ?_
      refine vo_nil ?_
      refine hK8 _ ?_
      refine vc_ret ?_
      change retQ _ _ _ _ _
      refine retQ_sel [] (srows := []) (.inr rfl) hC rfl rfl rfl rfl rfl rfl rfl ?_
      refine ⟨?_, rfl⟩
      refine (congrArg (fun b => [bo b]) (?_ : _ = _) : [bo _] = [bo _])
      cases a; cases b; simp_all


theorem eqPairS_sat {nl0 : Option Bool} {a : List (Int × Int)} {nl1 : Option Bool} {b : List (Int × Int)} (ha : a.length < 1000000000) (hb : b.length < 1000000000)  : SatAt Try.prog 26 [.pv false (.sl nl0 2 (a.map pairP)), .pv false (.sl nl1 2 (b.map pairP))] [] (fun res rows => res = [bo (decide (a = b))] ∧ rows = []) := by
  refine sat_entry_G (rs := [(4, none)]) Try.func26 rfl rfl (Nat.le_of_ble_eq_true rfl) (Nat.le_of_ble_eq_true rfl) (resTs1 trivial) fun C hC => ?_
  rw [Try.ntmps26]
  replace hC : C.nb = 0 := hC
  refine vc_seq fun K1 hK1 => ?_
  refine vc_region ?_
  refine vo_assign_pv rfl rfl ?_
  refine vo_nil ?_
  refine hK1 _ ?_
  refine vc_seq fun K2 hK2 => ?_
  refine vc_seq fun K3 hK3 => ?_
  refine vc_region ?_
  refine vo_move_pv rfl rfl ?_
  refine vo_len_pv rfl rfl Try.underlying32 ?_
  refine vo_move_pv rfl rfl ?_
  refine vo_len_pv rfl rfl Try.underlying32 ?_
  refine vo_binI rfl rfl rfl rfl trivial ?_
  refine vo_nil ?_
  refine hK3 _ ?_
  refine vc_cond rfl (fun hc1 => ?_) (fun hc1 => ?_)
  · try simp only [decide_eq_true_eq, decide_eq_false_iff_not, beq_iff_eq, bne_iff_ne, beq_eq_false_iff_ne, bne_eq_false_iff_eq, Bool.not_eq_true, Bool.not_eq_false, Bool.not_eq_eq_eq_not, Bool.not_true, Bool.not_false, List.length_map, Int.not_lt, Int.not_le, ne_eq, Decidable.not_not] at hc1
    refine vc_seq fun K4 hK4 => ?_
    refine vc_region ?_
    refine vo_assign_pv rfl rfl ?_
    refine vo_nil ?_
    refine hK4 _ ?_
    refine vc_ret ?_
    change retQ _ _ _ _ _
    refine retQ_sel [] (srows := []) (.inr rfl) hC rfl rfl rfl rfl rfl rfl rfl ?_
    refine ⟨?_, rfl⟩
    refine (congrArg (fun b => [bo b]) (?_ : _ = _) : [bo _] = [bo _])
    exact bF fun h => by rw [h] at hc1; exact hc1 rfl
  · try simp only [decide_eq_true_eq, decide_eq_false_iff_not, beq_iff_eq, bne_iff_ne, beq_eq_false_iff_ne, bne_eq_false_iff_eq, Bool.not_eq_true, Bool.not_eq_false, Bool.not_eq_eq_eq_not, Bool.not_true, Bool.not_false, List.length_map, Int.not_lt, Int.not_le, ne_eq, Decidable.not_not] at hc1
    refine vc_skip ?_
    refine hK2 _ ?_
    refine vc_seq fun K5 hK5 => ?_
    refine vc_seq fun K6 hK6 => ?_
    refine vc_region ?_
    refine vo_assign_pv rfl rfl ?_
    refine vo_nil ?_
    refine hK6 _ ?_
    refine vc_block ?_
    refine vc_stM ?_
    refine vc_loopE [0, 1] [5] [] _ _ (fun mz vs rs => ∃ (k : Nat), mz = a.length - k ∧ (k ≤ a.length) ∧ (a.take k = b.take k) ∧ vs = [i64 k] ∧ rs = []) (a.length) rfl rfl (le_len hC rfl) ⟨rfl, rfl, rfl⟩ rfl ⟨0, rfl, Nat.zero_le _, (by simp), rfl, rfl⟩ ?_
    rintro mz vs rs - - ⟨k, rfl, hk, hf, rfl, rfl⟩
    refine vc_stM ?_
    refine vc_seq fun K7 hK7 => ?_
    refine vc_seq fun K8 hK8 => ?_
    refine vc_region ?_
    refine vo_move_pv rfl rfl ?_
    refine vo_move_pv rfl rfl ?_
    refine vo_len_pv rfl rfl Try.underlying32 ?_
    refine vo_binI rfl rfl rfl rfl trivial ?_
    refine vo_nil ?_
    refine hK8 _ ?_
    refine vc_cond rfl (fun hc2 => ?_) (fun hc2 => ?_)
    · try simp only [decide_eq_true_eq, decide_eq_false_iff_not, beq_iff_eq, bne_iff_ne, beq_eq_false_iff_ne, bne_eq_false_iff_eq, Bool.not_eq_true, Bool.not_eq_false, Bool.not_eq_eq_eq_not, Bool.not_true, Bool.not_false, List.length_map, Int.not_lt, Int.not_le, ne_eq, Decidable.not_not] at hc2
      refine vc_skip ?_
      refine hK7 _ ?_
      refine vc_seq fun K9 hK9 => ?_
      refine vc_block ?_
      refine vc_seq fun K10 hK10 => ?_
      refine vc_draw (by kernel_rfl) ?_
      change VD _ _ _ 10 _ _ _
      refine vd_light 0 rfl rfl rfl (by kernel_rfl) (by kernel_rfl) (by kernel_rfl) (wnt_none rfl) (lt_move_pv rfl) ?_
      refine vd_light 1 rfl rfl rfl (by kernel_rfl) (by kernel_rfl) (by kernel_rfl) (wnt_none rfl) (lt_move_pv rfl) ?_
      refine vd_light 2 rfl rfl rfl (by kernel_rfl) (by kernel_rfl) (by kernel_rfl) (wnt_none rfl) (lt_index_pv (.agg [(.int .i64 0), (.int .i64 0)]) rfl rfl E32.und inf37 sz37 sd sd) ?_
      simp only [Int.toNat_natCast, Int.toNat_zero, getD_ints, getD_intss, getD_bools, getD_bytes, PV.cells, getD_ops, getD_pairs, getD_insts]
      refine vd_light 3 rfl rfl rfl (by kernel_rfl) (by kernel_rfl) (by kernel_rfl) (wnt_none rfl) (lt_load_adrS rfl Try.underlying37 rfl inf37 sz37 rfl) ?_
      refine vd_st (by (try simp only [St.put, PV.cells, PV.scal, List.drop_succ_cons, List.drop_zero, List.take_succ_cons, List.take_zero, List.map_cons, List.map_nil, Bool.or_true, Bool.or_false, Bool.false_or, Bool.true_or, opP, pairP, instP, heapP]); exact eq_refl _) ?_
      refine vd_light 4 rfl rfl rfl (by kernel_rfl) (by kernel_rfl) (by kernel_rfl) (wnt_none rfl) (lt_move_pv rfl) ?_
      refine vd_light 5 rfl rfl rfl (by kernel_rfl) (by kernel_rfl) (by kernel_rfl) (wnt_none rfl) (lt_move_pv rfl) ?_
      refine vd_light 6 rfl rfl rfl (by kernel_rfl) (by kernel_rfl) (by kernel_rfl) (wnt_none rfl) (lt_index_pv (.agg [(.int .i64 0), (.int .i64 0)]) rfl rfl E32.und inf37 sz37 sd sd) ?_
      simp only [Int.toNat_natCast, Int.toNat_zero, getD_ints, getD_intss, getD_bools, getD_bytes, PV.cells, getD_ops, getD_pairs, getD_insts]
      refine vd_light 7 rfl rfl rfl (by kernel_rfl) (by kernel_rfl) (by kernel_rfl) (wnt_none rfl) (lt_load_adrS rfl Try.underlying37 rfl inf37 sz37 rfl) ?_
      refine vd_st (by (try simp only [St.put, PV.cells, PV.scal, List.drop_succ_cons, List.drop_zero, List.take_succ_cons, List.take_zero, List.map_cons, List.map_nil, Bool.or_true, Bool.or_false, Bool.false_or, Bool.true_or, opP, pairP, instP, heapP]); exact eq_refl _) ?_
      refine vd_call 8 rfl (by kernel_rfl) (wnt_none rfl) Try.func64 rfl rfl rfl rfl eqPair_sat ?_
      rintro _ _ ⟨rfl, rfl⟩
      refine ⟨rfl, rfl, .inl rfl, ?_⟩
      refine vd_stM ?_
      refine vd_light 9 rfl rfl rfl (by kernel_rfl) (by kernel_rfl) (by kernel_rfl) (wnt_none rfl) (lt_not rfl) ?_
      refine vd_nil (by kernel_rfl) ?_
      refine hK10 _ ?_
      refine vc_cond rfl (fun hc3 => ?_) (fun hc3 => ?_)
      · try simp only [decide_eq_true_eq, decide_eq_false_iff_not, beq_iff_eq, bne_iff_ne, beq_eq_false_iff_ne, bne_eq_false_iff_eq, Bool.not_eq_true, Bool.not_eq_false, Bool.not_eq_eq_eq_not, Bool.not_true, Bool.not_false, List.length_map, Int.not_lt, Int.not_le, ne_eq, Decidable.not_not] at hc3
        refine vc_seq fun K11 hK11 => ?_
        refine vc_region ?_
        refine vo_assign_pv rfl rfl ?_
        refine vo_nil ?_
        refine hK11 _ ?_
        refine vc_ret ?_
        change retQ _ _ _ _ _
        refine retQ_sel [] (srows := []) (.inr rfl) hC rfl rfl rfl rfl rfl rfl rfl ?_
        refine ⟨?_, rfl⟩
        refine (congrArg (fun b => [bo b]) (?_ : _ = _) : [bo _] = [bo _])
        exact bF fun h => hc3 (by rw [h])
      · try simp only [decide_eq_true_eq, decide_eq_false_iff_not, beq_iff_eq, bne_iff_ne, beq_eq_false_iff_ne, bne_eq_false_iff_eq, Bool.not_eq_true, Bool.not_eq_false, Bool.not_eq_eq_eq_not, Bool.not_true, Bool.not_false, List.length_map, Int.not_lt, Int.not_le, ne_eq, Decidable.not_not] at hc3
        refine vc_skip ?_
        refine hK9 _ ?_
        refine vc_region ?_
        refine vo_move_pv rfl rfl ?_
        refine vo_binI rfl rfl rfl rfl sd ?_
        refine vo_assign_pv rfl rfl ?_
        refine vo_nil ?_
        change againE _ _ _ _ _ _ _ _ _ _
        refine againE_mk rfl rfl rfl rfl rfl rfl ⟨_, ?_, k + 1, rfl, ?_, ?_, rfl, rfl⟩
        · omega
        · omega
        · exact (take_eqS (0, 0) (by omega) (by omega)).2 ⟨hf, by first | assumption | (simpa using hc3)⟩
    · try simp only [decide_eq_true_eq, decide_eq_false_iff_not, beq_iff_eq, bne_iff_ne, beq_eq_false_iff_ne, bne_eq_false_iff_eq, Bool.not_eq_true, Bool.not_eq_false, Bool.not_eq_eq_eq_not, Bool.not_true, Bool.not_false, List.length_map, Int.not_lt, Int.not_le, ne_eq, Decidable.not_not] at hc2
      refine vc_exit ?_
      refine hK5 _ ?_
      refine vc_seq fun K12 hK12 => ?_
      refine vc_region ?_
      refine vo_assign_pv rfl rfl ?_
      refine vo_nil ?_
      refine hK12 _ ?_
      refine vc_ret ?_
      change retQ _ _ _ _ _
      refine retQ_sel [] (srows := []) (.inr rfl) hC rfl rfl rfl rfl rfl rfl rfl ?_
      refine ⟨?_, rfl⟩
      refine (congrArg (fun b => [bo b]) (?_ : _ = _) : [bo _] = [bo _])
      rw [take_all (by omega), take_all (by omega)] at hf; exact bT hf


theorem pairNames_sat {nl0 : Option Bool} {pairs : List (Int × Int)} (hpairs : pairs.length < 1000000000)  : SatAt Try.prog 92 [.pv false (.sl nl0 2 (pairs.map pairP))] [] (fun res rows => ∃ nl, res = [.pv true (.sl nl 1 ((nms pairs).map intP))] ∧ rows = []) := by
  refine sat_entry_G (rs := [(2, none)]) Try.func92 rfl rfl (Nat.le_of_ble_eq_true rfl) (Nat.le_of_ble_eq_true rfl) (resTs1 trivial) fun C hC => ?_
  rw [Try.ntmps92]
  replace hC : C.nb = 0 := hC
  refine vc_seq fun K1 hK1 => ?_
  refine vc_region ?_
  refine vo_assign_pv rfl rfl ?_
  refine vo_nil ?_
  refine hK1 _ ?_
  refine vc_seq fun K2 hK2 => ?_
  refine vc_region ?_
  refine vo_assign_pv rfl rfl ?_
  refine vo_nil ?_
  refine hK2 _ ?_
  refine vc_seq fun K3 hK3 => ?_
  refine vc_seq fun K4 hK4 => ?_
  refine vc_region ?_
  refine vo_move_pv rfl rfl ?_
  refine vo_len_pv rfl rfl Try.underlying32 ?_
  refine vo_move_pv rfl rfl ?_
  refine vo_nil ?_
  refine hK4 _ ?_
  refine vc_block ?_
  refine vc_own_nil 3 E50 rfl ?_
  refine vc_stM ?_
  refine vc_loopE [6, 7] [3, 8] [0] _ _ (fun mz vs rs => ∃ (k : Nat), mz = pairs.length - k ∧ (k ≤ pairs.length) ∧ vs = [.ref 0, i64 k] ∧ rs = [Row.own 3 1 none true ((nms (pairs.take k)).map intP)]) (pairs.length) rfl rfl (le_len hC rfl) ⟨rfl, rfl, rfl⟩ rfl ⟨0, rfl, Nat.zero_le _, rfl, rfl⟩ ?_
  rintro mz vs rs - - ⟨k, rfl, hk, rfl, rfl⟩
  refine vc_stM ?_
  refine vc_seq fun K5 hK5 => ?_
  refine vc_region ?_
  refine vo_binI rfl rfl rfl rfl trivial ?_
  refine vo_nil ?_
  refine hK5 _ ?_
  refine vc_seq fun K6 hK6 => ?_
  refine vc_cond rfl (fun hc1 => ?_) (fun hc1 => ?_)
  · try simp only [decide_eq_true_eq, decide_eq_false_iff_not, beq_iff_eq, bne_iff_ne, beq_eq_false_iff_ne, bne_eq_false_iff_eq, Bool.not_eq_true, Bool.not_eq_false, Bool.not_eq_eq_eq_not, Bool.not_true, Bool.not_false, List.length_map, Int.not_lt, Int.not_le, ne_eq, Decidable.not_not] at hc1
    refine vc_skip ?_
    refine hK6 _ ?_
    refine vc_seq fun K7 hK7 => ?_
    refine vc_block ?_
    refine vc_seq fun K8 hK8 => ?_
    refine vc_region ?_
    refine vo_index_pv (.agg [(.int .i64 0), (.int .i64 0)]) rfl rfl rfl E32.und inf37 sz37 sd sd ?_
    simp only [Int.toNat_natCast, Int.toNat_zero, getD_ints, getD_intss, getD_bools, getD_bytes, PV.cells, getD_ops, getD_pairs, getD_insts]
    refine vo_load_adrS rfl rfl Try.underlying37 rfl inf37 sz37 rfl ?_
    refine vo_st (by (try simp only [St.put, PV.cells, PV.scal, List.drop_succ_cons, List.drop_zero, List.take_succ_cons, List.take_zero, List.map_cons, List.map_nil, Bool.or_true, Bool.or_false, Bool.false_or, Bool.true_or, opP, pairP, instP, heapP]); exact eq_refl _) ?_
    refine vo_alloc Z37 rfl ?_
    refine vo_stM ?_
    refine vo_store_varS rfl rfl rfl inf37 sz37 rfl ?_
    refine vo_stM ?_
    refine vo_nil ?_
    refine hK8 _ ?_
    refine vc_region ?_
    refine vo_move_ref rfl rfl ?_
    refine vo_fieldAddr_ptr rfl rfl Try.underlying37 rfl inf3 (by rw [sz3]; decide) ?_
    try simp only [Nat.zero_add]
    refine vo_load_var rfl rfl rfl Try.underlying3 rfl rfl ?_
    refine vo_buildSlice E50 rfl rfl rfl rfl rfl ?_
    refine vo_stM ?_
    refine vo_append E50 rfl (by omega) rfl rfl rfl sd sd ?_
    refine vo_stM ?_
    try simp only [app_ints, app_intss, app_bools]
    refine vo_assign_ref rfl rfl ?_
    refine vo_nil ?_
    refine hK7 _ ?_
    refine vc_region ?_
    refine vo_binI rfl rfl rfl rfl sd ?_
    refine vo_move_pv rfl rfl ?_
    refine vo_nil ?_
    change againE _ _ _ _ _ _ _ _ _ _
    refine againE_mk rfl rfl rfl rfl rfl rfl ⟨_, ?_, k + 1, rfl, ?_, rfl, (by rw [← app_nm1 _ _ (by omega)]; rfl)⟩
    · omega
    · omega
  · try simp only [decide_eq_true_eq, decide_eq_false_iff_not, beq_iff_eq, bne_iff_ne, beq_eq_false_iff_ne, bne_eq_false_iff_eq, Bool.not_eq_true, Bool.not_eq_false, Bool.not_eq_eq_eq_not, Bool.not_true, Bool.not_false, List.length_map, Int.not_lt, Int.not_le, ne_eq, Decidable.not_not] at hc1
    refine vc_exit ?_
    refine hK3 _ ?_
    refine vc_seq fun K9 hK9 => ?_
    refine vc_region ?_
    refine vo_move_ref rfl rfl ?_
    refine vo_assign_ref rfl rfl ?_
    refine vo_nil ?_
    refine hK9 _ ?_
    refine vc_expose 0 (by omega) rfl ?_
    refine vc_stM ?_
    refine vc_ret ?_
    change retQ _ _ _ _ _
    refine retQ_sel [] (srows := []) (.inr rfl) hC rfl rfl rfl rfl rfl rfl rfl ?_
    rw [show pairs.take k = pairs from take_all (by omega)]; exact ⟨_, rfl, rfl⟩


theorem haveDifferentNames_sat {nl0 : Option Bool} {pairs : List (Int × Int)} {most : Int} (hpairs : pairs.length < 1000000000)  : SatAt Try.prog 59 [.pv false (.sl nl0 2 (pairs.map pairP)), i64 most] [] (fun res rows => res = [bo (decide (pairs.length ≤ most ∧ (nms pairs).Nodup))] ∧ rows = []) := by
  refine sat_entry_G (rs := [(4, none)]) Try.func59 rfl rfl (Nat.le_of_ble_eq_true rfl) (Nat.le_of_ble_eq_true rfl) (resTs1 trivial) fun C hC => ?_
  rw [Try.ntmps59]
  replace hC : C.nb = 0 := hC
  refine vc_seq fun K1 hK1 => ?_
  refine vc_region ?_
  refine vo_assign_pv rfl rfl ?_
  refine vo_nil ?_
  refine hK1 _ ?_
  refine vc_seq fun K2 hK2 => ?_
  refine vc_region ?_
  refine vo_move_pv rfl rfl ?_
  refine vo_len_pv rfl rfl Try.underlying32 ?_
  refine vo_move_pv rfl rfl ?_
  refine vo_binI rfl rfl rfl rfl trivial ?_
  refine vo_move_pv rfl rfl ?_
  refine vo_split 9 rfl (fun hg1 => ?_) (fun hg1 => ?_)
  · try simp only [decide_eq_true_eq, decide_eq_false_iff_not, beq_iff_eq, bne_iff_ne, beq_eq_false_iff_ne, bne_eq_false_iff_eq, Bool.not_eq_true, Bool.not_eq_false, Bool.not_eq_eq_eq_not, Bool.not_true, Bool.not_false, List.length_map, Int.not_lt, Int.not_le, ne_eq, Decidable.not_not] at hg1
    refine vo_guard_on rfl rfl rfl ?_
    refine vo_move_pv rfl rfl ?_
    refine vo_guard_on rfl rfl rfl ?_
    refine vo_call0 Try.func92 rfl rfl rfl rfl (pairNames_sat hpairs) ?_
    rintro _ _ ⟨nl9, rfl, rfl⟩
    refine ⟨rfl, rfl, .inl rfl, ?_⟩
    refine vo_stM ?_
    refine vo_guard_on rfl rfl rfl ?_
    refine vo_move_pv rfl rfl ?_
    refine vo_guard_on rfl rfl rfl ?_
    refine vo_call0 Try.func76 rfl rfl rfl rfl (isList_sat (list := nms pairs) (by rw [nms_len]; omega)) ?_
    rintro _ _ ⟨rfl, rfl⟩
    refine ⟨rfl, rfl, .inl rfl, ?_⟩
    refine vo_stM ?_
    refine vo_pick_t rfl rfl ?_
    refine vo_assign_pv rfl rfl ?_
    refine vo_nil ?_
    refine hK2 _ ?_
    refine vc_ret ?_
    change retQ _ _ _ _ _
    refine retQ_sel [] (srows := []) (.inr rfl) hC rfl rfl rfl rfl rfl rfl rfl ?_
    refine ⟨?_, rfl⟩
    refine (congrArg (fun b => [bo b]) (?_ : _ = _) : [bo _] = [bo _])
    exact decide_eq_decide.2 ⟨fun h => ⟨by omega, h.2⟩, fun h => ⟨by rw [nms_len]; omega, h.2⟩⟩
  · try simp only [decide_eq_true_eq, decide_eq_false_iff_not, beq_iff_eq, bne_iff_ne, beq_eq_false_iff_ne, bne_eq_false_iff_eq, Bool.not_eq_true, Bool.not_eq_false, Bool.not_eq_eq_eq_not, Bool.not_true, Bool.not_false, List.length_map, Int.not_lt, Int.not_le, ne_eq, Decidable.not_not] at hg1
    refine vo_guard_off rfl rfl rfl rfl rfl ?_
    refine vo_guard_off rfl rfl rfl rfl rfl ?_
    refine vo_guard_off rfl rfl rfl rfl rfl ?_
    refine vo_guard_off rfl rfl rfl rfl rfl ?_
    refine vo_pick_f rfl rfl ?_
    refine vo_assign_pv rfl rfl ?_
    refine vo_nil ?_
    refine hK2 _ ?_
    refine vc_ret ?_
    change retQ _ _ _ _ _
    refine retQ_sel [] (srows := []) (.inr rfl) hC rfl rfl rfl rfl rfl rfl rfl ?_
    refine ⟨?_, rfl⟩
    refine (congrArg (fun b => [bo b]) (?_ : _ = _) : [bo _] = [bo _])
    exact bF fun h => by have := h.1; omega


theorem IndexP_sat {nl0 : Option Bool} {s : List (Int × Int)} {v : Int × Int} (hs : s.length < 1000000000)  : SatAt Try.prog 93 [.pv false (.sl nl0 2 (s.map pairP)), .pv false (pairP v)] [] (fun res rows => ∃ x : Int, (0 ≤ x ↔ v ∈ s) ∧ res = [i64 x] ∧ rows = []) := by
  refine sat_entry_G (rs := [(4, none)]) Try.func93 rfl rfl (Nat.le_of_ble_eq_true rfl) (Nat.le_of_ble_eq_true rfl) (resTs1 trivial) fun C hC => ?_
  rw [Try.ntmps93]
  replace hC : C.nb = 0 := hC
  refine vc_seq fun K1 hK1 => ?_
  refine vc_region ?_
  refine vo_box rfl rfl ?_
  refine vo_stM ?_
  refine vo_assign_pv rfl rfl ?_
  refine vo_nil ?_
  refine hK1 _ ?_
  refine vc_seq fun K2 hK2 => ?_
  refine vc_seq fun K3 hK3 => ?_
  refine vc_region ?_
  refine vo_move_pv rfl rfl ?_
  refine vo_len_pv rfl rfl Try.underlying32 ?_
  refine vo_move_pv rfl rfl ?_
  refine vo_nil ?_
  refine hK3 _ ?_
  refine vc_block ?_
  refine vc_stM ?_
  refine vc_loopE [0, 3, 7] [8] [] _ _ (fun mz vs rs => ∃ (k : Nat), mz = s.length - k ∧ (k ≤ s.length) ∧ (v ∉ s.take k) ∧ vs = [i64 k] ∧ rs = []) (s.length) rfl rfl (le_len hC rfl) ⟨rfl, rfl, rfl⟩ rfl ⟨0, rfl, Nat.zero_le _, (by simp), rfl, rfl⟩ ?_
  rintro mz vs rs - - ⟨k, rfl, hk, hf, rfl, rfl⟩
  refine vc_stM ?_
  refine vc_seq fun K4 hK4 => ?_
  refine vc_region ?_
  refine vo_binI rfl rfl rfl rfl trivial ?_
  refine vo_nil ?_
  refine hK4 _ ?_
  refine vc_seq fun K5 hK5 => ?_
  refine vc_cond rfl (fun hc1 => ?_) (fun hc1 => ?_)
  · try simp only [decide_eq_true_eq, decide_eq_false_iff_not, beq_iff_eq, bne_iff_ne, beq_eq_false_iff_ne, bne_eq_false_iff_eq, Bool.not_eq_true, Bool.not_eq_false, Bool.not_eq_eq_eq_not, Bool.not_true, Bool.not_false, List.length_map, Int.not_lt, Int.not_le, ne_eq, Decidable.not_not] at hc1
    refine vc_skip ?_
    refine hK5 _ ?_
    refine vc_seq fun K6 hK6 => ?_
    refine vc_block ?_
    refine vc_seq fun K7 hK7 => ?_
    refine vc_region ?_
    refine vo_move_pv rfl rfl ?_
    refine vo_assign_pv rfl rfl ?_
    refine vo_nil ?_
    refine hK7 _ ?_
    refine vc_seq fun K8 hK8 => ?_
    refine vc_draw (by kernel_rfl) ?_
    change VD _ _ _ 6 _ _ _
    refine vd_light 0 rfl rfl rfl (by kernel_rfl) (by kernel_rfl) (by kernel_rfl) (wnt_none rfl) (lt_load_varS rfl rfl Try.underlying37 rfl inf37 sz37 rfl rfl) ?_
    refine vd_light 1 rfl rfl rfl (by kernel_rfl) (by kernel_rfl) (by kernel_rfl) (wnt_none rfl) (lt_move_pv rfl) ?_
    refine vd_light 2 rfl rfl rfl (by kernel_rfl) (by kernel_rfl) (by kernel_rfl) (wnt_none rfl) (lt_move_pv rfl) ?_
    refine vd_light 3 rfl rfl rfl (by kernel_rfl) (by kernel_rfl) (by kernel_rfl) (wnt_none rfl) (lt_index_pv (.agg [(.int .i64 0), (.int .i64 0)]) rfl rfl E32.und inf37 sz37 sd sd) ?_
    simp only [Int.toNat_natCast, Int.toNat_zero, getD_ints, getD_intss, getD_bools, getD_bytes, PV.cells, getD_ops, getD_pairs, getD_insts]
    refine vd_light 4 rfl rfl rfl (by kernel_rfl) (by kernel_rfl) (by kernel_rfl) (wnt_none rfl) (lt_load_adrS rfl Try.underlying37 rfl inf37 sz37 rfl) ?_
    refine vd_st (by (try simp only [St.put, PV.cells, PV.scal, List.drop_succ_cons, List.drop_zero, List.take_succ_cons, List.take_zero, List.map_cons, List.map_nil, Bool.or_true, Bool.or_false, Bool.false_or, Bool.true_or, opP, pairP, instP, heapP]); exact eq_refl _) ?_
    refine vd_light 5 rfl rfl rfl (by kernel_rfl) (by kernel_rfl) (by kernel_rfl) (wnt_none rfl) (lt_eqS2 Q37 rfl rfl) ?_
    refine vd_nil (by kernel_rfl) ?_
    refine hK8 _ ?_
    refine vc_cond rfl (fun hc2 => ?_) (fun hc2 => ?_)
    · try simp only [decide_eq_true_eq, decide_eq_false_iff_not, beq_iff_eq, bne_iff_ne, beq_eq_false_iff_ne, bne_eq_false_iff_eq, Bool.not_eq_true, Bool.not_eq_false, Bool.not_eq_eq_eq_not, Bool.not_true, Bool.not_false, List.length_map, Int.not_lt, Int.not_le, ne_eq, Decidable.not_not] at hc2
      refine vc_seq fun K9 hK9 => ?_
      refine vc_region ?_
      refine vo_move_pv rfl rfl ?_
      refine vo_assign_pv rfl rfl ?_
      refine vo_nil ?_
      refine hK9 _ ?_
      refine vc_ret ?_
      change retQ _ _ _ _ _
      refine retQ_sel [] (srows := []) (.inr rfl) hC rfl rfl rfl rfl rfl rfl rfl ?_
      have hv : v = s.getD k (0, 0) := Prod.ext_iff.2 (by first | exact hc2 | exact ⟨hc2.1, hc2.2⟩ | (rw [Bool.and_eq_true, beq_iff_eq, beq_iff_eq] at hc2; exact hc2) | exact ⟨hc2.1.symm, hc2.2.symm⟩)
      exact ⟨_, ⟨fun _ => by rw [hv]; exact getD_mem (show k < s.length by omega) (0, 0), fun _ => by omega⟩, rfl, rfl⟩
    · try simp only [decide_eq_true_eq, decide_eq_false_iff_not, beq_iff_eq, bne_iff_ne, beq_eq_false_iff_ne, bne_eq_false_iff_eq, Bool.not_eq_true, Bool.not_eq_false, Bool.not_eq_eq_eq_not, Bool.not_true, Bool.not_false, List.length_map, Int.not_lt, Int.not_le, ne_eq, Decidable.not_not] at hc2
      refine vc_skip ?_
      refine hK6 _ ?_
      refine vc_region ?_
      refine vo_binI rfl rfl rfl rfl sd ?_
      refine vo_move_pv rfl rfl ?_
      refine vo_nil ?_
      change againE _ _ _ _ _ _ _ _ _ _
      refine againE_mk rfl rfl rfl rfl rfl rfl ⟨_, ?_, k + 1, rfl, ?_, ?_, rfl, rfl⟩
      · omega
      · omega
      · intro hm
        rw [List.take_add_one, List.getElem?_eq_getElem (by omega)] at hm
        rcases List.mem_append.1 hm with hm | hm
        · exact hf hm
        · have e : v = s.getD k (0, 0) := by simp only [Option.toList_some, List.mem_singleton] at hm; rw [hm, List.getD, List.getElem?_eq_getElem (by omega)]; rfl
          rw [e] at hc2; first | exact hc2 ⟨rfl, rfl⟩ | simp at hc2
  · try simp only [decide_eq_true_eq, decide_eq_false_iff_not, beq_iff_eq, bne_iff_ne, beq_eq_false_iff_ne, bne_eq_false_iff_eq, Bool.not_eq_true, Bool.not_eq_false, Bool.not_eq_eq_eq_not, Bool.not_true, Bool.not_false, List.length_map, Int.not_lt, Int.not_le, ne_eq, Decidable.not_not] at hc1
    refine vc_exit ?_
    refine hK2 _ ?_
    refine vc_seq fun K10 hK10 => ?_
    refine vc_region ?_
    refine vo_assign_pv rfl rfl ?_
    refine vo_nil ?_
    refine hK10 _ ?_
    refine vc_ret ?_
    change retQ _ _ _ _ _
    refine retQ_sel [] (srows := []) (.inr rfl) hC rfl rfl rfl rfl rfl rfl rfl ?_
    rw [take_all (by omega)] at hf
    exact ⟨_, ⟨fun h => by omega, fun h => absurd h hf⟩, rfl, rfl⟩


theorem ContainsP_sat {nl0 : Option Bool} {s : List (Int × Int)} {v : Int × Int} (hs : s.length < 1000000000)  : SatAt Try.prog 60 [.pv false (.sl nl0 2 (s.map pairP)), .pv false (pairP v)] [] (fun res rows => res = [bo (decide (v ∈ s))] ∧ rows = []) := by
  refine sat_entry_G (rs := [(4, none)]) Try.func60 rfl rfl (Nat.le_of_ble_eq_true rfl) (Nat.le_of_ble_eq_true rfl) (resTs1 trivial) fun C hC => ?_
  rw [Try.ntmps60]
  replace hC : C.nb = 0 := hC
  refine vc_seq fun K1 hK1 => ?_
  refine vc_region ?_
  refine vo_box rfl rfl ?_
  refine vo_stM ?_
  refine vo_assign_pv rfl rfl ?_
  refine vo_nil ?_
  refine hK1 _ ?_
  refine vc_seq fun K2 hK2 => ?_
  refine vc_region ?_
  refine vo_move_pv rfl rfl ?_
  refine vo_load_varS rfl rfl rfl Try.underlying37 rfl inf37 sz37 rfl rfl ?_
  refine vo_call0 Try.func93 rfl rfl rfl rfl (IndexP_sat hs) ?_
  rintro _ _ ⟨x, hx, rfl, rfl⟩
  refine ⟨rfl, rfl, .inl rfl, ?_⟩
  refine vo_stM ?_
  refine vo_binI rfl rfl rfl rfl trivial ?_
  refine vo_assign_pv rfl rfl ?_
  refine vo_nil ?_
  refine hK2 _ ?_
  refine vc_ret ?_
  change retQ _ _ _ _ _
  refine retQ_sel [] (srows := []) (.inr rfl) hC rfl rfl rfl rfl rfl rfl rfl ?_
  refine ⟨?_, rfl⟩
  refine (congrArg (fun b => [bo b]) (?_ : _ = _) : [bo _] = [bo _])
  exact decide_eq_decide.2 hx

end Go.Vl

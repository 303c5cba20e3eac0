/- Part 4 of the texts that the proof of FnIsSub is built on. -/
import Derived.Test.YtlpchicpbnmdgacVl3
import Derived.Shelf.Sort.Plain
import Derived.Shelf.Slices.In.SortNone
import Derived.Test.YtlpchicpbnmdgacProg
namespace Go.Vl
set_option linter.unusedVariables false
set_option linter.unusedSimpArgs false
open Go.Proofs
open Go.Proofs
def okReg (n : Nat) (p : Int × Int) : Prop := (0 ≤ p.1 ∧ p.1 ≤ (n : Int) - 1) ∧ 0 ≤ p.2 ∧ p.2 ≤ (n : Int) - 1
def VRegs (b : List (List Int)) (r : List (Int × Int)) : Prop := VB b ∧ r.length ≤ 8 ∧ ∀ p ∈ r, okReg b.length p
instance (n : Nat) (p : Int × Int) : Decidable (okReg n p) := by unfold okReg; infer_instance
instance (b : List (List Int)) (r : List (Int × Int)) : Decidable (VRegs b r) := by unfold VRegs; infer_instance
theorem okReg_succ {n : Nat} {r : List (Int × Int)} {k : Nat} (hk : k < r.length) (h : ∀ p ∈ r.take k, okReg n p) (h2 : okReg n (r.getD k (0, 0))) : ∀ p ∈ r.take (k + 1), okReg n p := by
  intro p hp
  rw [List.take_add_one, List.getElem?_eq_getElem hk] at hp
  rcases List.mem_append.1 hp with h9 | h9
  · exact h p h9
  · simp only [Option.toList_some, List.mem_singleton] at h9
    rw [List.getD, List.getElem?_eq_getElem hk] at h2
    rw [h9]; exact h2
theorem okReg_at {n : Nat} {r : List (Int × Int)} {k : Nat} (hk : k < r.length) (h : ∀ p ∈ r, okReg n p) : okReg n (r.getD k (0, 0)) := h _ (getD_mem hk (0, 0))
theorem upto2 {a b m : Int} : (∀ x ∈ [a, b], 0 ≤ x ∧ x ≤ m) ↔ (0 ≤ a ∧ a ≤ m) ∧ 0 ≤ b ∧ b ≤ m := by simp
def selI (p : Int → Bool) (k : Nat) : List Int := ((List.range k).map fun i : Nat => (i : Int)).filter p
theorem selI_len (p : Int → Bool) (k : Nat) : (selI p k).length ≤ k := by
  unfold selI; refine Nat.le_trans (List.length_filter_le _ _) (by simp)
theorem selI_mem {p : Int → Bool} {k : Nat} {n : Int} : n ∈ selI p k ↔ p n = true ∧ 0 ≤ n ∧ n < k := by
  unfold selI
  rw [List.mem_filter, List.mem_map]
  constructor
  · rintro ⟨⟨i, hi, rfl⟩, h⟩; have := List.mem_range.1 hi; exact ⟨h, by omega, by omega⟩
  · rintro ⟨h, h0, h1⟩; exact ⟨⟨n.toNat, List.mem_range.2 (by omega), by omega⟩, h⟩
theorem selI_asc (p : Int → Bool) (k : Nat) : (selI p k).Pairwise (· < ·) := by
  unfold selI
  refine List.Pairwise.filter _ ?_
  rw [List.pairwise_map]
  exact List.pairwise_lt_range.imp fun h => by omega
/-- Ascending lists with the same numbers are equal. -/
theorem asc_ext : ∀ {a b : List Int}, a.Pairwise (· < ·) → b.Pairwise (· < ·) → (∀ n, n ∈ a ↔ n ∈ b) → a = b
  | [], [], _, _, _ => rfl
  | [], y :: b, _, _, h => by have := (h y).2 (by simp); cases this
  | x :: a, [], _, _, h => by have := (h x).1 (by simp); cases this
  | x :: a, y :: b, ha, hb, h => by
    have ha1 := List.pairwise_cons.1 ha
    have hb1 := List.pairwise_cons.1 hb
    have hxy : x = y := by
      rcases List.mem_cons.1 ((h x).1 (by simp)) with e | hx
      · exact e
      · rcases List.mem_cons.1 ((h y).2 (by simp)) with e | hy
        · exact e.symm
        · have := ha1.1 y hy; have := hb1.1 x hx; omega
    subst hxy
    have : a = b := asc_ext ha1.2 hb1.2 fun n => by
      constructor
      · intro hn
        rcases List.mem_cons.1 ((h n).1 (by simp [hn])) with e | hn2
        · have := ha1.1 n hn; omega
        · exact hn2
      · intro hn
        rcases List.mem_cons.1 ((h n).2 (by simp [hn])) with e | hn2
        · have := hb1.1 n hn; omega
        · exact hn2
    rw [this]
theorem srt_pair (l : List Int) : (srt l).Pairwise (· ≤ ·) := by
  have := List.pairwise_mergeSort (le := fun x y : Int => decide (x ≤ y)) (fun a b c h1 h2 => by simp only [decide_eq_true_eq] at *; omega) (fun a b => by simp only [Bool.or_eq_true, decide_eq_true_eq]; omega) l
  exact this.imp fun h => by simpa using h
theorem srt_mem (l : List Int) (x : Int) : x ∈ srt l ↔ x ∈ l := (List.mergeSort_perm l _).mem_iff
/-- What one step up leads to. -/
def upM (b : List (List Int)) (r : List (Int × Int)) (c : Int) : List Int := b.getD c.toNat [] ++ (r.filter fun p => decide (p.1 = c)).map Prod.snd
theorem take_oneR {l : List (Int × Int)} {k : Nat} (h : k < l.length) : l.take (k+1) = l.take k ++ [l.getD k (0, 0)] := by rw [List.take_add_one, List.getD, List.getElem?_eq_getElem h]; rfl
theorem upM_yes {b : List (List Int)} {r : List (Int × Int)} {c : Int} {k : Nat} (h : k < r.length) (hp : (r.getD k (0, 0)).1 = c) : upM b (r.take (k+1)) c = upM b (r.take k) c ++ [(r.getD k (0, 0)).2] := by
  unfold upM; rw [take_oneR h, List.filter_append, List.filter_cons_of_pos (by simpa using hp), List.map_append, List.append_assoc]; rfl
theorem upM_no {b : List (List Int)} {r : List (Int × Int)} {c : Int} {k : Nat} (h : k < r.length) (hp : ¬ (r.getD k (0, 0)).1 = c) : upM b (r.take (k+1)) c = upM b (r.take k) c := by
  unfold upM; rw [take_oneR h, List.filter_append, List.filter_cons_of_neg (by simpa using hp)]; simp
theorem upM_nil (b : List (List Int)) (c : Int) : upM b [] c = b.getD c.toNat [] := by simp [upM]
theorem upM_len {b : List (List Int)} {r : List (Int × Int)} {c : Int} : (upM b r c).length ≤ (b.getD c.toNat []).length + r.length := by
  unfold upM; rw [List.length_append, List.length_map]; have := List.length_filter_le (fun p : Int × Int => decide (p.1 = c)) r; omega
theorem onceF_app : ∀ (l acc m : List Int), onceF acc (l ++ m) = onceF (onceF acc l) m
  | [], _, _ => rfl
  | x :: l, acc, m => by
    simp only [List.cons_append, onceF]
    split <;> exact onceF_app l _ m
theorem onceF_nodup : ∀ {l acc : List Int}, (acc ++ l).Nodup → onceF acc l = acc ++ l
  | [], _, _ => by simp [onceF]
  | x :: l, acc, h => by
    have hx : x ∉ acc := fun hx => by
      have := (List.nodup_append.1 h).2.2 x hx x (by simp)
      exact this rfl
    simp only [onceF, if_neg hx]
    rw [onceF_nodup (by simpa using h)]
    simp
/-- One more class goes on. -/
def grow1 (next : Int → List Int) (met : List Int) (i : Nat) : List Int := onceF met (next (met.getD i 0))
def growM (next : Int → List Int) : Nat → List Int → Nat → List Int
  | 0, met, _ => met
  | f + 1, met, i => if i < met.length then growM next f (grow1 next met i) (i + 1) else met
theorem growM_end {next : Int → List Int} {f i : Nat} {met : List Int} (h : met.length ≤ i) : growM next f met i = met := by
  cases f with
  | zero => rfl
  | succ f => unfold growM; rw [if_neg (by omega)]
theorem growM_step {next : Int → List Int} {f i : Nat} {met : List Int} (h : i < met.length) (hf : i < f) : growM next (f - i) met i = growM next (f - (i + 1)) (grow1 next met i) (i + 1) := by
  obtain ⟨g, hg⟩ : ∃ g, f - i = g + 1 := ⟨f - i - 1, by omega⟩
  rw [hg, show f - (i + 1) = g by omega]
  simp only [growM, if_pos h]
/-- Classes that are met: each once, all there. -/
def MetOK (n : Nat) (met : List Int) : Prop := met.Nodup ∧ ∀ x ∈ met, 0 ≤ x ∧ x < n
theorem MetOK.len {n : Nat} {met : List Int} (h : MetOK n met) : met.length ≤ n := pig n met h.1 h.2
theorem metOK_once {n : Nat} : ∀ {l acc : List Int}, MetOK n acc → (∀ x ∈ l, 0 ≤ x ∧ x < n) → MetOK n (onceF acc l) ∧ acc.length ≤ (onceF acc l).length
  | [], acc, h, _ => ⟨h, Nat.le_refl _⟩
  | x :: l, acc, h, hl => by
    simp only [onceF]
    split
    · exact metOK_once h fun y hy => hl y (by simp [hy])
    · rename_i hx
      have h2 : MetOK n (acc ++ [x]) := ⟨List.nodup_append.2 ⟨h.1, by simp, fun a ha b hb e => hx (by rw [List.mem_singleton.1 hb] at e; rw [← e]; exact ha)⟩, fun y hy => by
        rcases List.mem_append.1 hy with h3 | h3
        · exact h.2 y h3
        · rw [List.mem_singleton.1 h3]; exact hl x (by simp)⟩
      have h3 := metOK_once (l := l) h2 fun y hy => hl y (List.mem_cons_of_mem _ hy)
      exact ⟨h3.1, by have := h3.2; rw [List.length_append] at this; omega⟩
theorem upM_in {b : List (List Int)} {r : List (Int × Int)} (h : VRegs b r) {c : Int} (h0 : 0 ≤ c) (h1 : c < b.length) : ∀ x ∈ upM b r c, 0 ≤ x ∧ x < (b.length : Int) := by
  intro x hx
  unfold upM at hx
  rcases List.mem_append.1 hx with h3 | h3
  · have := (h.1.at (show c.toNat < b.length by omega)).2.2 x h3
    omega
  · obtain ⟨p, hp, rfl⟩ := List.mem_map.1 h3
    have := h.2.2 p (List.mem_filter.1 hp).1
    unfold okReg at this
    omega
theorem upM_lim {b : List (List Int)} {r : List (Int × Int)} (h : VRegs b r) {c : Int} (h0 : 0 ≤ c) (h1 : c < b.length) : (upM b r c).length ≤ 12 := by
  have h2 := (h.1.at (show c.toNat < b.length by omega)).1
  have h3 := h.2.1
  have := upM_len (b := b) (r := r) (c := c)
  omega
def hasRC (b : List (List Int)) (r : List (Int × Int)) (l : List Int) : Prop := VRegs b r ∧ ∀ x ∈ l, 0 ≤ x ∧ x ≤ (b.length : Int) - 1
instance (b : List (List Int)) (r : List (Int × Int)) (l : List Int) : Decidable (hasRC b r l) := by unfold hasRC; infer_instance
def metU (b : List (List Int)) (r : List (Int × Int)) (c : Int) : List Int := growM (upM b r) 13 [c] 0
def supM (b : List (List Int)) (r : List (Int × Int)) (c : Int) : List Int := if hasRC b r [c] then srt (metU b r c) else []
theorem met_one {n : Nat} {c : Int} (h0 : 0 ≤ c) (h1 : c < n) : MetOK n [c] := ⟨by simp, fun x hx => by rw [List.mem_singleton.1 hx]; exact ⟨h0, h1⟩⟩
theorem grow_step {b : List (List Int)} {r : List (Int × Int)} (h : VRegs b r) {met : List Int} {i : Nat} (hm : MetOK b.length met) (hi : i < met.length) : MetOK b.length (grow1 (upM b r) met i) ∧ met.length ≤ (grow1 (upM b r) met i).length := by
  have hx := hm.2 _ (getD_mem hi 0)
  exact metOK_once hm (upM_in h hx.1 hx.2)
theorem once_grow {next : Int → List Int} {met : List Int} {i : Nat} (h : met.Nodup) : onceF [] (met ++ next (met.getD i 0)) = grow1 next met i := by
  rw [onceF_app, onceF_nodup (l := met) (acc := []) (by simpa using h)]; rfl

theorem implValidRegs_sat {nl0 : Option Bool} {bases : List (List Int)} {nl1 : Option Bool} {regs : List (Int × Int)} (hbases : bases.length < 1000000000) (hlbases : ∀ l ∈ bases, l.length < 1000000000) (hregs : regs.length < 1000000000)  : SatAt Try.prog 45 [.pv false (.sl nl0 1 (bases.map ints)), .pv false (.sl nl1 2 (regs.map pairP))] [] (fun res rows => res = [bo (decide (VRegs bases regs))] ∧ rows = []) := by
  refine sat_entry_G (rs := [(4, none)]) Try.func45 rfl rfl (Nat.le_of_ble_eq_true rfl) (Nat.le_of_ble_eq_true rfl) (resTs1 trivial) fun C hC => ?_
  rw [Try.ntmps45]
  replace hC : C.nb = 0 := hC
  refine vc_seq fun K1 hK1 => ?_
  refine vc_region ?_
  refine vo_assign_pv rfl rfl ?_
  refine vo_nil ?_
  refine hK1 _ ?_
  refine vc_seq fun K2 hK2 => ?_
  refine vc_seq fun K3 hK3 => ?_
  refine vc_region ?_
  refine vo_move_pv rfl rfl ?_
  refine vo_call0 Try.func21 rfl rfl rfl rfl (implValidBases_sat hbases hlbases) ?_
  rintro _ _ ⟨rfl, rfl⟩
  refine ⟨rfl, rfl, .inl rfl, ?_⟩
  refine vo_stM ?_
  refine vo_not rfl rfl ?_
  refine vo_move_pv rfl rfl ?_
  refine vo_split 10 rfl (fun hg1 => ?_) (fun hg1 => ?_)
  · try simp only [zq0, zq1, zq2, zq3, zq4, zq5, zq6, zq7, zq8, zq9, zqa, zqb, zqc, zqd, zqe, zqf] at hg1
    refine vo_guard_off rfl rfl rfl rfl rfl ?_
    refine vo_guard_off rfl rfl rfl rfl rfl ?_
    refine vo_guard_off rfl rfl rfl rfl rfl ?_
    refine vo_pick_t rfl rfl ?_
    refine vo_nil ?_
    refine hK3 _ ?_
    refine vc_cond_t rfl ?_
    refine vc_seq fun K4 hK4 => ?_
    refine vc_region ?_
    refine vo_assign_pv rfl rfl ?_
    refine vo_nil ?_
    refine hK4 _ ?_
    refine vc_ret ?_
    change retQ _ _ _ _ _
    refine retQ_sel [] (srows := []) (.inr rfl) hC rfl rfl rfl rfl rfl rfl rfl ?_
    refine ⟨?_, rfl⟩
    refine (congrArg (fun b => [bo b]) (?_ : _ = _) : [bo _] = [bo _])
    first
      | (refine bF fun h0 => ?_
         have h1 := h0.2.1
         first
           | omega
           | exact absurd h0.1 (by assumption)
           | (have h2 := okReg_at (show k < regs.length by omega) h0.2.2
              unfold okReg at h2
              first | omega | exact absurd h2 (by assumption) | exact absurd (upto2.2 h2) (by assumption) | (simp_all; done) | (simp_all; omega)))
      | (rw [take_all (by omega)] at hf; exact bT ⟨by assumption, by omega, hf⟩)
      | (refine bF fun h0 => ?_; exact absurd h0.1 (by assumption))
      | (rw [take_all (by omega)] at hf
         have hml : (regs.map pairP).length = regs.length := List.length_map ..
         refine decide_eq_decide.2 ⟨fun h => ?_, fun h => ?_⟩
         · exact ⟨by assumption, by omega, hf⟩
         · have h8 := h.2.1
           omega)
  · try simp only [zq0, zq1, zq2, zq3, zq4, zq5, zq6, zq7, zq8, zq9, zqa, zqb, zqc, zqd, zqe, zqf] at hg1
    refine vo_guard_on rfl rfl rfl ?_
    refine vo_move_pv rfl rfl ?_
    refine vo_guard_on rfl rfl rfl ?_
    refine vo_len_pv rfl rfl Try.underlying43 ?_
    refine vo_guard_on rfl rfl rfl ?_
    refine vo_binI rfl rfl rfl rfl trivial ?_
    refine vo_pick_f rfl rfl ?_
    refine vo_nil ?_
    refine hK3 _ ?_
    refine vc_cond rfl (fun hc2 => ?_) (fun hc2 => ?_)
    · try simp only [zq0, zq1, zq2, zq3, zq4, zq5, zq6, zq7, zq8, zq9, zqa, zqb, zqc, zqd, zqe, zqf] at hc2
      refine vc_seq fun K5 hK5 => ?_
      refine vc_region ?_
      refine vo_assign_pv rfl rfl ?_
      refine vo_nil ?_
      refine hK5 _ ?_
      refine vc_ret ?_
      change retQ _ _ _ _ _
      refine retQ_sel [] (srows := []) (.inr rfl) hC rfl rfl rfl rfl rfl rfl rfl ?_
      refine ⟨?_, rfl⟩
      refine (congrArg (fun b => [bo b]) (?_ : _ = _) : [bo _] = [bo _])
      first
        | (refine bF fun h0 => ?_
           have h1 := h0.2.1
           first
             | omega
             | exact absurd h0.1 (by assumption)
             | (have h2 := okReg_at (show k < regs.length by omega) h0.2.2
                unfold okReg at h2
                first | omega | exact absurd h2 (by assumption) | exact absurd (upto2.2 h2) (by assumption) | (simp_all; done) | (simp_all; omega)))
        | (rw [take_all (by omega)] at hf; exact bT ⟨by assumption, by omega, hf⟩)
        | (refine bF fun h0 => ?_; exact absurd h0.1 (by assumption))
        | (rw [take_all (by omega)] at hf
           have hml : (regs.map pairP).length = regs.length := List.length_map ..
           refine decide_eq_decide.2 ⟨fun h => ?_, fun h => ?_⟩
           · exact ⟨by assumption, by omega, hf⟩
           · have h8 := h.2.1
             omega)
    · try simp only [zq0, zq1, zq2, zq3, zq4, zq5, zq6, zq7, zq8, zq9, zqa, zqb, zqc, zqd, zqe, zqf] at hc2
      refine vc_skip ?_
      refine hK2 _ ?_
      refine vc_seq fun K6 hK6 => ?_
      refine vc_seq fun K7 hK7 => ?_
      refine vc_region ?_
      refine vo_move_pv rfl rfl ?_
      refine vo_len_pv rfl rfl Try.underlying43 ?_
      refine vo_move_pv rfl rfl ?_
      refine vo_nil ?_
      refine hK7 _ ?_
      refine vc_block ?_
      refine vc_stM ?_
      refine vc_loopE [0, 15, 16] [17] [] _ _ (fun mz vs rs => ∃ (k : Nat), mz = regs.length - k ∧ (k ≤ regs.length) ∧ (∀ p ∈ regs.take k, okReg bases.length p) ∧ vs = [i64 k] ∧ rs = []) (regs.length) rfl rfl (le_len hC rfl) ⟨rfl, rfl, rfl⟩ rfl ⟨0, rfl, Nat.zero_le _, (by simp), rfl, rfl⟩ ?_
      rintro mz vs rs - - ⟨k, rfl, hk, hf, rfl, rfl⟩
      refine vc_stM ?_
      refine vc_seq fun K8 hK8 => ?_
      refine vc_region ?_
      refine vo_binI rfl rfl rfl rfl trivial ?_
      refine vo_nil ?_
      refine hK8 _ ?_
      refine vc_seq fun K9 hK9 => ?_
      refine vc_cond rfl (fun hc3 => ?_) (fun hc3 => ?_)
      · try simp only [zq0, zq1, zq2, zq3, zq4, zq5, zq6, zq7, zq8, zq9, zqa, zqb, zqc, zqd, zqe, zqf] at hc3
        refine vc_skip ?_
        refine hK9 _ ?_
        refine vc_seq fun K10 hK10 => ?_
        refine vc_block ?_
        refine vc_seq fun K11 hK11 => ?_
        refine vc_region ?_
        refine vo_index_pv (.agg [(.int .i64 0), (.int .i64 0)]) rfl rfl rfl E43.und inf85 sz85 sd sd ?_
        simp only [Int.toNat_natCast, Int.toNat_zero, getD_ints, getD_intss, getD_bools, getD_bytes, PV.cells, getD_pairs]
        refine vo_load_adrS rfl rfl Try.underlying85 rfl inf85 sz85 rfl ?_
        refine vo_st (by (try simp only [St.put, PV.cells, PV.scal, List.drop_succ_cons, List.drop_zero, List.take_succ_cons, List.take_zero, List.map_cons, List.map_nil, Bool.or_true, Bool.or_false, Bool.false_or, Bool.true_or, opP, pairP, instP, heapP]); exact eq_refl _) ?_
        refine vo_alloc Z85 rfl ?_
        refine vo_stM ?_
        refine vo_store_varS rfl rfl rfl inf85 sz85 rfl ?_
        refine vo_stM ?_
        refine vo_nil ?_
        refine hK11 _ ?_
        refine vc_seq fun K12 hK12 => ?_
        refine vc_region ?_
        refine vo_fieldAddr_ptr rfl rfl Try.underlying85 rfl inf3 (by rw [sz3]; decide) ?_
        try simp only [Nat.zero_add]
        refine vo_load_var rfl rfl rfl Try.underlying3 rfl rfl ?_
        refine vo_fieldAddr_ptr rfl rfl Try.underlying85 rfl inf3 (by rw [sz3]; decide) ?_
        try simp only [Nat.zero_add]
        refine vo_load_var rfl rfl rfl Try.underlying3 rfl rfl ?_
        refine vo_buildSlice E24 rfl rfl rfl rfl rfl ?_
        refine vo_stM ?_
        refine vo_move_pv rfl rfl ?_
        refine vo_len_pv rfl rfl Try.underlying23 ?_
        refine vo_binI rfl rfl rfl rfl sd ?_
        refine vo_expose 1 (by omega) rfl ?_
        refine vo_stM ?_
        refine vo_weaken 25 rfl ?_
        refine vo_stM ?_
        refine vo_call0 Try.func84 rfl rfl rfl rfl (areUpTo_sat (list := [(regs.getD k (0, 0)).1, (regs.getD k (0, 0)).2]) (by simp)) ?_
        rintro _ _ ⟨rfl, rfl⟩
        refine ⟨rfl, rfl, .inl rfl, ?_⟩
        refine vo_stM ?_
        refine vo_not rfl rfl ?_
        refine vo_nil ?_
        refine hK12 _ ?_
        refine vc_cond rfl (fun hc4 => ?_) (fun hc4 => ?_)
        · try simp only [zq0, zq1, zq2, zq3, zq4, zq5, zq6, zq7, zq8, zq9, zqa, zqb, zqc, zqd, zqe, zqf] at hc4
          refine vc_seq fun K13 hK13 => ?_
          refine vc_region ?_
          refine vo_assign_pv rfl rfl ?_
          refine vo_nil ?_
          refine hK13 _ ?_
          refine vc_ret ?_
          change retQ _ _ _ _ _
          refine retQ_sel [] (srows := []) (.inr rfl) hC rfl rfl rfl rfl rfl rfl rfl ?_
          refine ⟨?_, rfl⟩
          refine (congrArg (fun b => [bo b]) (?_ : _ = _) : [bo _] = [bo _])
          first
            | (refine bF fun h0 => ?_
               have h1 := h0.2.1
               first
                 | omega
                 | exact absurd h0.1 (by assumption)
                 | (have h2 := okReg_at (show k < regs.length by omega) h0.2.2
                    unfold okReg at h2
                    first | omega | exact absurd h2 (by assumption) | exact absurd (upto2.2 h2) (by assumption) | (simp_all; done) | (simp_all; omega)))
            | (rw [take_all (by omega)] at hf; exact bT ⟨by assumption, by omega, hf⟩)
            | (refine bF fun h0 => ?_; exact absurd h0.1 (by assumption))
            | (rw [take_all (by omega)] at hf
               have hml : (regs.map pairP).length = regs.length := List.length_map ..
               refine decide_eq_decide.2 ⟨fun h => ?_, fun h => ?_⟩
               · exact ⟨by assumption, by omega, hf⟩
               · have h8 := h.2.1
                 omega)
        · try simp only [zq0, zq1, zq2, zq3, zq4, zq5, zq6, zq7, zq8, zq9, zqa, zqb, zqc, zqd, zqe, zqf] at hc4
          refine vc_skip ?_
          refine hK10 _ ?_
          refine vc_region ?_
          refine vo_binI rfl rfl rfl rfl sd ?_
          refine vo_move_pv rfl rfl ?_
          refine vo_nil ?_
          change againE _ _ _ _ _ _ _ _ _ _
          refine againE_mk rfl rfl rfl rfl rfl rfl ⟨_, ?_, k + 1, rfl, ?_, ?_, rfl, rfl⟩
          · omega
          · omega
          · exact okReg_succ (by omega) hf (by unfold okReg; first | assumption | exact upto2.1 (by assumption) | (constructor <;> (constructor <;> omega)))
      · try simp only [zq0, zq1, zq2, zq3, zq4, zq5, zq6, zq7, zq8, zq9, zqa, zqb, zqc, zqd, zqe, zqf] at hc3
        refine vc_exit ?_
        refine hK6 _ ?_
        refine vc_seq fun K14 hK14 => ?_
        refine vc_region ?_
        refine vo_assign_pv rfl rfl ?_
        refine vo_nil ?_
        refine hK14 _ ?_
        refine vc_ret ?_
        change retQ _ _ _ _ _
        refine retQ_sel [] (srows := []) (.inr rfl) hC rfl rfl rfl rfl rfl rfl rfl ?_
        refine ⟨?_, rfl⟩
        refine (congrArg (fun b => [bo b]) (?_ : _ = _) : [bo _] = [bo _])
        first
          | (refine bF fun h0 => ?_
             have h1 := h0.2.1
             first
               | omega
               | exact absurd h0.1 (by assumption)
               | (have h2 := okReg_at (show k < regs.length by omega) h0.2.2
                  unfold okReg at h2
                  first | omega | exact absurd h2 (by assumption) | exact absurd (upto2.2 h2) (by assumption) | (simp_all; done) | (simp_all; omega)))
          | (rw [take_all (by omega)] at hf; exact bT ⟨by assumption, by omega, hf⟩)
          | (refine bF fun h0 => ?_; exact absurd h0.1 (by assumption))
          | (rw [take_all (by omega)] at hf
             have hml : (regs.map pairP).length = regs.length := List.length_map ..
             refine decide_eq_decide.2 ⟨fun h => ?_, fun h => ?_⟩
             · exact ⟨by assumption, by omega, hf⟩
             · have h8 := h.2.1
               omega)


theorem specValidRegs0_sat {nl0 : Option Bool} {bases : List (List Int)} {nl1 : Option Bool} {regs : List (Int × Int)} (hbases : bases.length < 1000000000) (hlbases : ∀ l ∈ bases, l.length < 1000000000) (hregs : regs.length < 1000000000)  : SatAt Try.prog 75 [.pv false (.sl nl0 1 (bases.map ints)), .pv false (.sl nl1 2 (regs.map pairP))] [] (fun res rows => res = [bo (decide (VRegs bases regs))] ∧ rows = []) := by
  refine sat_entry_G (rs := [(4, none)]) Try.func75 rfl rfl (Nat.le_of_ble_eq_true rfl) (Nat.le_of_ble_eq_true rfl) (resTs1 trivial) fun C hC => ?_
  rw [Try.ntmps75]
  replace hC : C.nb = 0 := hC
  refine vc_seq fun K1 hK1 => ?_
  refine vc_region ?_
  refine vo_assign_pv rfl rfl ?_
  refine vo_nil ?_
  refine hK1 _ ?_
  refine vc_seq fun K2 hK2 => ?_
  refine vc_seq fun K3 hK3 => ?_
  refine vc_region ?_
  refine vo_assign_pv rfl rfl ?_
  refine vo_nil ?_
  refine hK3 _ ?_
  refine vc_block ?_
  refine vc_stM ?_
  refine vc_loopE [0, 1] [5] [] _ _ (fun mz vs rs => ∃ (k : Nat), mz = regs.length - k ∧ (k ≤ regs.length) ∧ (∀ p ∈ regs.take k, okReg bases.length p) ∧ vs = [i64 k] ∧ rs = []) (regs.length) rfl rfl (le_len hC rfl) ⟨rfl, rfl, rfl⟩ rfl ⟨0, rfl, Nat.zero_le _, (by simp), rfl, rfl⟩ ?_
  rintro mz vs rs - - ⟨k, rfl, hk, hf, rfl, rfl⟩
  refine vc_stM ?_
  refine vc_seq fun K4 hK4 => ?_
  refine vc_seq fun K5 hK5 => ?_
  refine vc_region ?_
  refine vo_move_pv rfl rfl ?_
  refine vo_move_pv rfl rfl ?_
  refine vo_len_pv rfl rfl Try.underlying43 ?_
  refine vo_binI rfl rfl rfl rfl trivial ?_
  refine vo_nil ?_
  refine hK5 _ ?_
  refine vc_cond rfl (fun hc1 => ?_) (fun hc1 => ?_)
  · try simp only [zq0, zq1, zq2, zq3, zq4, zq5, zq6, zq7, zq8, zq9, zqa, zqb, zqc, zqd, zqe, zqf] at hc1
    refine vc_skip ?_
    refine hK4 _ ?_
    refine vc_seq fun K6 hK6 => ?_
    refine vc_block ?_
    refine vc_seq fun K7 hK7 => ?_
    refine vc_region ?_
    refine vo_move_pv rfl rfl ?_
    refine vo_move_pv rfl rfl ?_
    refine vo_index_pv (.agg [(.int .i64 0), (.int .i64 0)]) rfl rfl rfl E43.und inf85 sz85 sd sd ?_
    simp only [Int.toNat_natCast, Int.toNat_zero, getD_ints, getD_intss, getD_bools, getD_bytes, PV.cells, getD_pairs]
    refine vo_fieldAddr_adr rfl rfl Try.underlying85 rfl inf3 (by rw [sz3]; decide) ?_
    refine vo_load_adr rfl rfl Try.underlying3 rfl ?_
    refine vo_move_pv rfl rfl ?_
    refine vo_len_pv rfl rfl Try.underlying23 ?_
    refine vo_binI rfl rfl rfl rfl sd ?_
    refine vo_call0 Try.func58 rfl rfl rfl rfl inRange_sat ?_
    rintro _ _ ⟨rfl, rfl⟩
    refine ⟨rfl, rfl, .inl rfl, ?_⟩
    refine vo_stM ?_
    refine vo_not rfl rfl ?_
    refine vo_move_pv rfl rfl ?_
    refine vo_split 22 rfl (fun hg2 => ?_) (fun hg2 => ?_)
    · try simp only [zq0, zq1, zq2, zq3, zq4, zq5, zq6, zq7, zq8, zq9, zqa, zqb, zqc, zqd, zqe, zqf] at hg2
      refine vo_guard_off rfl rfl rfl rfl rfl ?_
      refine vo_guard_off rfl rfl rfl rfl rfl ?_
      refine vo_guard_off rfl rfl rfl rfl rfl ?_
      refine vo_guard_off rfl rfl rfl rfl rfl ?_
      refine vo_guard_off rfl rfl rfl rfl rfl ?_
      refine vo_guard_off rfl rfl rfl rfl rfl ?_
      refine vo_guard_off rfl rfl rfl rfl rfl ?_
      refine vo_guard_off rfl rfl rfl rfl rfl ?_
      refine vo_guard_off rfl rfl rfl rfl rfl ?_
      refine vo_guard_off rfl rfl rfl rfl rfl ?_
      refine vo_pick_t rfl rfl ?_
      refine vo_nil ?_
      refine hK7 _ ?_
      refine vc_cond_t rfl ?_
      refine vc_seq fun K8 hK8 => ?_
      refine vc_region ?_
      refine vo_assign_pv rfl rfl ?_
      refine vo_nil ?_
      refine hK8 _ ?_
      refine vc_ret ?_
      change retQ _ _ _ _ _
      refine retQ_sel [] (srows := []) (.inr rfl) hC rfl rfl rfl rfl rfl rfl rfl ?_
      refine ⟨?_, rfl⟩
      refine (congrArg (fun b => [bo b]) (?_ : _ = _) : [bo _] = [bo _])
      first
        | (refine bF fun h0 => ?_
           have h1 := h0.2.1
           first
             | omega
             | exact absurd h0.1 (by assumption)
             | (have h2 := okReg_at (show k < regs.length by omega) h0.2.2
                unfold okReg at h2
                first | omega | exact absurd h2 (by assumption) | exact absurd (upto2.2 h2) (by assumption) | (simp_all; done) | (simp_all; omega)))
        | (rw [take_all (by omega)] at hf; exact bT ⟨by assumption, by omega, hf⟩)
        | (refine bF fun h0 => ?_; exact absurd h0.1 (by assumption))
        | (rw [take_all (by omega)] at hf
           have hml : (regs.map pairP).length = regs.length := List.length_map ..
           refine decide_eq_decide.2 ⟨fun h => ?_, fun h => ?_⟩
           · exact ⟨by assumption, by omega, hf⟩
           · have h8 := h.2.1
             omega)
    · try simp only [zq0, zq1, zq2, zq3, zq4, zq5, zq6, zq7, zq8, zq9, zqa, zqb, zqc, zqd, zqe, zqf] at hg2
      refine vo_guard_on rfl rfl rfl ?_
      refine vo_move_pv rfl rfl ?_
      refine vo_guard_on rfl rfl rfl ?_
      refine vo_move_pv rfl rfl ?_
      refine vo_guard_on rfl rfl rfl ?_
      refine vo_index_pv (.agg [(.int .i64 0), (.int .i64 0)]) rfl rfl rfl E43.und inf85 sz85 sd sd ?_
      simp only [Int.toNat_natCast, Int.toNat_zero, getD_ints, getD_intss, getD_bools, getD_bytes, PV.cells, getD_pairs]
      refine vo_guard_on rfl rfl rfl ?_
      refine vo_fieldAddr_adr rfl rfl Try.underlying85 rfl inf3 (by rw [sz3]; decide) ?_
      refine vo_guard_on rfl rfl rfl ?_
      refine vo_load_adr rfl rfl Try.underlying3 rfl ?_
      refine vo_guard_on rfl rfl rfl ?_
      refine vo_move_pv rfl rfl ?_
      refine vo_guard_on rfl rfl rfl ?_
      refine vo_len_pv rfl rfl Try.underlying23 ?_
      refine vo_guard_on rfl rfl rfl ?_
      refine vo_binI rfl rfl rfl rfl sd ?_
      refine vo_guard_on rfl rfl rfl ?_
      refine vo_call0 Try.func58 rfl rfl rfl rfl inRange_sat ?_
      rintro _ _ ⟨rfl, rfl⟩
      refine ⟨rfl, rfl, .inl rfl, ?_⟩
      refine vo_stM ?_
      refine vo_guard_on rfl rfl rfl ?_
      refine vo_not rfl rfl ?_
      refine vo_pick_f rfl rfl ?_
      refine vo_nil ?_
      refine hK7 _ ?_
      refine vc_cond rfl (fun hc3 => ?_) (fun hc3 => ?_)
      · try simp only [zq0, zq1, zq2, zq3, zq4, zq5, zq6, zq7, zq8, zq9, zqa, zqb, zqc, zqd, zqe, zqf] at hc3
        refine vc_seq fun K9 hK9 => ?_
        refine vc_region ?_
        refine vo_assign_pv rfl rfl ?_
        refine vo_nil ?_
        refine hK9 _ ?_
        refine vc_ret ?_
        change retQ _ _ _ _ _
        refine retQ_sel [] (srows := []) (.inr rfl) hC rfl rfl rfl rfl rfl rfl rfl ?_
        refine ⟨?_, rfl⟩
        refine (congrArg (fun b => [bo b]) (?_ : _ = _) : [bo _] = [bo _])
        first
          | (refine bF fun h0 => ?_
             have h1 := h0.2.1
             first
               | omega
               | exact absurd h0.1 (by assumption)
               | (have h2 := okReg_at (show k < regs.length by omega) h0.2.2
                  unfold okReg at h2
                  first | omega | exact absurd h2 (by assumption) | exact absurd (upto2.2 h2) (by assumption) | (simp_all; done) | (simp_all; omega)))
          | (rw [take_all (by omega)] at hf; exact bT ⟨by assumption, by omega, hf⟩)
          | (refine bF fun h0 => ?_; exact absurd h0.1 (by assumption))
          | (rw [take_all (by omega)] at hf
             have hml : (regs.map pairP).length = regs.length := List.length_map ..
             refine decide_eq_decide.2 ⟨fun h => ?_, fun h => ?_⟩
             · exact ⟨by assumption, by omega, hf⟩
             · have h8 := h.2.1
               omega)
      · try simp only [zq0, zq1, zq2, zq3, zq4, zq5, zq6, zq7, zq8, zq9, zqa, zqb, zqc, zqd, zqe, zqf] at hc3
        refine vc_skip ?_
        refine hK6 _ ?_
        refine vc_region ?_
        refine vo_move_pv rfl rfl ?_
        refine vo_binI rfl rfl rfl rfl sd ?_
        refine vo_assign_pv rfl rfl ?_
        refine vo_nil ?_
        change againE _ _ _ _ _ _ _ _ _ _
        refine againE_mk rfl rfl rfl rfl rfl rfl ⟨_, ?_, k + 1, rfl, ?_, ?_, rfl, rfl⟩
        · omega
        · omega
        · exact okReg_succ (by omega) hf (by unfold okReg; first | assumption | exact upto2.1 (by assumption) | (constructor <;> (constructor <;> omega)))
  · try simp only [zq0, zq1, zq2, zq3, zq4, zq5, zq6, zq7, zq8, zq9, zqa, zqb, zqc, zqd, zqe, zqf] at hc1
    refine vc_exit ?_
    refine hK2 _ ?_
    refine vc_seq fun K10 hK10 => ?_
    refine vc_region ?_
    refine vo_move_pv rfl rfl ?_
    refine vo_call0 Try.func57 rfl rfl rfl rfl (specValidBases0_sat hbases hlbases) ?_
    rintro _ _ ⟨rfl, rfl⟩
    refine ⟨rfl, rfl, .inl rfl, ?_⟩
    refine vo_stM ?_
    refine vo_move_pv rfl rfl ?_
    refine vo_split 36 rfl (fun hg4 => ?_) (fun hg4 => ?_)
    · try simp only [zq0, zq1, zq2, zq3, zq4, zq5, zq6, zq7, zq8, zq9, zqa, zqb, zqc, zqd, zqe, zqf] at hg4
      refine vo_guard_on rfl rfl rfl ?_
      refine vo_move_pv rfl rfl ?_
      refine vo_guard_on rfl rfl rfl ?_
      refine vo_len_pv rfl rfl Try.underlying43 ?_
      refine vo_guard_on rfl rfl rfl ?_
      refine vo_binI rfl rfl rfl rfl trivial ?_
      refine vo_pick_t rfl rfl ?_
      refine vo_assign_pv rfl rfl ?_
      refine vo_nil ?_
      refine hK10 _ ?_
      refine vc_ret ?_
      change retQ _ _ _ _ _
      refine retQ_sel [] (srows := []) (.inr rfl) hC rfl rfl rfl rfl rfl rfl rfl ?_
      refine ⟨?_, rfl⟩
      refine (congrArg (fun b => [bo b]) (?_ : _ = _) : [bo _] = [bo _])
      first
        | (refine bF fun h0 => ?_
           have h1 := h0.2.1
           first
             | omega
             | exact absurd h0.1 (by assumption)
             | (have h2 := okReg_at (show k < regs.length by omega) h0.2.2
                unfold okReg at h2
                first | omega | exact absurd h2 (by assumption) | exact absurd (upto2.2 h2) (by assumption) | (simp_all; done) | (simp_all; omega)))
        | (rw [take_all (by omega)] at hf; exact bT ⟨by assumption, by omega, hf⟩)
        | (refine bF fun h0 => ?_; exact absurd h0.1 (by assumption))
        | (rw [take_all (by omega)] at hf
           have hml : (regs.map pairP).length = regs.length := List.length_map ..
           refine decide_eq_decide.2 ⟨fun h => ?_, fun h => ?_⟩
           · exact ⟨by assumption, by omega, hf⟩
           · have h8 := h.2.1
             omega)
    · try simp only [zq0, zq1, zq2, zq3, zq4, zq5, zq6, zq7, zq8, zq9, zqa, zqb, zqc, zqd, zqe, zqf] at hg4
      refine vo_guard_off rfl rfl rfl rfl rfl ?_
      refine vo_guard_off rfl rfl rfl rfl rfl ?_
      refine vo_guard_off rfl rfl rfl rfl rfl ?_
      refine vo_pick_f rfl rfl ?_
      refine vo_assign_pv rfl rfl ?_
      refine vo_nil ?_
      refine hK10 _ ?_
      refine vc_ret ?_
      change retQ _ _ _ _ _
      refine retQ_sel [] (srows := []) (.inr rfl) hC rfl rfl rfl rfl rfl rfl rfl ?_
      refine ⟨?_, rfl⟩
      refine (congrArg (fun b => [bo b]) (?_ : _ = _) : [bo _] = [bo _])
      first
        | (refine bF fun h0 => ?_
           have h1 := h0.2.1
           first
             | omega
             | exact absurd h0.1 (by assumption)
             | (have h2 := okReg_at (show k < regs.length by omega) h0.2.2
                unfold okReg at h2
                first | omega | exact absurd h2 (by assumption) | exact absurd (upto2.2 h2) (by assumption) | (simp_all; done) | (simp_all; omega)))
        | (rw [take_all (by omega)] at hf; exact bT ⟨by assumption, by omega, hf⟩)
        | (refine bF fun h0 => ?_; exact absurd h0.1 (by assumption))
        | (rw [take_all (by omega)] at hf
           have hml : (regs.map pairP).length = regs.length := List.length_map ..
           refine decide_eq_decide.2 ⟨fun h => ?_, fun h => ?_⟩
           · exact ⟨by assumption, by omega, hf⟩
           · have h8 := h.2.1
             omega)


theorem hasRegs_sat {nl0 : Option Bool} {bases : List (List Int)} {nl1 : Option Bool} {regs : List (Int × Int)} {nl2 : Option Bool} {classes : List Int} (hbases : bases.length < 1000000000) (hlbases : ∀ l ∈ bases, l.length < 1000000000) (hregs : regs.length < 1000000000) (hclasses : classes.length < 1000000000)  : SatAt Try.prog 70 [.pv false (.sl nl0 1 (bases.map ints)), .pv false (.sl nl1 2 (regs.map pairP)), .pv false (.sl nl2 1 (classes.map intP))] [] (fun res rows => res = [bo (decide (hasRC bases regs classes))] ∧ rows = []) := by
 refine sat_entry_G (rs := [(6, none)]) Try.func70 rfl rfl (Nat.le_of_ble_eq_true rfl) (Nat.le_of_ble_eq_true rfl) (resTs1 trivial) fun C hC => ?_
 rw [Try.ntmps70]
 replace hC : C.nb = 0 := hC
 refine vc_seq fun K1 hK1 => ?_
 refine vc_region ?_
 refine vo_assign_pv rfl rfl ?_
 refine vo_nil ?_
 refine hK1 _ ?_
 refine vc_seq fun K2 hK2 => ?_
 refine vc_region ?_
 refine vo_move_pv rfl rfl ?_
 refine vo_move_pv rfl rfl ?_
 refine vo_call0 Try.func45 rfl rfl rfl rfl (implValidRegs_sat hbases hlbases hregs) ?_
 rintro _ _ ⟨rfl, rfl⟩
 refine ⟨rfl, rfl, .inl rfl, ?_⟩
 refine vo_stM ?_
 refine vo_move_pv rfl rfl ?_
 refine vo_split 10 rfl (fun hg1 => ?_) (fun hg1 => ?_)
 ·try simp only [zq0, zq1, zq2, zq3, zq4, zq5, zq6, zq7, zq8, zq9, zqa, zqb, zqc, zqd, zqe, zqf] at hg1
  refine vo_guard_on rfl rfl rfl ?_
  refine vo_move_pv rfl rfl ?_
  refine vo_guard_on rfl rfl rfl ?_
  refine vo_move_pv rfl rfl ?_
  refine vo_guard_on rfl rfl rfl ?_
  refine vo_len_pv rfl rfl Try.underlying23 ?_
  refine vo_guard_on rfl rfl rfl ?_
  refine vo_binI rfl rfl rfl rfl sd ?_
  refine vo_guard_on rfl rfl rfl ?_
  refine vo_call0 Try.func84 rfl rfl rfl rfl (areUpTo_sat hclasses) ?_
  rintro _ _ ⟨rfl, rfl⟩
  refine ⟨rfl, rfl, .inl rfl, ?_⟩
  refine vo_stM ?_
  refine vo_pick_t rfl rfl ?_
  refine vo_assign_pv rfl rfl ?_
  refine vo_nil ?_
  refine hK2 _ ?_
  refine vc_ret ?_
  change retQ _ _ _ _ _
  refine retQ_sel [] (srows := []) (.inr rfl) hC rfl rfl rfl rfl rfl rfl rfl ?_
  refine ⟨?_, rfl⟩
  refine (congrArg (fun b => [bo b]) (?_ : _ = _) : [bo _] = [bo _])
  first
   | exact bF fun h0 => absurd h0.1 (by assumption)
   | exact decide_eq_decide.2 ⟨fun h0 => ⟨by assumption, fun x hx => by have := h0 x hx; simpa using this⟩, fun h0 x hx => by have := h0.2 x hx; simpa using this⟩
 ·try simp only [zq0, zq1, zq2, zq3, zq4, zq5, zq6, zq7, zq8, zq9, zqa, zqb, zqc, zqd, zqe, zqf] at hg1
  refine vo_guard_off rfl rfl rfl rfl rfl ?_
  refine vo_guard_off rfl rfl rfl rfl rfl ?_
  refine vo_guard_off rfl rfl rfl rfl rfl ?_
  refine vo_guard_off rfl rfl rfl rfl rfl ?_
  refine vo_guard_off rfl rfl rfl rfl rfl ?_
  refine vo_pick_f rfl rfl ?_
  refine vo_assign_pv rfl rfl ?_
  refine vo_nil ?_
  refine hK2 _ ?_
  refine vc_ret ?_
  change retQ _ _ _ _ _
  refine retQ_sel [] (srows := []) (.inr rfl) hC rfl rfl rfl rfl rfl rfl rfl ?_
  refine ⟨?_, rfl⟩
  refine (congrArg (fun b => [bo b]) (?_ : _ = _) : [bo _] = [bo _])
  first
   | exact bF fun h0 => absurd h0.1 (by assumption)
   | exact decide_eq_decide.2 ⟨fun h0 => ⟨by assumption, fun x hx => by have := h0 x hx; simpa using this⟩, fun h0 x hx => by have := h0.2 x hx; simpa using this⟩


theorem stepsUp_sat {nl0 : Option Bool} {bases : List (List Int)} {nl1 : Option Bool} {regs : List (Int × Int)} {c : Int} (hbases : bases.length < 1000000000) (hlbases : ∀ l ∈ bases, l.length < 1000000000) (hregs : regs.length < 1000000000) (h0 : 0 ≤ c) (h1 : c < bases.length) : SatAt Try.prog 73 [.pv false (.sl nl0 1 (bases.map ints)), .pv false (.sl nl1 2 (regs.map pairP)), i64 c] [] (fun res rows => ∃ nl, res = [.ref 0] ∧ rows = [Row.own 3 1 nl true ((upM bases regs c).map intP)]) := by
 have hlc : (bases.getD c.toNat []).length < 1000000000 := hlbases _ (getD_mem (show c.toNat < bases.length by omega) [])
 refine sat_entry_G (rs := [(6, none)]) Try.func73 rfl rfl (Nat.le_of_ble_eq_true rfl) (Nat.le_of_ble_eq_true rfl) (resTs1 trivial) fun C hC => ?_
 rw [Try.ntmps73]
 replace hC : C.nb = 0 := hC
 refine vc_seq fun K1 hK1 => ?_
 refine vc_region ?_
 refine vo_assign_pv rfl rfl ?_
 refine vo_nil ?_
 refine hK1 _ ?_
 refine vc_seq fun K2 hK2 => ?_
 refine vc_region ?_
 refine vo_move_pv rfl rfl ?_
 refine vo_move_pv rfl rfl ?_
 refine vo_index_pv (.sl none 1 []) rfl rfl rfl E23.und inf24 sz24 sd sd ?_
 simp only [Int.toNat_natCast, Int.toNat_zero, getD_ints, getD_intss, getD_bools, getD_bytes, PV.cells, getD_pairs]
 refine vo_load_adr rfl rfl Try.underlying24 rfl ?_
 refine vo_call [] Try.func94 rfl rfl rfl rfl rfl rfl rfl (cloneI_sat hlc) ?_
 rintro _ _ ⟨nl9, rfl, rfl⟩
 refine ⟨Nat.le_of_ble_eq_true rfl, ⟨rfl, rfl, rfl, rfl⟩, .inl rfl, ?_⟩
 refine vo_stM ?_
 refine vo_assign_ref rfl rfl ?_
 refine vo_nil ?_
 refine hK2 _ ?_
 refine vc_seq fun K3 hK3 => ?_
 refine vc_seq fun K4 hK4 => ?_
 refine vc_region ?_
 refine vo_move_pv rfl rfl ?_
 refine vo_len_pv rfl rfl Try.underlying43 ?_
 refine vo_move_pv rfl rfl ?_
 refine vo_nil ?_
 refine hK4 _ ?_
 refine vc_block ?_
 refine vc_weakrow 0 rfl ?_
 refine vc_stM ?_
 refine vc_stM ?_
 refine vc_loopE [2, 15, 16] [7, 17] [0] _ _ (fun mz vs rs => ∃ (k : Nat), mz = regs.length - k ∧ (k ≤ regs.length) ∧ vs = [.ref 0, i64 k] ∧ rs = [Row.own 3 1 none true ((upM bases (regs.take k) c).map intP)]) (regs.length) rfl rfl (le_len hC rfl) ⟨rfl, rfl, rfl⟩ rfl ⟨0, rfl, Nat.zero_le _, rfl, (by rw [List.take_zero, upM_nil]; rfl)⟩ ?_
 rintro mz vs rs - - ⟨k, rfl, hk, rfl, rfl⟩
 refine vc_stM ?_
 have hul := upM_len (b := bases) (r := regs.take k) (c := c)
 rw [List.length_take] at hul
 refine vc_seq fun K5 hK5 => ?_
 refine vc_region ?_
 refine vo_binI rfl rfl rfl rfl trivial ?_
 refine vo_nil ?_
 refine hK5 _ ?_
 refine vc_seq fun K6 hK6 => ?_
 refine vc_cond rfl (fun hc1 => ?_) (fun hc1 => ?_)
 ·try simp only [zq0, zq1, zq2, zq3, zq4, zq5, zq6, zq7, zq8, zq9, zqa, zqb, zqc, zqd, zqe, zqf] at hc1
  refine vc_skip ?_
  refine hK6 _ ?_
  refine vc_seq fun K7 hK7 => ?_
  refine vc_block ?_
  refine vc_seq fun K8 hK8 => ?_
  refine vc_region ?_
  refine vo_index_pv (.agg [(.int .i64 0), (.int .i64 0)]) rfl rfl rfl E43.und inf85 sz85 sd sd ?_
  simp only [Int.toNat_natCast, Int.toNat_zero, getD_ints, getD_intss, getD_bools, getD_bytes, PV.cells, getD_pairs]
  refine vo_load_adrS rfl rfl Try.underlying85 rfl inf85 sz85 rfl ?_
  refine vo_st (by (try simp only [St.put, PV.cells, PV.scal, List.drop_succ_cons, List.drop_zero, List.take_succ_cons, List.take_zero, List.map_cons, List.map_nil, Bool.or_true, Bool.or_false, Bool.false_or, Bool.true_or, opP, pairP, instP, heapP]); exact eq_refl _) ?_
  refine vo_alloc Z85 rfl ?_
  refine vo_stM ?_
  refine vo_store_varS rfl rfl rfl inf85 sz85 rfl ?_
  refine vo_stM ?_
  refine vo_nil ?_
  refine hK8 _ ?_
  refine vc_seq fun K9 hK9 => ?_
  refine vc_region ?_
  refine vo_fieldAddr_ptr rfl rfl Try.underlying85 rfl inf3 (by rw [sz3]; decide) ?_
  try simp only [Nat.zero_add]
  refine vo_load_var rfl rfl rfl Try.underlying3 rfl rfl ?_
  refine vo_move_pv rfl rfl ?_
  refine vo_binI rfl rfl rfl rfl trivial ?_
  refine vo_nil ?_
  refine hK9 _ ?_
  refine vc_cond rfl (fun hc2 => ?_) (fun hc2 => ?_)
  ·try simp only [zq0, zq1, zq2, zq3, zq4, zq5, zq6, zq7, zq8, zq9, zqa, zqb, zqc, zqd, zqe, zqf] at hc2
   refine vc_region ?_
   refine vo_move_ref rfl rfl ?_
   refine vo_fieldAddr_ptr rfl rfl Try.underlying85 rfl inf3 (by rw [sz3]; decide) ?_
   try simp only [Nat.zero_add]
   refine vo_load_var rfl rfl rfl Try.underlying3 rfl rfl ?_
   refine vo_buildSlice E24 rfl rfl rfl rfl rfl ?_
   refine vo_stM ?_
   refine vo_append E24 rfl (by omega) rfl rfl rfl sd sd ?_
   refine vo_stM ?_
   try simp only [app_ints, app_intss, app_bools]
   refine vo_assign_ref rfl rfl ?_
   refine vo_nil ?_
   refine hK7 _ ?_
   refine vc_region ?_
   refine vo_binI rfl rfl rfl rfl sd ?_
   refine vo_move_pv rfl rfl ?_
   refine vo_nil ?_
   change againE _ _ _ _ _ _ _ _ _ _
   refine againE_mk rfl rfl rfl rfl rfl rfl ⟨_, ?_, k + 1, rfl, ?_, rfl, (by rw [upM_yes (by omega) (by omega)]; rfl)⟩
   ·omega
   ·omega
  ·try simp only [zq0, zq1, zq2, zq3, zq4, zq5, zq6, zq7, zq8, zq9, zqa, zqb, zqc, zqd, zqe, zqf] at hc2
   refine vc_skip ?_
   refine hK7 _ ?_
   refine vc_region ?_
   refine vo_binI rfl rfl rfl rfl sd ?_
   refine vo_move_pv rfl rfl ?_
   refine vo_nil ?_
   change againE _ _ _ _ _ _ _ _ _ _
   refine againE_mk rfl rfl rfl rfl rfl rfl ⟨_, ?_, k + 1, rfl, ?_, rfl, (by rw [upM_no (by omega) (by omega)]; rfl)⟩
   ·omega
   ·omega
 ·try simp only [zq0, zq1, zq2, zq3, zq4, zq5, zq6, zq7, zq8, zq9, zqa, zqb, zqc, zqd, zqe, zqf] at hc1
  refine vc_exit ?_
  refine hK3 _ ?_
  refine vc_seq fun K10 hK10 => ?_
  refine vc_region ?_
  refine vo_move_ref rfl rfl ?_
  refine vo_assign_ref rfl rfl ?_
  refine vo_nil ?_
  refine hK10 _ ?_
  refine vc_ret ?_
  change retQ _ _ _ _ _
  refine retQ_sel [0] (srows := [_]) (.inr rfl) hC rfl rfl rfl rfl rfl rfl rfl ?_
  rw [show regs.take k = regs from take_all (by omega)]; exact ⟨_, rfl, rfl⟩

end Go.Vl

/- A variable takes a new row: its old row is given up, and the new one lies in its place. -/
namespace Go.Vl
set_option linter.unusedVariables false
set_option linter.unusedSimpArgs false
open Go.RowKit
section
variable {P : Program} {C : Ctx} {Q : Go.Exit → St → Prop} {s : St} {ops : Array Oper} {rest : List Oper} {t : Nat} {ty : TypeId} {pos : String} {af : Array Edge}

theorem SimM.mvRow {m : Nat → MV} {a : Act} {w : World} (hs : SimM C s m a w) {id j : Nat} {R e : Nat} {nl : Option Bool} {f : Bool} {xs : List PV} (hne : id ≠ j) (hid : liveAt s.rows id) (hnb : C.nb ≤ id) (hnj : C.nb ≤ j)
    (hrow : s.rows[j]? = some (.own R e nl f xs)) :
    SimM C ⟨s.n, killE id s.env, ((s.rows.map (Row.kill id)).set j .dead).set id (.own R e nl f xs)⟩ (updM m id (m j)) a w := by
  have hj : liveAt s.rows j := ⟨_, hrow, rfl⟩
  refine hs.joinRow hne hid hj hnb hnj (bo := none) (fun b h => by cases h) (grown_refl w) (.own R e nl f xs) (m j) (fun b hb => .inr (.inl hb)) (fun hG => ?_)
  have h0 := hs.rows j _ hrow
  generalize m j = v at h0 hG ⊢
  cases h0 with
  | own v t' e nl fr xs vs hown h1 h2 hw hr =>
    refine .own _ _ _ _ _ _ vs hown h1 h2 hw (fun i x j c hx hc => ?_)
    obtain ⟨u, hu, hp⟩ := hr i x j c hx hc
    exact ⟨u, hu, hp.mono fun b hb => hG _ b hb⟩

theorem vo_assign_mv {x : Operand} (id j : Nat) {R e : Nat} {nl : Option Bool} {f : Bool} {xs : List PV} (ht : Nat.blt t s.n = true) (hx : getO s.env x = .ref j) (hne : id ≠ j) (hid : (s.rows[id]?).map Row.live = some true) (hnb : C.nb ≤ id) (hnj : C.nb ≤ j)
    (hrow : s.rows[j]? = some (.own R e nl f xs))
    (next : VO P C ops rest Q ⟨s.n, (t, .ref id) :: killE id s.env, ((s.rows.map (Row.kill id)).set j .dead).set id (.own R e nl f xs)⟩) :
    VO P C ops (⟨some t, .assign x, ty, pos, af, none⟩ :: rest) Q s := by
  have hl : liveAt s.rows id := by
    cases h : s.rows[id]? with
    | none => rw [h] at hid; cases hid
    | some r => rw [h] at hid; simp only [Option.map_some, Option.some.injEq] at hid; exact ⟨r, h, hid⟩
  refine vo_value (s1 := ⟨s.n, killE id s.env, ((s.rows.map (Row.kill id)).set j .dead).set id (.own R e nl f xs)⟩) (sv := .ref id) ht (fun m a w hs => ?_) next
  have hv := (hs.row hx).1
  refine ⟨(m j).v, w, updM m id (m j), by simp [execOp, hv], hs.mvRow hne hl hnb hnj hrow, ?_⟩
  have hidl : id < s.rows.length := by
    obtain ⟨q, hq, _⟩ := hl
    exact (List.getElem?_eq_some_iff.1 hq).1
  have := RS.ref (w := w) (G := Gd C (((s.rows.map (Row.kill id)).set j .dead).set id (.own R e nl f xs)) (updM m id (m j)) w) (m := updM m id (m j)) (N := (((s.rows.map (Row.kill id)).set j .dead).set id (.own R e nl f xs)).length) id (by simpa using hidl)
  rw [updM_same] at this
  exact this
end
end Go.Vl

namespace Go.Proofs
open Go.Shelf
def Try.lays189_ren : Go.Shelf.Ren := ⟨fun | 189 => 74 | 125 => 96 | 257 => 95 | 128 => 112 | 129 => 113 | 294 => 103 | 295 => 104 | 296 => 105 | 297 => 106 | 298 => 107 | 299 => 108 | 216 => 109 | 300 => 110 | 301 => 111 | 328 => 115 | 329 => 116 | 330 => 117 | 331 => 118 | 332 => 119 | 215 => 120 | 343 => 121 | n => n, fun | 28 => 24 | 3 => 3 | 46 => 96 | 0 => 0 | 51 => 109 | 53 => 111 | 4 => 4 | 183 => 103 | 182 => 102 | 131 => 106 | 5 => 5 | 9 => 9 | 218 => 113 | 222 => 117 | 228 => 120 | 229 => 121 | n => n, fun | n => n⟩
theorem Try.lays189 : Go.Proofs.Lays.n189 Try.prog Try.lays189_ren := {
  mixed := by kernel_rfl
  f125 := Try.func96.trans (congrArg some (by kernel_rfl))
  f128 := Try.func112.trans (congrArg some (by kernel_rfl))
  f129 := Try.func113.trans (congrArg some (by kernel_rfl))
  f189 := Try.func74.trans (congrArg some (by kernel_rfl))
  f215 := Try.func120.trans (congrArg some (by kernel_rfl))
  f216 := Try.func109.trans (congrArg some (by kernel_rfl))
  f257 := Try.func95.trans (congrArg some (by kernel_rfl))
  f294 := Try.func103.trans (congrArg some (by kernel_rfl))
  f295 := Try.func104.trans (congrArg some (by kernel_rfl))
  f296 := Try.func105.trans (congrArg some (by kernel_rfl))
  f297 := Try.func106.trans (congrArg some (by kernel_rfl))
  f298 := Try.func107.trans (congrArg some (by kernel_rfl))
  f299 := Try.func108.trans (congrArg some (by kernel_rfl))
  f300 := Try.func110.trans (congrArg some (by kernel_rfl))
  f301 := Try.func111.trans (congrArg some (by kernel_rfl))
  f328 := Try.func115.trans (congrArg some (by kernel_rfl))
  f329 := Try.func116.trans (congrArg some (by kernel_rfl))
  f330 := Try.func117.trans (congrArg some (by kernel_rfl))
  f331 := Try.func118.trans (congrArg some (by kernel_rfl))
  f332 := Try.func119.trans (congrArg some (by kernel_rfl))
  f343 := Try.func121.trans (congrArg some (by kernel_rfl))
  t0 := Try.underlying0
  a0 := Try.isAgg0
  z0 := Try.sizeOf0
  v0 := Try.zeroValue0
  t3 := Try.underlying3
  a3 := Try.isAgg3
  z3 := Try.sizeOf3
  v3 := Try.zeroValue3
  t4 := Try.underlying4
  a4 := Try.isAgg4
  z4 := Try.sizeOf4
  v4 := Try.zeroValue4
  t5 := Try.underlying5
  a5 := Try.isAgg5
  z5 := Try.sizeOf5
  v5 := Try.zeroValue5
  t9 := Try.underlying9
  a9 := Try.isAgg9
  z9 := Try.sizeOf9
  v9 := Try.zeroValue9
  t28 := Try.underlying24
  a28 := Try.isAgg24
  z28 := Try.sizeOf24
  v28 := Try.zeroValue24
  t46 := Try.underlying96
  a46 := Try.isAgg96
  z46 := Try.sizeOf96
  v46 := Try.zeroValue96
  t51 := Try.underlying109
  a51 := Try.isAgg109
  z51 := Try.sizeOf109
  v51 := Try.zeroValue109
  t53 := Try.underlying111
  a53 := Try.isAgg111
  z53 := Try.sizeOf111
  v53 := Try.zeroValue111
  t131 := Try.underlying106
  a131 := Try.isAgg106
  z131 := Try.sizeOf106
  v131 := Try.zeroValue106
  t182 := Try.underlying102
  a182 := Try.isAgg102
  z182 := Try.sizeOf102
  v182 := Try.zeroValue102
  t183 := Try.underlying103
  a183 := Try.isAgg103
  z183 := Try.sizeOf103
  v183 := Try.zeroValue103
  t218 := Try.underlying113
  a218 := Try.isAgg113
  z218 := Try.sizeOf113
  v218 := Try.zeroValue113
  t222 := Try.underlying117
  a222 := Try.isAgg117
  z222 := Try.sizeOf117
  v222 := Try.zeroValue117
  t228 := Try.underlying120
  a228 := Try.isAgg120
  z228 := Try.sizeOf120
  v228 := Try.zeroValue120
  t229 := Try.underlying121
  a229 := Try.isAgg121
  z229 := Try.sizeOf121
  v229 := Try.zeroValue121 }
open Go.Sort Go.RowKit in
theorem Try.slices_Sort_int (blk off cap : Nat) (zs : List Int) (w : World) (hH : Holds (Value.int .i64) w blk off zs.toArray) (hblk : blk < w.heap.size) (hsz : zs.length < 4611686018427387904) :
    Calls Try.prog 74 #[.slice (some ⟨blk, off, none⟩) zs.length cap] w fun e w' =>
      e = .returned (.tuple #[]) ∧ ∃ n os, w' = grow (putRow (Value.int .i64) (Sort.ahead w n) blk off (zs.mergeSort fun x y => decide (x ≤ y)).toArray) os := Any.slices_Sort_int Try.lays189 blk off cap zs w hH hblk hsz
open Go.RowKit Go.Sort in
theorem Try.slices_Sort_int_none (p : Option Addr) (cap : Nat) (w : World) :
    Calls Try.prog 74 #[.slice p 0 cap] w fun e w' => e = .returned (.tuple #[]) ∧ w' = w := Any.slices_Sort_int_none Try.lays189 p cap w
end Go.Proofs

namespace Go.Vl
set_option linter.unusedVariables false
set_option linter.unusedSimpArgs false
theorem sortC : SortC Go.Proofs.Try.prog 74 := ⟨fun blk off cap zs w => Go.Proofs.Try.slices_Sort_int blk off cap zs w, fun a cap w => Go.Proofs.Try.slices_Sort_int_none a cap w⟩

end Go.Vl

namespace Go.Vl
set_option linter.unusedVariables false
set_option linter.unusedSimpArgs false
open Go.Proofs

theorem supStep_sat {nl0 nl1 : Option Bool} {f0 f1 : Bool} {bases : List (List Int)} {regs : List (Int × Int)} {c : Int} (hbases : bases.length < 1000000000) (hlbases : ∀ l ∈ bases, l.length < 1000000000) (hregs : regs.length < 1000000000) (h0 : 0 ≤ c) (h1 : c < bases.length) : SatAt Try.prog 72 [i64 c, .ptr 0 0 0 0, .ptr 1 0 0 0] [Row.var 23 [.pv f0 (.sl nl0 1 (bases.map ints))], Row.var 43 [.pv f1 (.sl nl1 2 (regs.map pairP))]] (fun res rows => ∃ nl, res = [.ref 2] ∧ rows = [Row.var 23 [.pv f0 (.sl nl0 1 (bases.map ints))], Row.var 43 [.pv f1 (.sl nl1 2 (regs.map pairP))], Row.own 3 1 nl true ((upM bases regs c).map intP)]) := by
 refine sat_entry_G (rs := [(4, none)]) Try.func72 rfl rfl (Nat.le_of_ble_eq_true rfl) (Nat.le_of_ble_eq_true rfl) (resTs1 trivial) fun C hC => ?_
 rw [Try.ntmps72]
 replace hC : C.nb = 2 := hC
 refine vc_seq fun K1 hK1 => ?_
 refine vc_region ?_
 refine vo_assign_pv rfl rfl ?_
 refine vo_nil ?_
 refine hK1 _ ?_
 refine vc_seq fun K2 hK2 => ?_
 refine vc_region ?_
 refine vo_load_var rfl rfl rfl Try.underlying23 rfl rfl ?_
 refine vo_load_var rfl rfl rfl Try.underlying43 rfl rfl ?_
 refine vo_move_pv rfl rfl ?_
 refine vo_call [] Try.func73 rfl rfl rfl rfl rfl rfl rfl (stepsUp_sat hbases hlbases hregs h0 h1) ?_
 rintro _ _ ⟨nlu, rfl, rfl⟩
 refine ⟨Nat.le_of_ble_eq_true rfl, ⟨rfl, rfl, rfl, rfl⟩, .inl rfl, ?_⟩
 refine vo_stM ?_
 refine vo_assign_ref rfl rfl ?_
 refine vo_nil ?_
 refine hK2 _ ?_
 refine vc_ret ?_
 change retQ _ _ _ _ _
 refine retQ_sel [2] (srows := [_]) (.inr rfl) hC rfl rfl rfl rfl rfl rfl rfl ?_
 exact ⟨_, rfl, rfl⟩

set_option maxHeartbeats 4000000 in
theorem supersOwn_sat {nl0 : Option Bool} {bases : List (List Int)} {nl1 : Option Bool} {regs : List (Int × Int)} {c : Int} (hbases : bases.length < 1000000000) (hlbases : ∀ l ∈ bases, l.length < 1000000000) (hregs : regs.length < 1000000000)  : SatAt Try.prog 35 [.pv false (.sl nl0 1 (bases.map ints)), .pv false (.sl nl1 2 (regs.map pairP)), i64 c] [] (fun res rows => ∃ nl, res = [.ref 0] ∧ rows = [Row.own 3 1 nl true ((supM bases regs c).map intP)]) := by
 refine sat_entry_G (rs := [(6, none)]) Try.func35 rfl rfl (Nat.le_of_ble_eq_true rfl) (Nat.le_of_ble_eq_true rfl) (resTs1 trivial) fun C hC => ?_
 rw [Try.ntmps35]
 replace hC : C.nb = 0 := hC
 refine vc_seq fun K1 hK1 => ?_
 refine vc_region ?_
 refine vo_boxG rfl rfl rfl ?_
 refine vo_stM ?_
 refine vo_boxG rfl rfl rfl ?_
 refine vo_stM ?_
 refine vo_assign_pv rfl rfl ?_
 refine vo_own_nil 6 E24 rfl ?_
 refine vo_nil ?_
 refine hK1 _ ?_
 refine vc_seq fun K2 hK2 => ?_
 refine vc_seq fun K3 hK3 => ?_
 refine vc_region ?_
 refine vo_load_var rfl rfl rfl Try.underlying23 rfl rfl ?_
 refine vo_load_var rfl rfl rfl Try.underlying43 rfl rfl ?_
 refine vo_move_pv rfl rfl ?_
 refine vo_buildSlice E24 rfl rfl rfl rfl rfl ?_
 refine vo_stM ?_
 refine vo_expose 3 (by omega) rfl ?_
 refine vo_stM ?_
 refine vo_weaken 11 rfl ?_
 refine vo_stM ?_
 refine vo_call0 Try.func70 rfl rfl rfl rfl (hasRegs_sat (classes := [c]) hbases hlbases hregs (by simp)) ?_
 rintro _ _ ⟨rfl, rfl⟩
 refine ⟨rfl, rfl, .inl rfl, ?_⟩
 refine vo_stM ?_
 refine vo_not rfl rfl ?_
 refine vo_nil ?_
 refine hK3 _ ?_
 refine vc_cond rfl (fun hc1 => ?_) (fun hc1 => ?_)
 ·try simp only [zq0, zq1, zq2, zq3, zq4, zq5, zq6, zq7, zq8, zq9, zqa, zqb, zqc, zqd, zqe, zqf] at hc1
  refine vc_seq fun K4 hK4 => ?_
  refine vc_region ?_
  refine vo_assign_pv rfl rfl ?_
  refine vo_own_nil 6 E24 rfl ?_
  refine vo_nil ?_
  refine hK4 _ ?_
  refine vc_ret ?_
  change retQ _ _ _ _ _
  refine retQ_sel [4] (srows := [_]) (.inr rfl) hC rfl rfl rfl rfl rfl rfl rfl ?_
  have e : supM bases regs c = [] := by unfold supM; rw [if_neg (by assumption)]
  rw [e]; exact ⟨_, rfl, rfl⟩
 ·try simp only [zq0, zq1, zq2, zq3, zq4, zq5, zq6, zq7, zq8, zq9, zqa, zqb, zqc, zqd, zqe, zqf] at hc1
  have hV := hc1.1
  have hb12 := hV.1.2.1
  have hcr := hc1.2 c (by simp)
  have hz0 : 0 ≤ c := hcr.1
  have hz1 : c < bases.length := by omega
  refine vc_skip ?_
  refine hK2 _ ?_
  refine vc_seq fun K5 hK5 => ?_
  refine vc_region ?_
  refine vo_move_pv rfl rfl ?_
  refine vo_makeFunc (ids := [0, 1]) rfl rfl ?_
  refine vo_stM ?_
  refine vo_inline [] [(4, none)] Try.func71 rfl rfl rfl rfl (Nat.le_of_ble_eq_true rfl) (resTs1 trivial) rfl rfl fun us1 => ?_
  rw [Try.ntmps71]
  refine vc_stM ?_
  refine vc_seq fun K6 hK6 => ?_
  refine vc_region ?_
  refine vo_assign_pv rfl rfl ?_
  refine vo_nil ?_
  refine hK6 _ ?_
  refine vc_seq fun K7 hK7 => ?_
  refine vc_region ?_
  refine vo_move_pv rfl rfl ?_
  refine vo_buildSlice E24 rfl rfl rfl rfl rfl ?_
  refine vo_stM ?_
  refine vo_assign_ref rfl rfl ?_
  refine vo_nil ?_
  refine hK7 _ ?_
  refine vc_seq fun K8 hK8 => ?_
  refine vc_seq fun K9 hK9 => ?_
  refine vc_region ?_
  refine vo_assign_pv rfl rfl ?_
  refine vo_nil ?_
  refine hK9 _ ?_
  refine vc_block ?_
  refine vc_weakrow 5 rfl ?_
  refine vc_stM ?_
  refine vc_stM ?_
  refine vc_loopE [1] [5, 6] [5] _ _ (fun mz vs rs => ∃ (i : Nat) (met : List Int) (nlm : Option Bool), mz = 13 - i ∧ (MetOK bases.length met) ∧ (i ≤ met.length) ∧ (growM (upM bases regs) (13 - i) met i = metU bases regs c) ∧ vs = [.ref 5, i64 i] ∧ rs = [Row.own 3 1 nlm true ((met).map intP)]) (13) rfl rfl (le_len hC rfl) ⟨rfl, rfl, rfl⟩ rfl ⟨0, [c], none, rfl, (met_one hz0 hz1), (by simp), rfl, rfl, rfl⟩ ?_
  rintro mz vs rs - - ⟨i, met, nlm, rfl, hm, hi, hg, rfl, rfl⟩
  refine vc_stM ?_
  refine vc_seq fun K10 hK10 => ?_
  refine vc_seq fun K11 hK11 => ?_
  refine vc_region ?_
  refine vo_move_pv rfl rfl ?_
  refine vo_move_ref rfl rfl ?_
  refine vo_len_ref rfl rfl rfl Try.underlying24 ?_
  refine vo_binI rfl rfl rfl rfl trivial ?_
  refine vo_nil ?_
  refine hK11 _ ?_
  refine vc_cond rfl (fun hci11 => ?_) (fun hci11 => ?_)
  ·try simp only [zq0, zq1, zq2, zq3, zq4, zq5, zq6, zq7, zq8, zq9, zqa, zqb, zqc, zqd, zqe, zqf] at hci11
   have hil : i < met.length := by omega
   have hmi := hm.2 _ (getD_mem hil 0)
   have hml := hm.len
   have hul := upM_lim hV hmi.1 hmi.2
   refine vc_skip ?_
   refine hK10 _ ?_
   refine vc_seq fun K12 hK12 => ?_
   refine vc_block ?_
   refine vc_region ?_
   refine vo_move_ref rfl rfl ?_
   refine vo_move rfl ?_
   refine vo_stM ?_
   refine vo_move_ref rfl rfl ?_
   refine vo_move_pv rfl rfl ?_
   refine vo_index_ref rfl rfl rfl rfl E24.und inf3 sz3 sd sd ?_
   try simp only [Int.toNat_natCast]
   refine vo_load_own rfl rfl rfl Try.underlying3 rfl sd (getD_ints _ _) rfl ?_
   try simp only [Int.toNat_natCast]
   refine vo_callF [0, 1] rfl Try.func72 rfl rfl rfl rfl rfl rfl rfl (supStep_sat hbases hlbases hregs hmi.1 hmi.2) ?_
   rintro _ _ ⟨nlu, rfl, rfl⟩
   refine ⟨Nat.le_of_ble_eq_true rfl, ⟨rfl, rfl, rfl, rfl⟩, .inl rfl, ?_⟩
   refine vo_stM ?_
   refine vo_expose 6 (by omega) rfl ?_
   refine vo_stM ?_
   refine vo_weaken 21 rfl ?_
   refine vo_stM ?_
   refine vo_append E24 rfl (by omega) rfl rfl rfl sd sd ?_
   refine vo_stM ?_
   try simp only [app_ints, app_intss, app_bools, ← List.map_append]
   refine vo_call [] Try.func93 rfl rfl rfl rfl rfl rfl rfl (eachOnce_sat (list := met ++ (upM bases regs (met.getD i 0))) (by rw [List.length_append]; omega)) ?_
   rintro _ _ ⟨nle, rfl, rfl⟩
   refine ⟨Nat.le_of_ble_eq_true rfl, ⟨rfl, rfl, rfl, rfl⟩, .inr ⟨rfl, rfl⟩, ?_⟩
   refine vo_stM ?_
   refine vo_assign_mv 5 7 rfl rfl (by decide) rfl (by omega) (by omega) rfl ?_
   refine vo_stM ?_
   refine vo_nil ?_
   refine hK12 _ ?_
   refine vc_region ?_
   refine vo_move_pv rfl rfl ?_
   refine vo_binI rfl rfl rfl rfl sd ?_
   refine vo_assign_pv rfl rfl ?_
   refine vo_nil ?_
   change againE _ _ _ _ _ _ _ _ _ _
   refine againE_mk rfl rfl rfl rfl rfl rfl ⟨_, ?_, i + 1, (onceF [] (met ++ (upM bases regs (met.getD i 0)))), nle, rfl, ?_, ?_, ?_, rfl, rfl⟩
   ·omega
   ·rw [once_grow hm.1]; exact (grow_step hV hm hil).1
   ·rw [once_grow hm.1]; have := (grow_step hV hm hil).2; omega
   ·rw [once_grow hm.1, ← growM_step hil (by omega)]; exact hg
  ·try simp only [zq0, zq1, zq2, zq3, zq4, zq5, zq6, zq7, zq8, zq9, zqa, zqb, zqc, zqd, zqe, zqf] at hci11
   have hfin : metU bases regs c = met := by rw [← hg, growM_end (by omega)]
   have hml := hm.len
   refine vc_exit ?_
   refine hK8 _ ?_
   refine vc_seq fun K13 hK13 => ?_
   refine vc_region ?_
   refine vo_move_ref rfl rfl ?_
   refine vo_assign_ref rfl rfl ?_
   refine vo_nil ?_
   refine hK13 _ ?_
   refine vc_ret ?_
   refine inQ_ret rfl rfl ?_
   refine vo_stM ?_
   refine vo_assign_ref rfl rfl ?_
   refine vo_nil ?_
   refine hK5 _ ?_
   refine vc_seq fun K14 hK14 => ?_
   refine vc_region ?_
   refine vo_move_ref rfl rfl ?_
   refine vo_call [5] Try.func74 rfl rfl rfl rfl rfl rfl rfl (sort_sat sortC (l := met) (by omega)) ?_
   rintro _ _ ⟨rfl, rfl⟩
   refine ⟨Nat.le_of_ble_eq_true rfl, ⟨rfl, rfl, rfl, rfl⟩, .inl rfl, ?_⟩
   refine vo_stM ?_
   refine vo_clean 5 rfl (scal_ints _) ?_
   refine vo_stM ?_
   refine vo_nil ?_
   refine hK14 _ ?_
   refine vc_seq fun K15 hK15 => ?_
   refine vc_region ?_
   refine vo_move_ref rfl rfl ?_
   refine vo_assign_ref rfl rfl ?_
   refine vo_nil ?_
   refine hK15 _ ?_
   refine vc_ret ?_
   change retQ _ _ _ _ _
   refine retQ_sel [5] (srows := [_]) (.inr rfl) hC rfl rfl rfl rfl rfl rfl rfl ?_
   have e : supM bases regs c = srt (metU bases regs c) := by unfold supM; rw [if_pos (by assumption)]
   rw [e, hfin]; exact ⟨_, rfl, rfl⟩

end Go.Vl

namespace Go.Vl
set_option linter.unusedVariables false
set_option linter.unusedSimpArgs false
open Go.Proofs

theorem srt_sel {n : Nat} {l : List Int} (h : MetOK n l) : srt l = selI (fun i => decide (i ∈ l)) n := by
  have h1 : (srt l).Nodup := (List.mergeSort_perm l _).nodup_iff.2 h.1
  have h2 : (srt l).Pairwise (· < ·) := by
    have h3 := srt_pair l
    rw [List.nodup_iff_pairwise_ne] at h1
    exact (List.pairwise_and_iff.2 ⟨h3, h1⟩).imp fun h => by have := h.1; have := h.2; omega
  refine asc_ext h2 (selI_asc _ _) fun x => ?_
  rw [srt_mem, selI_mem, decide_eq_true_iff]
  exact ⟨fun hx => ⟨hx, (h.2 x hx).1, by have := (h.2 x hx).2; omega⟩, fun hx => hx.1⟩
theorem metU_ok {b : List (List Int)} {r : List (Int × Int)} (h : VRegs b r) : ∀ (f i : Nat) (met : List Int), MetOK b.length met → MetOK b.length (growM (upM b r) f met i)
  | 0, _, _, hm => hm
  | f + 1, i, met, hm => by
    unfold growM
    split
    · rename_i hi
      exact metU_ok h f (i + 1) _ (grow_step h hm hi).1
    · exact hm
end Go.Vl

namespace Go.Vl
set_option linter.unusedVariables false
set_option linter.unusedSimpArgs false
open Go.Proofs
def MkP (L : List (Int × Int)) (k : Int) (n : Nat) : Prop := ∀ j : Nat, j < n → L.getD j (0, 0) = (k + 2 * j, k + 2 * j + 1)
theorem MkP.set {L : List (Int × Int)} {k y : Int} {n : Nat} (h : MkP L k n) (hn : n < L.length) (hy : y = k + 2 * n) : MkP (L.set n (y, y + 1)) k (n + 1) := by
  intro j hj
  rcases Nat.lt_or_ge j n with h1 | h1
  · rw [← h j h1]
    simp [List.getD, List.getElem?_set, show n ≠ j by omega]
  · have : j = n := by omega
    subst this
    rw [hy]
    simp [List.getD, List.getElem?_set, hn]
theorem supM_yes {b : List (List Int)} {r : List (Int × Int)} {c : Int} (hV : VRegs b r) (h0 : 0 ≤ c) (h1 : c < b.length) : supM b r c = selI (fun i => decide (i ∈ metU b r c)) b.length := by
  unfold supM
  rw [if_pos ⟨hV, fun x hx => by rw [List.mem_singleton.1 hx]; omega⟩]
  exact srt_sel (metU_ok hV 13 0 [c] (met_one h0 h1))
theorem supM_len {b : List (List Int)} {r : List (Int × Int)} {c : Int} : (supM b r c).length ≤ 12 := by
  by_cases h : hasRC b r [c]
  · have hc := h.2 c (by simp)
    rw [supM_yes h.1 hc.1 (by omega)]
    exact Nat.le_trans (selI_len _ _) h.1.1.2.1
  · unfold supM; rw [if_neg h]; simp
end Go.Vl

namespace Go.Vl
set_option linter.unusedVariables false
set_option linter.unusedSimpArgs false
open Go.Proofs

/-- A reader that has given p numbers. -/
abbrev rdr (nl : Option Bool) (c : List (Fin 256)) (p : Nat) : Row := .var 92 [.pv false (.sl nl 1 (c.map byteP)), i64 p]
/-- Bases as the readers make them. -/
def SB (B : List (List Int)) : Prop := 1 ≤ B.length ∧ B.getD 0 [] = [] ∧ ∀ i, i < B.length → 0 < i → B.getD i [] ≠ [] ∧ (B.getD i []).length ≤ 3 ∧ (B.getD i []).Nodup ∧ ∀ x ∈ B.getD i [], 0 ≤ x ∧ x < i
theorem getD_app {α : Type} {l l' : List α} {i : Nat} (h : i < l.length) (d : α) : (l ++ l').getD i d = l.getD i d := by simp [List.getD, List.getElem?_append_left h]
theorem getD_end {α : Type} {l : List α} {x : α} (d : α) : (l ++ [x]).getD l.length d = x := by simp [List.getD]
theorem nodup_snoc {l : List Int} {x : Int} (h : l.Nodup) (hx : x ∉ l) : (l ++ [x]).Nodup := by
  rw [List.nodup_append]; exact ⟨h, by simp, fun a ha b hb e => hx (by rw [List.mem_singleton.1 hb] at e; exact e ▸ ha)⟩
theorem SB.snoc {B : List (List Int)} {l : List Int} (h : SB B) (h1 : l ≠ []) (h2 : l.length ≤ 3) (h3 : l.Nodup) (h4 : ∀ x ∈ l, 0 ≤ x ∧ x < B.length) : SB (B ++ [l]) := by
  obtain ⟨a1, a2, a3⟩ := h
  refine ⟨by simp, by rw [getD_app (by omega)]; exact a2, fun i hi h0 => ?_⟩
  rcases Nat.lt_or_ge i B.length with hb | hb
  · rw [getD_app hb]; exact a3 i hb h0
  · have : i = B.length := by simp at hi; omega
    subst this
    rw [getD_end]
    exact ⟨h1, h2, h3, h4⟩
theorem SB.lens {B : List (List Int)} (h : SB B) : ∀ l ∈ B, l.length ≤ 3 := by
  intro l hl
  obtain ⟨i, hi, rfl⟩ := List.getElem_of_mem hl
  have e : B[i] = B.getD i [] := by simp [List.getD, List.getElem?_eq_getElem hi]
  rw [e]
  rcases Nat.eq_zero_or_pos i with rfl | h0
  · rw [h.2.1]; simp
  · exact (h.2.2 i hi h0).2.1

theorem newReader_sat {nl : Option Bool} {c : List (Fin 256)} (hl : c.length < 1000000000) : SatAt Try.prog 51 [.pv false (.sl nl 1 (c.map byteP))] [] (fun res rows => ∃ nl2 c2, c2.length ≤ 2000 ∧ res = [.ptr 0 0 0 0] ∧ rows = [rdr nl2 c2 0]) := by
 refine sat_entry_g (ts := [2]) Try.func51 rfl rfl (by decide) (Nat.le_of_ble_eq_true rfl) fun C hC => ?_
 rw [Try.ntmps51]
 replace hC : C.nb = 0 := hC
 refine vc_seq fun K1 hK1 => ?_
 refine vc_region ?_
 refine vo_assign rfl ?_
 refine vo_nil ?_
 refine hK1 _ ?_
 refine vc_seq fun K2 hK2 => ?_
 refine vc_seq fun K3 hK3 => ?_
 refine vc_region ?_
 refine vo_move_pv rfl rfl ?_
 refine vo_len_pv rfl rfl Try.underlying22 ?_
 refine vo_binI rfl rfl rfl rfl trivial ?_
 refine vo_nil ?_
 refine hK3 _ ?_
 refine vc_cond rfl (fun hc1 => ?_) (fun hc1 => ?_)
 ·try simp only [zq0, zq1, zq2, zq3, zq4, zq5, zq6, zq7, zq8, zq9, zqa, zqb, zqc, zqd, zqe, zqf] at hc1
  refine vc_region ?_
  refine vo_move_pv rfl rfl ?_
  refine vo_slice_pv rfl rfl rfl rfl E22.und inf5 sz5 sd sd sd ?_
  simp only [Int.toNat_natCast, Int.toNat_zero, List.drop_zero, Nat.sub_zero, ← List.map_drop, ← List.map_take]
  refine vo_assign_pv rfl rfl ?_
  refine vo_nil ?_
  refine hK2 _ ?_
  refine vc_seq fun K4 hK4 => ?_
  refine vc_region ?_
  refine vo_move_pv rfl rfl ?_
  refine vo_build S92 rfl rfl rfl ?_
  refine vo_box rfl rfl ?_
  refine vo_assign_ptr rfl rfl ?_
  refine vo_nil ?_
  refine hK4 _ ?_
  refine vc_ret ?_
  change retG _ _ _ _ _
  refine retG_one 0 hC rfl rfl rfl rfl rfl ?_
  refine ⟨_, _, ?_, rfl, rfl⟩
  first | omega | (simp; omega)
 ·try simp only [zq0, zq1, zq2, zq3, zq4, zq5, zq6, zq7, zq8, zq9, zqa, zqb, zqc, zqd, zqe, zqf] at hc1
  refine vc_skip ?_
  refine hK2 _ ?_
  refine vc_seq fun K5 hK5 => ?_
  refine vc_region ?_
  refine vo_move_pv rfl rfl ?_
  refine vo_build S92 rfl rfl rfl ?_
  refine vo_box rfl rfl ?_
  refine vo_assign_ptr rfl rfl ?_
  refine vo_nil ?_
  refine hK5 _ ?_
  refine vc_ret ?_
  change retG _ _ _ _ _
  refine retG_one 0 hC rfl rfl rfl rfl rfl ?_
  refine ⟨_, _, ?_, rfl, rfl⟩
  first | omega | (simp; omega)


theorem pick_sat {nl : Option Bool} {c : List (Fin 256)} {p : Nat} {n : Int} (hc : c.length ≤ 2000) (hp : p < 1000000) : SatAt Try.prog 54 [.ptr 0 0 0 0, i64 n] [rdr nl c p] (fun res rows => ∃ x, (0 ≤ x ∧ (1 ≤ n → x < n)) ∧ res = [i64 x] ∧ rows = [rdr nl c (p + 1)]) := by
 have hL : ((c.map byteP).length : Int) = c.length := by simp
 refine sat_entry_g (ts := [4]) Try.func54 rfl rfl (by decide) (Nat.le_of_ble_eq_true rfl) fun C hC => ?_
 rw [Try.ntmps54]
 replace hC : C.nb = 1 := hC
 refine vc_seq fun K1 hK1 => ?_
 refine vc_region ?_
 refine vo_assign_pv rfl rfl ?_
 refine vo_nil ?_
 refine hK1 _ ?_
 refine vc_seq fun K2 hK2 => ?_
 refine vc_region ?_
 refine vo_move_ptr rfl rfl ?_
 refine vo_move_ptr rfl rfl ?_
 refine vo_nilCheck_ptr rfl rfl ?_
 refine vo_fieldAddr_ptr rfl rfl Try.underlying92 rfl inf3 (by rw [sz3]; decide) ?_
 refine vo_load_var rfl rfl rfl Try.underlying3 rfl rfl ?_
 refine vo_binI rfl rfl rfl rfl sd ?_
 refine vo_nilCheck_ptr rfl rfl ?_
 refine vo_fieldAddr_ptr rfl rfl Try.underlying92 rfl inf3 (by rw [sz3]; decide) ?_
 refine vo_store_var rfl rfl rfl rfl inf3 sz3 rfl ?_
 refine vo_nil ?_
 refine hK2 _ ?_
 refine vc_seq fun K3 hK3 => ?_
 refine vc_seq fun K4 hK4 => ?_
 refine vc_region ?_
 refine vo_move_pv rfl rfl ?_
 refine vo_binI rfl rfl rfl rfl trivial ?_
 refine vo_move_pv rfl rfl ?_
 refine vo_split 17 rfl (fun hg1 => ?_) (fun hg1 => ?_)
 ·try simp only [zq0, zq1, zq2, zq3, zq4, zq5, zq6, zq7, zq8, zq9, zqa, zqb, zqc, zqd, zqe, zqf] at hg1
  refine vo_guard_off rfl rfl rfl rfl rfl ?_
  refine vo_guard_off rfl rfl rfl rfl rfl ?_
  refine vo_guard_off rfl rfl rfl rfl rfl ?_
  refine vo_guard_off rfl rfl rfl rfl rfl ?_
  refine vo_guard_off rfl rfl rfl rfl rfl ?_
  refine vo_guard_off rfl rfl rfl rfl rfl ?_
  refine vo_pick_t rfl rfl ?_
  refine vo_nil ?_
  refine hK4 _ ?_
  refine vc_cond_t rfl ?_
  refine vc_seq fun K5 hK5 => ?_
  refine vc_region ?_
  refine vo_assign_pv rfl rfl ?_
  refine vo_nil ?_
  refine hK5 _ ?_
  refine vc_ret ?_
  change retG _ _ _ _ _
  refine retG_sel [] [] hC rfl rfl rfl rfl rfl rfl ?_
  exact ⟨_, ⟨by omega, by omega⟩, rfl, rfl⟩
 ·try simp only [zq0, zq1, zq2, zq3, zq4, zq5, zq6, zq7, zq8, zq9, zqa, zqb, zqc, zqd, zqe, zqf] at hg1
  refine vo_guard_on rfl rfl rfl ?_
  refine vo_move_ptr rfl rfl ?_
  refine vo_guard_on rfl rfl rfl ?_
  refine vo_nilCheck_ptr rfl rfl ?_
  refine vo_guard_on rfl rfl rfl ?_
  refine vo_fieldAddr_ptr rfl rfl Try.underlying92 rfl inf22 (by rw [sz22]; decide) ?_
  refine vo_guard_on rfl rfl rfl ?_
  refine vo_load_var rfl rfl rfl Try.underlying22 rfl rfl ?_
  refine vo_guard_on rfl rfl rfl ?_
  refine vo_len_pv rfl rfl Try.underlying22 ?_
  refine vo_guard_on rfl rfl rfl ?_
  refine vo_binI rfl rfl rfl rfl trivial ?_
  refine vo_pick_f rfl rfl ?_
  refine vo_nil ?_
  refine hK4 _ ?_
  refine vc_cond rfl (fun hc2 => ?_) (fun hc2 => ?_)
  ·try simp only [zq0, zq1, zq2, zq3, zq4, zq5, zq6, zq7, zq8, zq9, zqa, zqb, zqc, zqd, zqe, zqf] at hc2
   refine vc_seq fun K6 hK6 => ?_
   refine vc_region ?_
   refine vo_assign_pv rfl rfl ?_
   refine vo_nil ?_
   refine hK6 _ ?_
   refine vc_ret ?_
   change retG _ _ _ _ _
   refine retG_sel [] [] hC rfl rfl rfl rfl rfl rfl ?_
   exact ⟨_, ⟨by omega, by omega⟩, rfl, rfl⟩
  ·try simp only [zq0, zq1, zq2, zq3, zq4, zq5, zq6, zq7, zq8, zq9, zqa, zqb, zqc, zqd, zqe, zqf] at hc2
   refine vc_skip ?_
   refine hK3 _ ?_
   refine vc_seq fun K7 hK7 => ?_
   refine vc_region ?_
   refine vo_move_ptr rfl rfl ?_
   refine vo_nilCheck_ptr rfl rfl ?_
   refine vo_fieldAddr_ptr rfl rfl Try.underlying92 rfl inf3 (by rw [sz3]; decide) ?_
   refine vo_load_var rfl rfl rfl Try.underlying3 rfl rfl ?_
   refine vo_binI rfl rfl rfl rfl sd ?_
   refine vo_assign_pv rfl rfl ?_
   refine vo_nil ?_
   refine hK7 _ ?_
   refine vc_seq fun K8 hK8 => ?_
   refine vc_seq fun K9 hK9 => ?_
   refine vc_region ?_
   refine vo_move_pv rfl rfl ?_
   refine vo_move_ptr rfl rfl ?_
   refine vo_nilCheck_ptr rfl rfl ?_
   refine vo_fieldAddr_ptr rfl rfl Try.underlying92 rfl inf22 (by rw [sz22]; decide) ?_
   refine vo_load_var rfl rfl rfl Try.underlying22 rfl rfl ?_
   refine vo_len_pv rfl rfl Try.underlying22 ?_
   refine vo_binI rfl rfl rfl rfl trivial ?_
   refine vo_nil ?_
   refine hK9 _ ?_
   refine vc_cond rfl (fun hc3 => ?_) (fun hc3 => ?_)
   ·try simp only [zq0, zq1, zq2, zq3, zq4, zq5, zq6, zq7, zq8, zq9, zqa, zqb, zqc, zqd, zqe, zqf] at hc3
    refine vc_seq fun K10 hK10 => ?_
    refine vc_region ?_
    refine vo_move_ptr rfl rfl ?_
    refine vo_nilCheck_ptr rfl rfl ?_
    refine vo_fieldAddr_ptr rfl rfl Try.underlying92 rfl inf22 (by rw [sz22]; decide) ?_
    refine vo_load_var rfl rfl rfl Try.underlying22 rfl rfl ?_
    refine vo_move_pv rfl rfl ?_
    refine vo_index_pv (.int .u8 0) rfl rfl rfl E22.und inf5 sz5 sd sd ?_
    simp only [Int.toNat_natCast, Int.toNat_zero, getD_ints, getD_intss, getD_bools, getD_bytes, PV.cells]
    refine vo_load_adr rfl rfl Try.underlying5 rfl ?_
    refine vo_convI rfl rfl Try.underlying5 Try.underlying3 sd ?_
    refine vo_move_pv rfl rfl ?_
    refine vo_binI rfl rfl rfl rfl sd ?_
    refine vo_assign_pv rfl rfl ?_
    refine vo_nil ?_
    refine hK10 _ ?_
    refine vc_ret ?_
    change retG _ _ _ _ _
    refine retG_sel [] [] hC rfl rfl rfl rfl rfl rfl ?_
    exact ⟨_, ⟨Int.emod_nonneg _ (by omega), fun h => Int.emod_lt_of_pos _ (by omega)⟩, rfl, rfl⟩
   ·try simp only [zq0, zq1, zq2, zq3, zq4, zq5, zq6, zq7, zq8, zq9, zqa, zqb, zqc, zqd, zqe, zqf] at hc3
    have e1 : 0 ≤ ((p : Int) + 1 - 1) % ((c.map byteP).length : Int) := Int.emod_nonneg _ (by omega)
    have e2 : ((p : Int) + 1 - 1) % ((c.map byteP).length : Int) < ((c.map byteP).length : Int) := Int.emod_lt_of_pos _ (by omega)
    have e3 : 0 ≤ (((p : Int) + 1 - 1) * 7 + 3) % ((c.map byteP).length : Int) := Int.emod_nonneg _ (by omega)
    have e4 : (((p : Int) + 1 - 1) * 7 + 3) % ((c.map byteP).length : Int) < ((c.map byteP).length : Int) := Int.emod_lt_of_pos _ (by omega)
    have e5 : 0 ≤ ((p : Int) + 1 - 1) / ((c.map byteP).length : Int) := Int.ediv_nonneg (by omega) (by omega)
    have e6 : ((p : Int) + 1 - 1) / ((c.map byteP).length : Int) ≤ (p : Int) + 1 - 1 := Int.ediv_le_self _ (by omega)
    refine vc_skip ?_
    refine hK8 _ ?_
    refine vc_seq fun K11 hK11 => ?_
    refine vc_draw (by kernel_rfl) ?_
    change VD _ _ _ 46 _ _ _
    refine vd_light 0 rfl rfl rfl (by kernel_rfl) (by kernel_rfl) (by kernel_rfl) (wnt_none rfl) (lt_move_ptr rfl) ?_
    refine vd_light 1 rfl rfl rfl (by kernel_rfl) (by kernel_rfl) (by kernel_rfl) (wnt_none rfl) (lt_nilCheck_ptr rfl) ?_
    refine vd_light 2 rfl rfl rfl (by kernel_rfl) (by kernel_rfl) (by kernel_rfl) (wnt_none rfl) (lt_fieldAddr_ptr rfl Try.underlying92 rfl inf22 (by rw [sz22]; decide)) ?_
    refine vd_light 3 rfl rfl rfl (by kernel_rfl) (by kernel_rfl) (by kernel_rfl) (wnt_none rfl) (lt_load_var rfl rfl Try.underlying22 rfl rfl) ?_
    refine vd_light 4 rfl rfl rfl (by kernel_rfl) (by kernel_rfl) (by kernel_rfl) (wnt_none rfl) (lt_move_pv rfl) ?_
    refine vd_light 5 rfl rfl rfl (by kernel_rfl) (by kernel_rfl) (by kernel_rfl) (wnt_none rfl) (lt_move_ptr rfl) ?_
    refine vd_light 6 rfl rfl rfl (by kernel_rfl) (by kernel_rfl) (by kernel_rfl) (wnt_none rfl) (lt_nilCheck_ptr rfl) ?_
    refine vd_light 7 rfl rfl rfl (by kernel_rfl) (by kernel_rfl) (by kernel_rfl) (wnt_none rfl) (lt_fieldAddr_ptr rfl Try.underlying92 rfl inf22 (by rw [sz22]; decide)) ?_
    refine vd_light 8 rfl rfl rfl (by kernel_rfl) (by kernel_rfl) (by kernel_rfl) (wnt_none rfl) (lt_load_var rfl rfl Try.underlying22 rfl rfl) ?_
    refine vd_light 9 rfl rfl rfl (by kernel_rfl) (by kernel_rfl) (by kernel_rfl) (wnt_none rfl) (lt_len_pv rfl Try.underlying22) ?_
    refine vd_light 10 rfl rfl rfl (by kernel_rfl) (by kernel_rfl) (by kernel_rfl) (wnt_none rfl) (lt_binI rfl rfl rfl sd) ?_
    refine vd_light 11 rfl rfl rfl (by kernel_rfl) (by kernel_rfl) (by kernel_rfl) (wnt_none rfl) (lt_index_pv (.int .u8 0) rfl rfl E22.und inf5 sz5 sd sd) ?_
    simp only [Int.toNat_natCast, Int.toNat_zero, getD_ints, getD_intss, getD_bools, getD_bytes, PV.cells]
    refine vd_light 12 rfl rfl rfl (by kernel_rfl) (by kernel_rfl) (by kernel_rfl) (wnt_none rfl) (lt_load_adr rfl Try.underlying5 rfl) ?_
    refine vd_light 13 rfl rfl rfl (by kernel_rfl) (by kernel_rfl) (by kernel_rfl) (wnt_none rfl) (lt_convI rfl Try.underlying5 Try.underlying3 sd) ?_
    refine vd_light 14 rfl rfl rfl (by kernel_rfl) (by kernel_rfl) (by kernel_rfl) (wnt_none rfl) (lt_binI rfl rfl rfl sd) ?_
    refine vd_light 15 rfl rfl rfl (by kernel_rfl) (by kernel_rfl) (by kernel_rfl) (wnt_none rfl) (lt_move_ptr rfl) ?_
    refine vd_light 16 rfl rfl rfl (by kernel_rfl) (by kernel_rfl) (by kernel_rfl) (wnt_none rfl) (lt_nilCheck_ptr rfl) ?_
    refine vd_light 17 rfl rfl rfl (by kernel_rfl) (by kernel_rfl) (by kernel_rfl) (wnt_none rfl) (lt_fieldAddr_ptr rfl Try.underlying92 rfl inf22 (by rw [sz22]; decide)) ?_
    refine vd_light 18 rfl rfl rfl (by kernel_rfl) (by kernel_rfl) (by kernel_rfl) (wnt_none rfl) (lt_load_var rfl rfl Try.underlying22 rfl rfl) ?_
    refine vd_light 19 rfl rfl rfl (by kernel_rfl) (by kernel_rfl) (by kernel_rfl) (wnt_none rfl) (lt_move_pv rfl) ?_
    refine vd_light 20 rfl rfl rfl (by kernel_rfl) (by kernel_rfl) (by kernel_rfl) (wnt_none rfl) (lt_binI rfl rfl rfl sd) ?_
    refine vd_light 21 rfl rfl rfl (by kernel_rfl) (by kernel_rfl) (by kernel_rfl) (wnt_none rfl) (lt_binI rfl rfl rfl sd) ?_
    refine vd_light 22 rfl rfl rfl (by kernel_rfl) (by kernel_rfl) (by kernel_rfl) (wnt_none rfl) (lt_move_ptr rfl) ?_
    refine vd_light 23 rfl rfl rfl (by kernel_rfl) (by kernel_rfl) (by kernel_rfl) (wnt_none rfl) (lt_nilCheck_ptr rfl) ?_
    refine vd_light 24 rfl rfl rfl (by kernel_rfl) (by kernel_rfl) (by kernel_rfl) (wnt_none rfl) (lt_fieldAddr_ptr rfl Try.underlying92 rfl inf22 (by rw [sz22]; decide)) ?_
    refine vd_light 25 rfl rfl rfl (by kernel_rfl) (by kernel_rfl) (by kernel_rfl) (wnt_none rfl) (lt_load_var rfl rfl Try.underlying22 rfl rfl) ?_
    refine vd_light 26 rfl rfl rfl (by kernel_rfl) (by kernel_rfl) (by kernel_rfl) (wnt_none rfl) (lt_len_pv rfl Try.underlying22) ?_
    refine vd_light 27 rfl rfl rfl (by kernel_rfl) (by kernel_rfl) (by kernel_rfl) (wnt_none rfl) (lt_binI rfl rfl rfl sd) ?_
    refine vd_light 28 rfl rfl rfl (by kernel_rfl) (by kernel_rfl) (by kernel_rfl) (wnt_none rfl) (lt_index_pv (.int .u8 0) rfl rfl E22.und inf5 sz5 sd sd) ?_
    simp only [Int.toNat_natCast, Int.toNat_zero, getD_ints, getD_intss, getD_bools, getD_bytes, PV.cells]
    refine vd_light 29 rfl rfl rfl (by kernel_rfl) (by kernel_rfl) (by kernel_rfl) (wnt_none rfl) (lt_load_adr rfl Try.underlying5 rfl) ?_
    refine vd_light 30 rfl rfl rfl (by kernel_rfl) (by kernel_rfl) (by kernel_rfl) (wnt_none rfl) (lt_convI rfl Try.underlying5 Try.underlying3 sd) ?_
    refine vd_light 31 rfl rfl rfl (by kernel_rfl) (by kernel_rfl) (by kernel_rfl) (wnt_none rfl) (lt_binI rfl rfl rfl sd) ?_
    refine vd_light 32 rfl rfl rfl (by kernel_rfl) (by kernel_rfl) (by kernel_rfl) (wnt_none rfl) (lt_binI rfl rfl rfl sd) ?_
    refine vd_light 33 rfl rfl rfl (by kernel_rfl) (by kernel_rfl) (by kernel_rfl) (wnt_none rfl) (lt_move_pv rfl) ?_
    refine vd_light 34 rfl rfl rfl (by kernel_rfl) (by kernel_rfl) (by kernel_rfl) (wnt_none rfl) (lt_binI rfl rfl rfl sd) ?_
    refine vd_light 35 rfl rfl rfl (by kernel_rfl) (by kernel_rfl) (by kernel_rfl) (wnt_none rfl) (lt_binI rfl rfl rfl sd) ?_
    refine vd_light 36 rfl rfl rfl (by kernel_rfl) (by kernel_rfl) (by kernel_rfl) (wnt_none rfl) (lt_move_pv rfl) ?_
    refine vd_light 37 rfl rfl rfl (by kernel_rfl) (by kernel_rfl) (by kernel_rfl) (wnt_none rfl) (lt_move_ptr rfl) ?_
    refine vd_light 38 rfl rfl rfl (by kernel_rfl) (by kernel_rfl) (by kernel_rfl) (wnt_none rfl) (lt_nilCheck_ptr rfl) ?_
    refine vd_light 39 rfl rfl rfl (by kernel_rfl) (by kernel_rfl) (by kernel_rfl) (wnt_none rfl) (lt_fieldAddr_ptr rfl Try.underlying92 rfl inf22 (by rw [sz22]; decide)) ?_
    refine vd_light 40 rfl rfl rfl (by kernel_rfl) (by kernel_rfl) (by kernel_rfl) (wnt_none rfl) (lt_load_var rfl rfl Try.underlying22 rfl rfl) ?_
    refine vd_light 41 rfl rfl rfl (by kernel_rfl) (by kernel_rfl) (by kernel_rfl) (wnt_none rfl) (lt_len_pv rfl Try.underlying22) ?_
    refine vd_light 42 rfl rfl rfl (by kernel_rfl) (by kernel_rfl) (by kernel_rfl) (wnt_none rfl) (lt_binI rfl rfl rfl sd) ?_
    refine vd_light 43 rfl rfl rfl (by kernel_rfl) (by kernel_rfl) (by kernel_rfl) (wnt_none rfl) (lt_binI rfl rfl rfl sd) ?_
    refine vd_light 44 rfl rfl rfl (by kernel_rfl) (by kernel_rfl) (by kernel_rfl) (wnt_none rfl) (lt_binI rfl rfl rfl sd) ?_
    refine vd_light 45 rfl rfl rfl (by kernel_rfl) (by kernel_rfl) (by kernel_rfl) (wnt_none rfl) (lt_assign_pv rfl) ?_
    refine vd_nil (by kernel_rfl) ?_
    refine hK11 _ ?_
    refine vc_seq fun K12 hK12 => ?_
    refine vc_region ?_
    refine vo_move_pv rfl rfl ?_
    refine vo_move_pv rfl rfl ?_
    refine vo_binI rfl rfl rfl rfl sd ?_
    refine vo_xor rfl rfl rfl sd sd sd sd ?_
    refine vo_assign_pv rfl rfl ?_
    refine vo_nil ?_
    refine hK12 _ ?_
    refine vc_seq fun K13 hK13 => ?_
    refine vc_region ?_
    refine vo_move_pv rfl rfl ?_
    refine vo_move_pv rfl rfl ?_
    refine vo_binI rfl rfl rfl rfl sd ?_
    refine vo_assign_pv rfl rfl ?_
    refine vo_nil ?_
    refine hK13 _ ?_
    refine vc_ret ?_
    change retG _ _ _ _ _
    refine retG_sel [] [] hC rfl rfl rfl rfl rfl rfl ?_
    exact ⟨_, ⟨Int.emod_nonneg _ (by omega), fun h => Int.emod_lt_of_pos _ (by omega)⟩, rfl, rfl⟩


theorem one_sat {nl : Option Bool} {c : List (Fin 256)} {p : Nat} {nl2 : Option Bool} {list : List Int} (hc : c.length ≤ 2000) (hp : p < 1000000) (hn : list ≠ []) (hl : list.length < 1000000000) : SatAt Try.prog 53 [.ptr 0 0 0 0, .pv false (.sl nl2 1 (list.map intP))] [rdr nl c p] (fun res rows => ∃ x, x ∈ list ∧ res = [i64 x] ∧ rows = [rdr nl c (p + 1)]) := by
 have hL : ((list.map intP).length : Int) = list.length := by simp
 have hN := List.length_pos_iff.2 hn
 refine sat_entry_g (ts := [4]) Try.func53 rfl rfl (by decide) (Nat.le_of_ble_eq_true rfl) fun C hC => ?_
 rw [Try.ntmps53]
 replace hC : C.nb = 1 := hC
 refine vc_seq fun K1 hK1 => ?_
 refine vc_region ?_
 refine vo_assign_pv rfl rfl ?_
 refine vo_nil ?_
 refine hK1 _ ?_
 refine vc_seq fun K2 hK2 => ?_
 refine vc_region ?_
 refine vo_move_pv rfl rfl ?_
 refine vo_move_ptr rfl rfl ?_
 refine vo_move_pv rfl rfl ?_
 refine vo_len_pv rfl rfl Try.underlying24 ?_
 refine vo_call [0] Try.func54 rfl rfl rfl rfl rfl rfl rfl (pick_sat hc (by omega)) ?_
 rintro _ _ ⟨x, ⟨hx0, hx1⟩, rfl, rfl⟩
 refine ⟨Nat.le_of_ble_eq_true rfl, ⟨rfl, rfl, rfl, rfl⟩, .inl rfl, ?_⟩
 refine vo_stN ?_
 refine vo_index_pv (.int .i64 0) rfl rfl rfl E24.und inf3 sz3 sd sd ?_
 simp only [Int.toNat_natCast, Int.toNat_zero, getD_ints, getD_intss, getD_bools, getD_bytes, PV.cells]
 refine vo_load_adr rfl rfl Try.underlying3 rfl ?_
 refine vo_assign_pv rfl rfl ?_
 refine vo_nil ?_
 refine hK2 _ ?_
 refine vc_ret ?_
 change retG _ _ _ _ _
 refine retG_sel [] [] hC rfl rfl rfl rfl rfl rfl ?_
 exact ⟨_, getD_mem (by omega) 0, rfl, rfl⟩


theorem one2_sat {nl : Option Bool} {c : List (Fin 256)} {p : Nat} {nl2 : Option Bool} {list : List (List Int)} (hc : c.length ≤ 2000) (hp : p < 1000000) (hn : list ≠ []) (hl : list.length < 1000000000) : SatAt Try.prog 86 [.ptr 0 0 0 0, .pv false (.sl nl2 1 (list.map ints))] [rdr nl c p] (fun res rows => ∃ x, x ∈ list ∧ res = [.pv false (ints x)] ∧ rows = [rdr nl c (p + 1)]) := by
 have hL : ((list.map ints).length : Int) = list.length := by simp
 have hN := List.length_pos_iff.2 hn
 refine sat_entry_g (ts := [4]) Try.func86 rfl rfl (by decide) (Nat.le_of_ble_eq_true rfl) fun C hC => ?_
 rw [Try.ntmps86]
 replace hC : C.nb = 1 := hC
 refine vc_seq fun K1 hK1 => ?_
 refine vc_region ?_
 refine vo_assign_pv rfl rfl ?_
 refine vo_nil ?_
 refine hK1 _ ?_
 refine vc_seq fun K2 hK2 => ?_
 refine vc_region ?_
 refine vo_move_pv rfl rfl ?_
 refine vo_move_ptr rfl rfl ?_
 refine vo_move_pv rfl rfl ?_
 refine vo_len_pv rfl rfl Try.underlying23 ?_
 refine vo_call [0] Try.func54 rfl rfl rfl rfl rfl rfl rfl (pick_sat hc (by omega)) ?_
 rintro _ _ ⟨x, ⟨hx0, hx1⟩, rfl, rfl⟩
 refine ⟨Nat.le_of_ble_eq_true rfl, ⟨rfl, rfl, rfl, rfl⟩, .inl rfl, ?_⟩
 refine vo_stN ?_
 refine vo_index_pv (.sl none 1 []) rfl rfl rfl E23.und inf24 sz24 sd sd ?_
 simp only [Int.toNat_natCast, Int.toNat_zero, getD_ints, getD_intss, getD_bools, getD_bytes, PV.cells]
 refine vo_load_adr rfl rfl Try.underlying24 rfl ?_
 refine vo_assign_pv rfl rfl ?_
 refine vo_nil ?_
 refine hK2 _ ?_
 refine vc_ret ?_
 change retG _ _ _ _ _
 refine retG_sel [] [] hC rfl rfl rfl rfl rfl rfl ?_
 exact ⟨_, getD_mem (by omega) [], rfl, rfl⟩


theorem someBases_sat {nl : Option Bool} {c : List (Fin 256)} {p : Nat} {most : Int} (hc : c.length ≤ 2000) (hp : p < 999900) : SatAt Try.prog 65 [.ptr 0 0 0 0, i64 most] [rdr nl c p] (fun res rows => ∃ B q, (SB B ∧ B.length ≤ 9 ∧ ((B.length : Int) ≤ most ∨ B.length = 1) ∧ q ≤ p + 90) ∧ res = [.ref 1] ∧ rows = [rdr nl c q, Row.own 24 1 (some false) true (B.map ints)]) := by
 refine sat_entry_g (ts := [4]) Try.func65 rfl rfl (by decide) (Nat.le_of_ble_eq_true rfl) fun C hC => ?_
 rw [Try.ntmps65]
 replace hC : C.nb = 1 := hC
 refine vc_seq fun K1 hK1 => ?_
 refine vc_region ?_
 refine vo_assign_pv rfl rfl ?_
 refine vo_nil ?_
 refine hK1 _ ?_
 refine vc_seq fun K2 hK2 => ?_
 refine vc_region ?_
 refine vo_buildSlice E24 rfl rfl rfl rfl rfl ?_
 refine vo_expose 1 (by omega) rfl ?_
 refine vo_weaken 10 rfl ?_
 refine vo_stN ?_
 refine vo_buildSlice E23 rfl rfl rfl rfl rfl ?_
 refine vo_assign_ref rfl rfl ?_
 refine vo_nil ?_
 refine hK2 _ ?_
 refine vc_seq fun K3 hK3 => ?_
 refine vc_seq fun K4 hK4 => ?_
 refine vc_region ?_
 refine vo_move_ptr rfl rfl ?_
 refine vo_buildSlice E24 rfl rfl rfl rfl rfl ?_
 refine vo_expose 3 (by omega) rfl ?_
 refine vo_weaken 13 rfl ?_
 refine vo_stN ?_
 refine vo_call [0] Try.func53 rfl rfl rfl rfl rfl rfl rfl (one_sat (list := [4,5,3,6,7,2,0,8]) hc (by omega) (by simp) (by simp)) ?_
 rintro _ _ ⟨x, hx, rfl, rfl⟩
 refine ⟨Nat.le_of_ble_eq_true rfl, ⟨rfl, rfl, rfl, rfl⟩, .inl rfl, ?_⟩
 refine vo_stN ?_
 refine vo_assign_pv rfl rfl ?_
 refine vo_nil ?_
 refine hK4 _ ?_
 refine vc_block ?_
 refine vc_stN ?_
 refine vc_loop [0, 1, 5, 6] (fun mz vs rows => ∃ (B : List (List Int)) (q : Nat) (n : Int), mz = n.toNat ∧ ((0 ≤ n ∧ B.length + n ≤ 9)) ∧ ((q + 10 * n ≤ p + 90)) ∧ (SB B) ∧ (((B.length : Int) ≤ most ∨ B.length = 1)) ∧ vs = [.ptr 0 0 0 0, i64 most, .ref 2, i64 n] ∧ rows = [rdr nl c q, .dead, Row.own 24 1 (some false) true (B.map ints), .dead]) (x.toNat) (le_len hC rfl) ⟨rfl, rfl⟩ ⟨[[]], p+1, x, rfl, (by simp at hx; simp; omega), (by simp at hx; omega), ⟨by simp, rfl, fun i h1 h2 => by simp at h1; omega⟩, .inr rfl, rfl, rfl⟩ ?_
 rintro mz vs rows - - ⟨B, q, n, rfl, hn, hq, hB, hm, rfl, rfl⟩
 have hBl : ((B.map ints).length : Int) = B.length := by simp
 have hB1 := hB.1
 refine vc_seq fun K5 hK5 => ?_
 refine vc_seq fun K6 hK6 => ?_
 refine vc_region ?_
 refine vo_move_pv rfl rfl ?_
 refine vo_binI rfl rfl rfl rfl trivial ?_
 refine vo_move_pv rfl rfl ?_
 refine vo_split 17 rfl (fun hg1 => ?_) (fun hg1 => ?_)
 ·try simp only [zq0, zq1, zq2, zq3, zq4, zq5, zq6, zq7, zq8, zq9, zqa, zqb, zqc, zqd, zqe, zqf] at hg1
  refine vo_guard_on rfl rfl rfl ?_
  refine vo_move_ref rfl rfl ?_
  refine vo_guard_on rfl rfl rfl ?_
  refine vo_len_ref rfl rfl rfl Try.underlying23 ?_
  refine vo_guard_on rfl rfl rfl ?_
  refine vo_move_pv rfl rfl ?_
  refine vo_guard_on rfl rfl rfl ?_
  refine vo_binI rfl rfl rfl rfl trivial ?_
  refine vo_pick_t rfl rfl ?_
  refine vo_nil ?_
  refine hK6 _ ?_
  refine vc_cond rfl (fun hc2 => ?_) (fun hc2 => ?_)
  ·try simp only [zq0, zq1, zq2, zq3, zq4, zq5, zq6, zq7, zq8, zq9, zqa, zqb, zqc, zqd, zqe, zqf] at hc2
   refine vc_skip ?_
   refine hK5 _ ?_
   refine vc_seq fun K7 hK7 => ?_
   refine vc_block ?_
   refine vc_seq fun K8 hK8 => ?_
   refine vc_region ?_
   refine vo_buildSlice E24 rfl rfl rfl rfl rfl ?_
   refine vo_assign_ref rfl rfl ?_
   refine vo_nil ?_
   refine hK8 _ ?_
   refine vc_seq fun K9 hK9 => ?_
   refine vc_seq fun K10 hK10 => ?_
   refine vc_region ?_
   refine vo_move_ptr rfl rfl ?_
   refine vo_buildSlice E24 rfl rfl rfl rfl rfl ?_
   refine vo_expose 5 (by omega) rfl ?_
   refine vo_weaken 27 rfl ?_
   refine vo_stN ?_
   refine vo_call [0] Try.func53 rfl rfl rfl rfl rfl rfl rfl (one_sat (list := [1,2,2,3]) hc (by omega) (by simp) (by simp)) ?_
   rintro _ _ ⟨y, hy, rfl, rfl⟩
   refine ⟨Nat.le_of_ble_eq_true rfl, ⟨rfl, rfl, rfl, rfl⟩, .inl rfl, ?_⟩
   refine vo_stN ?_
   refine vo_assign_pv rfl rfl ?_
   refine vo_nil ?_
   refine hK10 _ ?_
   refine vc_block ?_
   refine vc_stN ?_
   refine vc_loop [0, 1, 5, 6, 7, 8] (fun mz vs rows => ∃ (q : Nat) (k : Int) (l : List Int), mz = k.toNat ∧ ((0 ≤ k ∧ l.length + k ≤ 3)) ∧ ((q + 3 * k + 10 * (n-1) ≤ p + 90)) ∧ (l.Nodup) ∧ ((∀ x ∈ l, 0 ≤ x ∧ x < B.length)) ∧ ((l ≠ [] ∨ 1 ≤ k)) ∧ vs = [.ptr 0 0 0 0, i64 most, .ref 2, i64 n, .ref 4, i64 k] ∧ rows = [rdr nl c q, .dead, Row.own 24 1 (some false) true (B.map ints), .dead, Row.own 3 1 (some false) true (l.map intP), .dead]) (y.toNat) (le_len hC rfl) ⟨rfl, rfl⟩ ⟨q+1, y, [], rfl, (by simp at hy; simp; omega), (by simp at hy; omega), List.nodup_nil, (by simp), (.inr (by simp at hy; omega)), rfl, rfl⟩ ?_
   rintro mz vs rows - - ⟨q, k, l, rfl, hk, hq2, hl, hl2, hl3, rfl, rfl⟩
   refine vc_seq fun K11 hK11 => ?_
   refine vc_seq fun K12 hK12 => ?_
   refine vc_region ?_
   refine vo_move_pv rfl rfl ?_
   refine vo_binI rfl rfl rfl rfl trivial ?_
   refine vo_nil ?_
   refine hK12 _ ?_
   refine vc_cond rfl (fun hc3 => ?_) (fun hc3 => ?_)
   ·try simp only [zq0, zq1, zq2, zq3, zq4, zq5, zq6, zq7, zq8, zq9, zqa, zqb, zqc, zqd, zqe, zqf] at hc3
    refine vc_skip ?_
    refine hK11 _ ?_
    refine vc_seq fun K13 hK13 => ?_
    refine vc_block ?_
    refine vc_seq fun K14 hK14 => ?_
    refine vc_region ?_
    refine vo_move_ptr rfl rfl ?_
    refine vo_move_ref rfl rfl ?_
    refine vo_len_ref rfl rfl rfl Try.underlying23 ?_
    refine vo_binI rfl rfl rfl rfl sd ?_
    refine vo_move_ptr rfl rfl ?_
    refine vo_move_ref rfl rfl ?_
    refine vo_len_ref rfl rfl rfl Try.underlying23 ?_
    refine vo_call [0] Try.func54 rfl rfl rfl rfl rfl rfl rfl (pick_sat hc (by omega)) ?_
    rintro _ _ ⟨x1, ⟨hx1, hx2⟩, rfl, rfl⟩
    refine ⟨Nat.le_of_ble_eq_true rfl, ⟨rfl, rfl, rfl, rfl⟩, .inl rfl, ?_⟩
    refine vo_stN ?_
    refine vo_move_ptr rfl rfl ?_
    refine vo_move_ref rfl rfl ?_
    refine vo_len_ref rfl rfl rfl Try.underlying23 ?_
    refine vo_call [0] Try.func54 rfl rfl rfl rfl rfl rfl rfl (pick_sat hc (by omega)) ?_
    rintro _ _ ⟨x2, ⟨hx3, hx4⟩, rfl, rfl⟩
    refine ⟨Nat.le_of_ble_eq_true rfl, ⟨rfl, rfl, rfl, rfl⟩, .inl rfl, ?_⟩
    refine vo_stN ?_
    refine vo_buildSlice E24 rfl rfl rfl rfl rfl ?_
    refine vo_expose 6 (by omega) rfl ?_
    refine vo_weaken 45 rfl ?_
    refine vo_stN ?_
    refine vo_call [0] Try.func53 rfl rfl rfl rfl rfl rfl rfl (one_sat (list := [_,_,_]) hc (by omega) (by simp) (by simp)) ?_
    rintro _ _ ⟨x, hx, rfl, rfl⟩
    refine ⟨Nat.le_of_ble_eq_true rfl, ⟨rfl, rfl, rfl, rfl⟩, .inl rfl, ?_⟩
    refine vo_stN ?_
    refine vo_assign_pv rfl rfl ?_
    refine vo_nil ?_
    refine hK14 _ ?_
    refine vc_seq fun K15 hK15 => ?_
    refine vc_region ?_
    refine vo_move_ref rfl rfl ?_
    refine vo_move_pv rfl rfl ?_
    refine vo_call0 Try.func91 rfl rfl rfl rfl (placeIn_sat (by omega)) ?_
    rintro _ _ ⟨rfl, rfl⟩
    refine ⟨rfl, rfl, .inr rfl, ?_⟩
    refine vo_binI rfl rfl rfl rfl trivial ?_
    refine vo_nil ?_
    refine hK15 _ ?_
    refine vc_cond rfl (fun hc4 => ?_) (fun hc4 => ?_)
    ·try simp only [zq0, zq1, zq2, zq3, zq4, zq5, zq6, zq7, zq8, zq9, zqa, zqb, zqc, zqd, zqe, zqf] at hc4
     refine vc_region ?_
     refine vo_move_ref rfl rfl ?_
     refine vo_move_pv rfl rfl ?_
     refine vo_buildSlice E24 rfl rfl rfl rfl rfl ?_
     refine vo_append E24 rfl (by omega) rfl rfl rfl sd sd ?_
     refine vo_stN ?_
     try simp only [app_ints, app_intss, app_bools]
     refine vo_assign_ref rfl rfl ?_
     refine vo_nil ?_
     refine hK13 _ ?_
     refine vc_region ?_
     refine vo_move_pv rfl rfl ?_
     refine vo_binI rfl rfl rfl rfl sd ?_
     refine vo_assign_pv rfl rfl ?_
     refine vo_nil ?_
     change again _ _ _ _ _ _
     refine again_mk rfl rfl rfl rfl ⟨_, ?_, q + 1 + 1 + 1, k - 1, l ++ [x], rfl, ?_, ?_, ?_, ?_, ?_, rfl, rfl⟩
     ·omega
     ·refine ⟨by omega, ?_⟩; rw [List.length_append, List.length_singleton]; omega
     ·omega
     ·exact nodup_snoc hl ((findM_not _ _ 0 (by omega)).1 (by assumption))
     ·intro z hz; rcases List.mem_append.1 hz with hz | hz
      ·exact hl2 z hz
      ·rw [List.mem_singleton.1 hz]; simp only [List.mem_cons, List.not_mem_nil, or_false] at hx; rcases hx with rfl | rfl | rfl <;> omega
     ·exact .inl (by simp)
    ·try simp only [zq0, zq1, zq2, zq3, zq4, zq5, zq6, zq7, zq8, zq9, zqa, zqb, zqc, zqd, zqe, zqf] at hc4
     refine vc_skip ?_
     refine hK13 _ ?_
     refine vc_region ?_
     refine vo_move_pv rfl rfl ?_
     refine vo_binI rfl rfl rfl rfl sd ?_
     refine vo_assign_pv rfl rfl ?_
     refine vo_nil ?_
     change again _ _ _ _ _ _
     refine again_mk rfl rfl rfl rfl ⟨_, ?_, q + 1 + 1 + 1, k - 1, l, rfl, ?_, ?_, ?_, ?_, ?_, rfl, rfl⟩
     ·omega
     ·omega
     ·omega
     ·exact hl
     ·exact hl2
     ·exact .inl (fun e => by subst e; simp [findM] at *)
   ·try simp only [zq0, zq1, zq2, zq3, zq4, zq5, zq6, zq7, zq8, zq9, zqa, zqb, zqc, zqd, zqe, zqf] at hc3
    refine vc_exit ?_
    refine hK9 _ ?_
    refine vc_region ?_
    refine vo_move_ref rfl rfl ?_
    refine vo_move_ref rfl rfl ?_
    refine vo_expose 4 (by omega) rfl ?_
    refine vo_weaken 56 rfl ?_
    refine vo_stN ?_
    refine vo_buildSlice E23 rfl rfl rfl rfl rfl ?_
    refine vo_append E23 rfl (by omega) rfl rfl rfl sd sd ?_
    refine vo_stN ?_
    try simp only [app_ints, app_intss, app_bools]
    refine vo_assign_ref rfl rfl ?_
    refine vo_nil ?_
    refine hK7 _ ?_
    refine vc_region ?_
    refine vo_move_pv rfl rfl ?_
    refine vo_binI rfl rfl rfl rfl sd ?_
    refine vo_assign_pv rfl rfl ?_
    refine vo_nil ?_
    change again _ _ _ _ _ _
    refine again_mk rfl rfl rfl rfl ⟨_, ?_, B ++ [l], q, n - 1, rfl, ?_, ?_, ?_, ?_, rfl, rfl⟩
    ·omega
    ·refine ⟨by omega, ?_⟩; rw [List.length_append, List.length_singleton]; omega
    ·omega
    ·exact hB.snoc (by rcases hl3 with h | h; exact h; omega) (by omega) hl hl2
    ·left; rw [List.length_append, List.length_singleton]; omega
  ·try simp only [zq0, zq1, zq2, zq3, zq4, zq5, zq6, zq7, zq8, zq9, zqa, zqb, zqc, zqd, zqe, zqf] at hc2
   refine vc_exit ?_
   refine hK3 _ ?_
   refine vc_seq fun K16 hK16 => ?_
   refine vc_region ?_
   refine vo_move_ref rfl rfl ?_
   refine vo_assign_ref rfl rfl ?_
   refine vo_nil ?_
   refine hK16 _ ?_
   refine vc_ret ?_
   change retG _ _ _ _ _
   refine retG_one 2 hC rfl rfl rfl rfl rfl ?_
   exact ⟨_, _, ⟨hB, by omega, hm, by omega⟩, rfl, rfl⟩
 ·try simp only [zq0, zq1, zq2, zq3, zq4, zq5, zq6, zq7, zq8, zq9, zqa, zqb, zqc, zqd, zqe, zqf] at hg1
  refine vo_guard_off rfl rfl rfl rfl rfl ?_
  refine vo_guard_off rfl rfl rfl rfl rfl ?_
  refine vo_guard_off rfl rfl rfl rfl rfl ?_
  refine vo_guard_off rfl rfl rfl rfl rfl ?_
  refine vo_pick_f rfl rfl ?_
  refine vo_nil ?_
  refine hK6 _ ?_
  refine vc_cond_f rfl ?_
  refine vc_exit ?_
  refine hK3 _ ?_
  refine vc_seq fun K17 hK17 => ?_
  refine vc_region ?_
  refine vo_move_ref rfl rfl ?_
  refine vo_assign_ref rfl rfl ?_
  refine vo_nil ?_
  refine hK17 _ ?_
  refine vc_ret ?_
  change retG _ _ _ _ _
  refine retG_one 2 hC rfl rfl rfl rfl rfl ?_
  exact ⟨_, _, ⟨hB, by omega, hm, by omega⟩, rfl, rfl⟩

end Go.Vl

namespace Go.Vl
set_option linter.unusedVariables false
set_option linter.unusedSimpArgs false
open Go.Proofs

theorem rows2_eq {r : Row} {el : TypeId} {e : Nat} {nl : Option Bool} {f : Bool} {xs ys : List PV} (h : xs = ys) : [r, Row.own el e nl f xs] = [r, Row.own el e nl f ys] := by rw [h]
theorem anyBases_sat {nl : Option Bool} {c : List (Fin 256)} {p : Nat} {most : Int} (hc : c.length ≤ 2000) (hp : p < 999800) : SatAt Try.prog 52 [.ptr 0 0 0 0, i64 most] [rdr nl c p] (fun res rows => ∃ (B : List (List Int)) (q : Nat) (f : Bool), (1 ≤ B.length ∧ B.length ≤ 10 ∧ (∀ l ∈ B, l.length ≤ 3) ∧ q ≤ p + 100) ∧ res = [.ref 1] ∧ rows = [rdr nl c q, Row.own 24 1 (some false) f (B.map ints)]) := by
 refine sat_entry_g (ts := [4]) Try.func52 rfl rfl (by decide) (Nat.le_of_ble_eq_true rfl) fun C hC => ?_
 rw [Try.ntmps52]
 replace hC : C.nb = 1 := hC
 refine vc_seq fun K1 hK1 => ?_
 refine vc_region ?_
 refine vo_assign_pv rfl rfl ?_
 refine vo_nil ?_
 refine hK1 _ ?_
 refine vc_seq fun K2 hK2 => ?_
 refine vc_region ?_
 refine vo_move_ptr rfl rfl ?_
 refine vo_move_pv rfl rfl ?_
 refine vo_call [0] Try.func65 rfl rfl rfl rfl rfl rfl rfl (someBases_sat hc (by omega)) ?_
 rintro _ _ ⟨B, q, ⟨hB, hB2, hB3, hB4⟩, rfl, rfl⟩
 refine ⟨Nat.le_of_ble_eq_true rfl, ⟨rfl, rfl, rfl, rfl⟩, .inl rfl, ?_⟩
 refine vo_stN ?_
 refine vo_assign_ref rfl rfl ?_
 refine vo_nil ?_
 refine hK2 _ ?_
 refine vc_seq fun K3 hK3 => ?_
 refine vc_seq fun K4 hK4 => ?_
 refine vc_region ?_
 refine vo_move_ptr rfl rfl ?_
 refine vo_call [0] Try.func54 rfl rfl rfl rfl rfl rfl rfl (pick_sat hc (by omega)) ?_
 rintro _ _ ⟨x, ⟨hx0, hx1⟩, rfl, rfl⟩
 refine ⟨Nat.le_of_ble_eq_true rfl, ⟨rfl, rfl, rfl, rfl⟩, .inl rfl, ?_⟩
 refine vo_stN ?_
 refine vo_nil ?_
 refine hK4 _ ?_
 refine vc_block ?_
 refine vc_seq fun K5 hK5 => ?_
 refine vc_region ?_
 refine vo_binI rfl rfl rfl rfl trivial ?_
 refine vo_assign_pv rfl rfl ?_
 refine vo_nil ?_
 refine hK5 _ ?_
 refine vc_cond rfl (fun hc1 => ?_) (fun hc1 => ?_)
 ·try simp only [zq0, zq1, zq2, zq3, zq4, zq5, zq6, zq7, zq8, zq9, zqa, zqb, zqc, zqd, zqe, zqf] at hc1
  have hB1 := hB.1
  have hL : (B.map ints).length = B.length := by simp
  refine vc_region ?_
  refine vo_move_ref rfl rfl ?_
  refine vo_buildSlice E24 rfl rfl rfl rfl rfl ?_
  refine vo_index_ref rfl rfl rfl rfl E23.und inf24 sz24 sd sd ?_
  try simp only [Int.toNat_natCast]
  refine vo_expose 2 (by omega) rfl ?_
  refine vo_weaken 14 rfl ?_
  refine vo_stN ?_
  refine vo_store_own rfl rfl rfl inf24 sz24 (by decide) rfl sd ?_
  try simp only [set_ints, set_intss, set_bools, rep_bools, rep_ints, Int.toNat_natCast, Int.toNat_zero]
  refine vo_nil ?_
  refine hK3 _ ?_
  refine vc_seq fun K6 hK6 => ?_
  refine vc_region ?_
  refine vo_move_ref rfl rfl ?_
  refine vo_assign_ref rfl rfl ?_
  refine vo_nil ?_
  refine hK6 _ ?_
  refine vc_ret ?_
  change retG _ _ _ _ _
  refine retG_one 1 hC rfl rfl rfl rfl rfl ?_
  exact ⟨B.set 0 [0], q+1, _, ⟨by rw [List.length_set]; omega, by rw [List.length_set]; omega, set_lens hB.lens (by decide), by omega⟩, rfl, rows2_eq (set_intss B 0 [0])⟩
 ·try simp only [zq0, zq1, zq2, zq3, zq4, zq5, zq6, zq7, zq8, zq9, zqa, zqb, zqc, zqd, zqe, zqf] at hc1
  have hB1 := hB.1
  refine vc_seq fun K7 hK7 => ?_
  refine vc_region ?_
  refine vo_binI rfl rfl rfl rfl trivial ?_
  refine vo_assign_pv rfl rfl ?_
  refine vo_nil ?_
  refine hK7 _ ?_
  refine vc_cond rfl (fun hc2 => ?_) (fun hc2 => ?_)
  ·try simp only [zq0, zq1, zq2, zq3, zq4, zq5, zq6, zq7, zq8, zq9, zqa, zqb, zqc, zqd, zqe, zqf] at hc2
   refine vc_region ?_
   refine vo_move_ref rfl rfl ?_
   refine vo_move_ref rfl rfl ?_
   refine vo_len_ref rfl rfl rfl Try.underlying23 ?_
   refine vo_buildSlice E24 rfl rfl rfl rfl rfl ?_
   refine vo_expose 2 (by omega) rfl ?_
   refine vo_weaken 21 rfl ?_
   refine vo_stN ?_
   refine vo_buildSlice E23 rfl rfl rfl rfl rfl ?_
   refine vo_append E23 rfl (by omega) rfl rfl rfl sd sd ?_
   refine vo_stN ?_
   try simp only [app_ints, app_intss, app_bools]
   refine vo_assign_ref rfl rfl ?_
   refine vo_nil ?_
   refine hK3 _ ?_
   refine vc_seq fun K8 hK8 => ?_
   refine vc_region ?_
   refine vo_move_ref rfl rfl ?_
   refine vo_assign_ref rfl rfl ?_
   refine vo_nil ?_
   refine hK8 _ ?_
   refine vc_ret ?_
   change retG _ _ _ _ _
   refine retG_one 1 hC rfl rfl rfl rfl rfl ?_
   refine ⟨B ++ [[((B.map ints).length : Int)]], q+1, _, ⟨by rw [List.length_append, List.length_singleton]; omega, by rw [List.length_append, List.length_singleton]; omega, app_lens hB.lens (by simp), by omega⟩, rfl, rows2_eq (app_intss B [((B.map ints).length : Int)])⟩
  ·try simp only [zq0, zq1, zq2, zq3, zq4, zq5, zq6, zq7, zq8, zq9, zqa, zqb, zqc, zqd, zqe, zqf] at hc2
   refine vc_seq fun K9 hK9 => ?_
   refine vc_region ?_
   refine vo_binI rfl rfl rfl rfl trivial ?_
   refine vo_assign_pv rfl rfl ?_
   refine vo_nil ?_
   refine hK9 _ ?_
   refine vc_cond rfl (fun hc3 => ?_) (fun hc3 => ?_)
   ·try simp only [zq0, zq1, zq2, zq3, zq4, zq5, zq6, zq7, zq8, zq9, zqa, zqb, zqc, zqd, zqe, zqf] at hc3
    refine vc_region ?_
    refine vo_move_ref rfl rfl ?_
    refine vo_move_ptr rfl rfl ?_
    refine vo_buildSlice E24 rfl rfl rfl rfl rfl ?_
    refine vo_buildSlice E24 rfl rfl rfl rfl rfl ?_
    refine vo_buildSlice E24 rfl rfl rfl rfl rfl ?_
    refine vo_expose 2 (by omega) rfl ?_
    refine vo_weaken 28 rfl ?_
    refine vo_stN ?_
    refine vo_expose 3 (by omega) rfl ?_
    refine vo_weaken 29 rfl ?_
    refine vo_stN ?_
    refine vo_expose 4 (by omega) rfl ?_
    refine vo_weaken 30 rfl ?_
    refine vo_stN ?_
    refine vo_buildSlice E23 rfl rfl rfl rfl rfl ?_
    refine vo_expose 5 (by omega) rfl ?_
    refine vo_weaken 31 rfl ?_
    refine vo_stN ?_
    refine vo_call [0] Try.func86 rfl rfl rfl rfl rfl rfl rfl (one2_sat (list := [[],[0,0],[-1]]) hc (by omega) (by simp) (by simp)) ?_
    rintro _ _ ⟨y, hy, rfl, rfl⟩
    refine ⟨Nat.le_of_ble_eq_true rfl, ⟨rfl, rfl, rfl, rfl⟩, .inl rfl, ?_⟩
    refine vo_stN ?_
    refine vo_weaken 32 rfl ?_
    refine vo_buildSlice E23 rfl rfl rfl rfl rfl ?_
    refine vo_append E23 rfl (by omega) rfl rfl rfl sd sd ?_
    refine vo_stN ?_
    try simp only [app_ints, app_intss, app_bools]
    refine vo_assign_ref rfl rfl ?_
    refine vo_nil ?_
    refine hK3 _ ?_
    refine vc_seq fun K10 hK10 => ?_
    refine vc_region ?_
    refine vo_move_ref rfl rfl ?_
    refine vo_assign_ref rfl rfl ?_
    refine vo_nil ?_
    refine hK10 _ ?_
    refine vc_ret ?_
    change retG _ _ _ _ _
    refine retG_one 1 hC rfl rfl rfl rfl rfl ?_
    refine ⟨B ++ [y], q+1+1, _, ⟨by rw [List.length_append, List.length_singleton]; omega, by rw [List.length_append, List.length_singleton]; omega, app_lens hB.lens (by simp at hy; rcases hy with rfl | rfl | rfl <;> simp), by omega⟩, rfl, rfl⟩
   ·try simp only [zq0, zq1, zq2, zq3, zq4, zq5, zq6, zq7, zq8, zq9, zqa, zqb, zqc, zqd, zqe, zqf] at hc3
    refine vc_skip ?_
    refine hK3 _ ?_
    refine vc_seq fun K11 hK11 => ?_
    refine vc_region ?_
    refine vo_move_ref rfl rfl ?_
    refine vo_assign_ref rfl rfl ?_
    refine vo_nil ?_
    refine hK11 _ ?_
    refine vc_ret ?_
    change retG _ _ _ _ _
    refine retG_one 1 hC rfl rfl rfl rfl rfl ?_
    refine ⟨B, q+1, _, ⟨by omega, by omega, hB.lens, by omega⟩, rfl, rfl⟩


end Go.Vl

namespace Go.Vl
set_option linter.unusedVariables false
set_option linter.unusedSimpArgs false
open Go.Proofs

theorem isIn_sat {nl0 : Option Bool} {list : List Int} {n : Int} (hlist : list.length < 1000000000)  : SatAt Try.prog 18 [.pv false (.sl nl0 1 (list.map intP)), i64 n] [] (fun res rows => res = [bo (decide (n ∈ list))] ∧ rows = []) := by
 refine sat_entry (ts := [4]) Try.func18 rfl rfl (by decide) (Nat.le_of_ble_eq_true rfl) fun C hC => ?_
 rw [Try.ntmps18]
 replace hC : C.nb = 0 := hC
 refine vc_seq fun K1 hK1 => ?_
 refine vc_region ?_
 refine vo_assign_pv rfl rfl ?_
 refine vo_nil ?_
 refine hK1 _ ?_
 refine vc_seq fun K2 hK2 => ?_
 refine vc_seq fun K3 hK3 => ?_
 refine vc_region ?_
 refine vo_assign_pv rfl rfl ?_
 refine vo_nil ?_
 refine hK3 _ ?_
 refine vc_block ?_
 refine vc_stN ?_
 refine vc_loopF [0, 1] [5] [.pv false (.sl nl0 1 (list.map intP)), i64 n] _ (fun mz vs => ∃ (k : Nat), mz = list.length - k ∧ (k ≤ list.length) ∧ (n ∉ list.take k) ∧ vs = [i64 k]) (list.length) rfl rfl (le_len hC rfl) ⟨rfl, rfl, rfl⟩ ⟨0, rfl, Nat.zero_le _, (by simp), rfl⟩ ?_
 rintro mz vs - ⟨k, rfl, hk, hf, rfl⟩
 refine vc_stN ?_
 refine vc_seq fun K4 hK4 => ?_
 refine vc_seq fun K5 hK5 => ?_
 refine vc_region ?_
 refine vo_move_pv rfl rfl ?_
 refine vo_move_pv rfl rfl ?_
 refine vo_len_pv rfl rfl Try.underlying24 ?_
 refine vo_binI rfl rfl rfl rfl trivial ?_
 refine vo_nil ?_
 refine hK5 _ ?_
 refine vc_cond rfl (fun hc1 => ?_) (fun hc1 => ?_)
 ·try simp only [zq0, zq1, zq2, zq3, zq4, zq5, zq6, zq7, zq8, zq9, zqa, zqb, zqc, zqd, zqe, zqf] at hc1
  refine vc_skip ?_
  refine hK4 _ ?_
  refine vc_seq fun K6 hK6 => ?_
  refine vc_block ?_
  refine vc_seq fun K7 hK7 => ?_
  refine vc_region ?_
  refine vo_move_pv rfl rfl ?_
  refine vo_move_pv rfl rfl ?_
  refine vo_index_pv (.int .i64 0) rfl rfl rfl E24.und inf3 sz3 sd sd ?_
  simp only [Int.toNat_natCast, Int.toNat_zero, getD_ints, getD_intss, getD_bools, getD_bytes, PV.cells]
  refine vo_load_adr rfl rfl Try.underlying3 rfl ?_
  refine vo_move_pv rfl rfl ?_
  refine vo_binI rfl rfl rfl rfl trivial ?_
  refine vo_nil ?_
  refine hK7 _ ?_
  refine vc_cond rfl (fun hc2 => ?_) (fun hc2 => ?_)
  ·try simp only [zq0, zq1, zq2, zq3, zq4, zq5, zq6, zq7, zq8, zq9, zqa, zqb, zqc, zqd, zqe, zqf] at hc2
   refine vc_seq fun K8 hK8 => ?_
   refine vc_region ?_
   refine vo_assign_pv rfl rfl ?_
   refine vo_nil ?_
   refine hK8 _ ?_
   refine vc_ret ?_
   change retPv _ _ _ _ _
   refine retPv_mk rfl rfl rfl ⟨?_, rfl⟩
   refine (congrArg (fun b => [bo b]) (?_ : _ = _) : [bo _] = [bo _])
   exact bT (by have := getD_mem (show k < list.length by omega) 0; simp_all)
  ·try simp only [zq0, zq1, zq2, zq3, zq4, zq5, zq6, zq7, zq8, zq9, zqa, zqb, zqc, zqd, zqe, zqf] at hc2
   refine vc_skip ?_
   refine hK6 _ ?_
   refine vc_region ?_
   refine vo_move_pv rfl rfl ?_
   refine vo_binI rfl rfl rfl rfl sd ?_
   refine vo_assign_pv rfl rfl ?_
   refine vo_nil ?_
   change againF _ _ _ _ _ _ _ _ _
   refine againF_mk rfl rfl rfl rfl rfl rfl ⟨_, ?_, k + 1, rfl, ?_, ?_, rfl⟩
   ·omega
   ·omega
   ·rw [List.take_succ_eq_append_getElem (by omega), List.mem_append]; rintro (h | h)
    ·exact hf h
    ·rw [List.mem_singleton, ← getD_at (by omega) 0] at h; omega
 ·try simp only [zq0, zq1, zq2, zq3, zq4, zq5, zq6, zq7, zq8, zq9, zqa, zqb, zqc, zqd, zqe, zqf] at hc1
  refine vc_exit ?_
  refine hK2 _ ?_
  refine vc_seq fun K9 hK9 => ?_
  refine vc_region ?_
  refine vo_assign_pv rfl rfl ?_
  refine vo_nil ?_
  refine hK9 _ ?_
  refine vc_ret ?_
  change retPv _ _ _ _ _
  refine retPv_mk rfl rfl rfl ⟨?_, rfl⟩
  refine (congrArg (fun b => [bo b]) (?_ : _ = _) : [bo _] = [bo _])
  rw [take_all (by omega)] at hf; exact bF hf


end Go.Vl

/- Operations that read no memory come at any time, behind those that write too. -/
namespace Go.Vl
set_option linter.unusedVariables false
set_option linter.unusedSimpArgs false
open Go.RowKit
section
variable {P : Program} {C : Ctx} {s : St} {t : Nat} {ty : TypeId} {pos : String} {af : Array Edge}

end
end Go.Vl

namespace Go.Vl
set_option linter.unusedVariables false
set_option linter.unusedSimpArgs false
open Go.Proofs

def SV.nilE (e : Nat) : SV → SV
  | .pv f (.sl (some true) 0 []) => .pv f (.sl (some true) e [])
  | s => s

theorem SatAt.nilE (e : Nat) {P : Program} {f : FuncId} {args : List SV} {rows : List Row} {R : List SV → List Row → Prop} (h : SatAt P f (args.map (SV.nilE e)) rows R) : SatAt P f args rows R := by
  intro C m vals h1 h2 h3 h4
  refine h C m vals h1 h2 (by simpa using h3) { h4 with env := fun t => ?_ }
  have hv := h4.env t
  show RS _ _ _ _ (look (enumE 0 (args.map (SV.nilE e))) t) _
  rw [look_enumE] at hv ⊢
  simp only [List.getElem?_map]
  split at hv
  · rename_i h0
    rw [if_pos h0]
    cases ha : args[t - 0]? with
    | none => rw [ha] at hv; exact hv
    | some x =>
      rw [ha] at hv
      simp only [Option.getD_some, Option.map_some] at hv ⊢
      unfold SV.nilE
      split
      · generalize (#[] : Array Value) = z at *
        generalize vals.getD t undef = u at *
        cases hv with
        | pv _ _ _ hp =>
          cases hp with
          | nilsl _ _ hn => exact .pv _ _ _ (.nilsl _ _ hn)
          | sl nl e xs a len cap f hn => exact absurd rfl hn
      · exact hv
  · rename_i h0; rw [if_neg h0]; exact .any _

theorem app_pairs1 (l : List (Int × Int)) (a b : Int) : l.map pairP ++ [.agg [.int .i64 a, .int .i64 b]] = (l ++ [(a, b)]).map pairP := by simp

theorem onceF_pre : ∀ (l acc : List Int), ∃ t, onceF acc l = acc ++ t
  | [], acc => ⟨[], by simp [onceF]⟩
  | x :: l, acc => by
    simp only [onceF]
    split
    · exact onceF_pre l acc
    · obtain ⟨t, ht⟩ := onceF_pre l (acc ++ [x])
      exact ⟨x :: t, by rw [ht]; simp⟩
theorem onceF_memS (y : Int) : ∀ (l acc : List Int), y ∈ onceF acc l ↔ y ∈ acc ∨ y ∈ l
  | [], acc => by simp [onceF]
  | x :: l, acc => by
    simp only [onceF]
    split
    · rename_i hx
      rw [onceF_memS y l acc, List.mem_cons]
      exact ⟨fun h => h.elim .inl fun h => .inr (.inr h), fun h => h.elim .inl fun h => h.elim (fun e => .inl (e ▸ hx)) .inr⟩
    · rw [onceF_memS y l, List.mem_append, List.mem_singleton, List.mem_cons, or_assoc]
theorem grow_sound {next : Int → List Int} {S : Int → Prop} (hS : ∀ x, S x → ∀ y ∈ next x, S y) : ∀ (f : Nat) (met : List Int) (i : Nat), (∀ x ∈ met, S x) → ∀ x ∈ growM next f met i, S x
  | 0, _, _, h => h
  | f + 1, met, i, h => by
    unfold growM
    split
    · rename_i hi
      refine grow_sound hS f _ _ fun x hx => ?_
      rcases (onceF_memS x _ _).1 hx with h1 | h1
      · exact h x h1
      · exact hS _ (h _ (getD_mem hi 0)) x h1
    · exact h
theorem grow_complete {next : Int → List Int} : ∀ (f : Nat) (met : List Int) (i : Nat), (∀ j, j < i → j < met.length → ∀ y ∈ next (met.getD j 0), y ∈ met) → (growM next f met i).length ≤ f + i → ∀ x ∈ growM next f met i, ∀ y ∈ next x, y ∈ growM next f met i
  | 0, met, i, h, hl => by
    intro x hx y hy
    have hx : x ∈ met := hx
    have hl : met.length ≤ 0 + i := hl
    obtain ⟨j, hj, rfl⟩ := List.getElem_of_mem hx
    exact h j (by omega) hj y (by rw [List.getD, List.getElem?_eq_getElem hj]; exact hy)
  | f + 1, met, i, h, hl => by
    unfold growM at hl ⊢
    split at hl
    · rename_i hi
      rw [if_pos hi]
      refine grow_complete f _ _ (fun j hj hjl y hy => ?_) (by omega)
      obtain ⟨t, ht⟩ := onceF_pre (next (met.getD i 0)) met
      have hjm : j < met.length := by omega
      have e : (grow1 next met i).getD j 0 = met.getD j 0 := by
        unfold grow1; rw [ht]; simp only [List.getD]; rw [List.getElem?_append_left hjm]
      rw [e] at hy
      refine (onceF_memS y _ _).2 ?_
      rcases Nat.lt_or_ge j i with h1 | h1
      · exact .inl (h j h1 hjm y hy)
      · rw [show j = i by omega] at hy; exact .inr hy
    · rename_i hi
      rw [if_neg hi]
      intro x hx y hy
      obtain ⟨j, hj, rfl⟩ := List.getElem_of_mem hx
      exact h j (by omega) hj y (by rw [List.getD, List.getElem?_eq_getElem hj]; exact hy)
theorem metU_closed {b : List (List Int)} {r : List (Int × Int)} {c : Int} (hV : VRegs b r) (h0 : 0 ≤ c) (h1 : c < b.length) : ∀ x ∈ metU b r c, ∀ y ∈ upM b r x, y ∈ metU b r c :=
  grow_complete 13 [c] 0 (fun j hj => by omega) (by have := (metU_ok hV 13 0 [c] (met_one h0 h1)).len; have := hV.1.2.1; omega)
theorem metU_self {b : List (List Int)} {r : List (Int × Int)} {c : Int} : c ∈ metU b r c := by
  obtain ⟨t, ht⟩ : ∃ t, growM (upM b r) 13 [c] 0 = c :: t := by
    have key : ∀ (f : Nat) (met : List Int) (i : Nat), (∃ t, met = c :: t) → ∃ t, growM (upM b r) f met i = c :: t := by
      intro f
      induction f with
      | zero => exact fun met i h => h
      | succ f ih =>
        rintro met i ⟨t, rfl⟩
        unfold growM
        split
        · obtain ⟨u, hu⟩ := onceF_pre (upM b r ((c :: t).getD i 0)) (c :: t)
          exact ih _ _ ⟨t ++ u, by unfold grow1; rw [hu]; rfl⟩
        · exact ⟨t, rfl⟩
    exact key 13 [c] 0 ⟨[], rfl⟩
  unfold metU; rw [ht]; simp
theorem met_sub {b : List (List Int)} {r s : List (Int × Int)} {c x : Int} (hV : VRegs b r) (h0 : 0 ≤ c) (h1 : c < b.length) (hs : ∀ p ∈ s, p ∈ r) (hx : x ∈ metU b r c) : ∀ z ∈ metU b s x, z ∈ metU b r c := by
  refine grow_sound (S := fun z => z ∈ metU b r c) (fun z hz y hy => metU_closed hV h0 h1 z hz y ?_) 13 [x] 0 (fun z hz => by rw [List.mem_singleton.1 hz]; exact hx)
  unfold upM at hy ⊢
  rcases List.mem_append.1 hy with h | h
  · exact List.mem_append_left _ h
  · refine List.mem_append_right _ ?_
    obtain ⟨p, hp, e⟩ := List.mem_map.1 h
    obtain ⟨hp1, hp2⟩ := List.mem_filter.1 hp
    exact List.mem_map.2 ⟨p, List.mem_filter.2 ⟨hs p hp1, hp2⟩, e⟩
theorem supM_mem {b : List (List Int)} {r : List (Int × Int)} {c : Int} (hV : VRegs b r) (h0 : 0 ≤ c) (h1 : c < b.length) (x : Int) : x ∈ supM b r c ↔ x ∈ metU b r c := by
  rw [supM_yes hV h0 h1, selI_mem, decide_eq_true_iff]
  have := (metU_ok hV 13 0 [c] (met_one h0 h1)).2 x
  exact ⟨fun h => h.1, fun h => ⟨h, this h⟩⟩
theorem sup_self {b : List (List Int)} {r : List (Int × Int)} {c : Int} (hV : VRegs b r) (h0 : 0 ≤ c) (h1 : c < b.length) : c ∈ supM b r c := (supM_mem hV h0 h1 c).2 metU_self
theorem sup_asc {b : List (List Int)} {r : List (Int × Int)} {c : Int} : (supM b r c).Pairwise (· < ·) := by
  by_cases h : hasRC b r [c]
  · have hc := h.2 c (by simp)
    rw [supM_yes h.1 hc.1 (by omega)]; exact selI_asc _ _
  · unfold supM; rw [if_neg h]; exact .nil
theorem VRegs.none {b : List (List Int)} {r : List (Int × Int)} (h : VRegs b r) : VRegs b [] := ⟨h.1, by simp, fun p hp => by cases hp⟩
/-- Without registrations: what is above. -/
theorem sup_above {b : List (List Int)} {r : List (Int × Int)} {c : Int} (hR : VRegs b r) (h0 : 0 ≤ c) (h1 : c < b.length) : supM b [] c = abvR b c := by
  have hV := hR.none
  obtain ⟨n, rfl⟩ := Int.eq_ofNat_of_zero_le h0
  have hn : n < b.length := by omega
  rw [abvR_of hR.1 hn]
  refine asc_ext sup_asc (abvL_asc b n) fun x => ?_
  rw [supM_mem hV h0 h1]
  have up : ∀ y, upM b [] y = b.getD y.toNat [] := fun y => upM_nil b y
  constructor
  · refine grow_sound (S := fun x => x ∈ abvL b n) (fun x hx y hy => ?_) 13 [(n : Int)] 0 (fun x hx => by rw [List.mem_singleton.1 hx]; exact abvL_refl hR.1 hn) x
    obtain ⟨i, rfl, hi⟩ := (mem_abvL hR.1.bd' hn x).1 hx
    rw [up] at hy
    have hb := hR.1.bd' i y hy
    obtain ⟨d, rfl⟩ := Int.eq_ofNat_of_zero_le hb.1
    exact (mem_abvL hR.1.bd' hn _).2 ⟨d, rfl, hi.trans (.step hy (.refl d))⟩
  · intro hx
    obtain ⟨i, rfl, hi⟩ := (mem_abvL hR.1.bd' hn x).1 hx
    have key : ∀ {d x : Nat}, Abv b d x → (d : Int) ∈ metU b [] n → (x : Int) ∈ metU b [] n := by
      intro d x h
      induction h with
      | refl c => exact id
      | step h _ ih => exact fun hd => ih (metU_closed hV h0 h1 _ hd _ (by rw [up]; exact h))
    exact key hi metU_self
theorem someRegs_sat {nl : Option Bool} {c : List (Fin 256)} {p : Nat} {m : Int} (hc : c.length ≤ 2000) (hp : p < 989000) : SatAt Try.prog 69 [.ptr 0 0 0 0, i64 m] [rdr nl c p] (fun res rows => ∃ (l : List (Int × Int)) (q : Nat), (l.length ≤ 4 ∧ q ≤ p + 20) ∧ res = [.ref 1] ∧ rows = [rdr nl c q, Row.own 85 2 (some false) true ((l).map pairP)]) := by
 refine sat_entry_G (rs := [(4, none)]) Try.func69 rfl rfl (Nat.le_of_ble_eq_true rfl) (Nat.le_of_ble_eq_true rfl) (resTs1 trivial) fun C hC => ?_
 rw [Try.ntmps69]
 replace hC : C.nb = 1 := hC
 refine vc_seq fun K1 hK1 => ?_
 refine vc_region ?_
 refine vo_assign_pv rfl rfl ?_
 refine vo_nil ?_
 refine hK1 _ ?_
 refine vc_seq fun K2 hK2 => ?_
 refine vc_region ?_
 refine vo_buildSlice E43 rfl rfl rfl rfl rfl ?_
 refine vo_stM ?_
 refine vo_assign_ref rfl rfl ?_
 refine vo_nil ?_
 refine hK2 _ ?_
 refine vc_seq fun K3 hK3 => ?_
 refine vc_seq fun K4 hK4 => ?_
 refine vc_region ?_
 refine vo_move_ptr rfl rfl ?_
 refine vo_buildSlice E24 rfl rfl rfl rfl rfl ?_
 refine vo_stM ?_
 refine vo_expose 2 (by omega) rfl ?_
 refine vo_stM ?_
 refine vo_weaken 9 rfl ?_
 refine vo_stM ?_
 refine vo_call [0] Try.func53 rfl rfl rfl rfl rfl rfl rfl (one_sat (list := [_,_,_,_,_]) hc (by omega) (by simp) (by simp)) ?_
 rintro _ _ ⟨y10, hy10, rfl, rfl⟩
 refine ⟨Nat.le_of_ble_eq_true rfl, ⟨rfl, rfl, rfl, rfl⟩, .inl rfl, ?_⟩
 refine vo_stM ?_
 refine vo_assign_pv rfl rfl ?_
 refine vo_nil ?_
 refine hK4 _ ?_
 refine vc_block ?_
 refine vc_stM ?_
 refine vc_loopE [0, 1] [5, 6] [0, 1] _ _ (fun mz vs rs => ∃ (l : List (Int × Int)) (q : Nat) (n : Int), mz = n.toNat ∧ ((0 ≤ n ∧ l.length + n ≤ 4)) ∧ ((q + 2 * n ≤ p + 9)) ∧ vs = [.ref 1, i64 n] ∧ rs = [rdr nl c q, Row.own 85 2 (some false) true ((l).map pairP)]) (y10.toNat) rfl rfl (le_len hC rfl) ⟨rfl, rfl, rfl⟩ rfl ⟨[], p+1, y10, rfl, (by simp at hy10; simp; omega), (by simp at hy10; omega), rfl, rfl⟩ ?_
 rintro mz vs rs - - ⟨l, q, n, rfl, hn, hq, rfl, rfl⟩
 refine vc_stM ?_
 refine vc_seq fun K5 hK5 => ?_
 refine vc_seq fun K6 hK6 => ?_
 refine vc_region ?_
 refine vo_move_pv rfl rfl ?_
 refine vo_binI rfl rfl rfl rfl trivial ?_
 refine vo_nil ?_
 refine hK6 _ ?_
 refine vc_cond rfl (fun hc1 => ?_) (fun hc1 => ?_)
 ·try simp only [zq0, zq1, zq2, zq3, zq4, zq5, zq6, zq7, zq8, zq9, zqa, zqb, zqc, zqd, zqe, zqf] at hc1
  refine vc_skip ?_
  refine hK5 _ ?_
  refine vc_seq fun K7 hK7 => ?_
  refine vc_block ?_
  refine vc_region ?_
  refine vo_move_ref rfl rfl ?_
  refine vo_move_ptr rfl rfl ?_
  refine vo_move_pv rfl rfl ?_
  refine vo_call [0] Try.func54 rfl rfl rfl rfl rfl rfl rfl (pick_sat hc (by omega)) ?_
  rintro _ _ ⟨x18, ⟨hx180, hx181⟩, rfl, rfl⟩
  refine ⟨Nat.le_of_ble_eq_true rfl, ⟨rfl, rfl, rfl, rfl⟩, .inl rfl, ?_⟩
  refine vo_stM ?_
  refine vo_move_ptr rfl rfl ?_
  refine vo_move_pv rfl rfl ?_
  refine vo_call [0] Try.func54 rfl rfl rfl rfl rfl rfl rfl (pick_sat hc (by omega)) ?_
  rintro _ _ ⟨x21, ⟨hx210, hx211⟩, rfl, rfl⟩
  refine ⟨Nat.le_of_ble_eq_true rfl, ⟨rfl, rfl, rfl, rfl⟩, .inl rfl, ?_⟩
  refine vo_stM ?_
  refine vo_build S85 rfl rfl rfl ?_
  refine vo_stM ?_
  refine vo_buildSlice E43 rfl rfl rfl rfl rfl ?_
  refine vo_stM ?_
  refine vo_append E43 rfl (by omega) rfl rfl rfl sd sd ?_
  refine vo_stM ?_
  try simp only [app_ints, app_intss, app_bools, app_pairs1]
  refine vo_assign_ref rfl rfl ?_
  refine vo_nil ?_
  refine hK7 _ ?_
  refine vc_region ?_
  refine vo_move_pv rfl rfl ?_
  refine vo_binI rfl rfl rfl rfl sd ?_
  refine vo_assign_pv rfl rfl ?_
  refine vo_nil ?_
  change againE _ _ _ _ _ _ _ _ _ _
  refine againE_mk rfl rfl rfl rfl rfl rfl ⟨_, ?_, l ++ [(x18, x21)], q + 2, n - 1, rfl, ?_, ?_, rfl, (by simp only [List.map_append]; rfl)⟩
  ·omega
  ·refine ⟨by omega, ?_⟩; rw [List.length_append, List.length_singleton]; omega
  ·omega
 ·try simp only [zq0, zq1, zq2, zq3, zq4, zq5, zq6, zq7, zq8, zq9, zqa, zqb, zqc, zqd, zqe, zqf] at hc1
  refine vc_exit ?_
  refine hK3 _ ?_
  refine vc_seq fun K8 hK8 => ?_
  refine vc_seq fun K9 hK9 => ?_
  refine vc_region ?_
  refine vo_move_ref rfl rfl ?_
  refine vo_len_ref rfl rfl rfl Try.underlying43 ?_
  refine vo_binI rfl rfl rfl rfl trivial ?_
  refine vo_move_pv rfl rfl ?_
  refine vo_split 28 rfl (fun hg2 => ?_) (fun hg2 => ?_)
  ·try simp only [zq0, zq1, zq2, zq3, zq4, zq5, zq6, zq7, zq8, zq9, zqa, zqb, zqc, zqd, zqe, zqf] at hg2
   obtain ⟨o, l, rfl⟩ := List.exists_cons_of_length_pos (show 0 < l.length by omega)
   have hl9 : (o :: l).length ≤ 4 := by omega
   refine vo_guard_on rfl rfl rfl ?_
   refine vo_move_ptr rfl rfl ?_
   refine vo_guard_on rfl rfl rfl ?_
   refine vo_call [0] Try.func54 rfl rfl rfl rfl rfl rfl rfl (pick_sat hc (by omega)) ?_
   rintro _ _ ⟨x30, ⟨hx300, hx301⟩, rfl, rfl⟩
   refine ⟨Nat.le_of_ble_eq_true rfl, ⟨rfl, rfl, rfl, rfl⟩, .inl rfl, ?_⟩
   refine vo_stM ?_
   refine vo_guard_on rfl rfl rfl ?_
   refine vo_binI rfl rfl rfl rfl trivial ?_
   refine vo_pick_t rfl rfl ?_
   refine vo_nil ?_
   refine hK9 _ ?_
   refine vc_cond rfl (fun hc3 => ?_) (fun hc3 => ?_)
   ·try simp only [zq0, zq1, zq2, zq3, zq4, zq5, zq6, zq7, zq8, zq9, zqa, zqb, zqc, zqd, zqe, zqf] at hc3
    refine vc_region ?_
    refine vo_move_ref rfl rfl ?_
    refine vo_move_ptr rfl rfl ?_
    refine vo_buildSlice E24 rfl rfl rfl rfl rfl ?_
    refine vo_stM ?_
    refine vo_expose 3 (by omega) rfl ?_
    refine vo_stM ?_
    refine vo_weaken 35 rfl ?_
    refine vo_stM ?_
    refine vo_call [0] Try.func53 rfl rfl rfl rfl rfl rfl rfl (one_sat (list := [_,_]) hc (by omega) (by simp) (by simp)) ?_
    rintro _ _ ⟨y36, hy36, rfl, rfl⟩
    refine ⟨Nat.le_of_ble_eq_true rfl, ⟨rfl, rfl, rfl, rfl⟩, .inl rfl, ?_⟩
    refine vo_stM ?_
    refine vo_index_ref rfl rfl rfl rfl E43.und inf85 sz85 sd sd ?_
    try simp only [Int.toNat_natCast]
    refine vo_fieldAddr_ptr rfl rfl Try.underlying85 rfl inf3 (by rw [sz3]; decide) ?_
    try simp only [Nat.zero_add]
    refine vo_store_ownC rfl rfl rfl rfl inf3 sz3 rfl rfl ?_
    try simp only [List.set_cons_zero, List.set_cons_succ, Int.toNat_natCast, Int.toNat_zero]
    refine vo_stM ?_
    refine vo_nil ?_
    refine hK8 _ ?_
    refine vc_seq fun K10 hK10 => ?_
    refine vc_region ?_
    refine vo_move_ref rfl rfl ?_
    refine vo_assign_ref rfl rfl ?_
    refine vo_nil ?_
    refine hK10 _ ?_
    refine vc_ret ?_
    change retQ _ _ _ _ _
    refine retQ_sel [1] (srows := [_]) (.inr rfl) hC rfl rfl rfl rfl rfl rfl rfl ?_
    first
     | exact ⟨(y36, o.2) :: l, _, ⟨hl9, by omega⟩, rfl, rfl⟩
     | exact ⟨o :: l, _, ⟨hl9, by omega⟩, rfl, rfl⟩
     | exact ⟨l, _, ⟨by omega, by omega⟩, rfl, rfl⟩
   ·try simp only [zq0, zq1, zq2, zq3, zq4, zq5, zq6, zq7, zq8, zq9, zqa, zqb, zqc, zqd, zqe, zqf] at hc3
    refine vc_skip ?_
    refine hK8 _ ?_
    refine vc_seq fun K11 hK11 => ?_
    refine vc_region ?_
    refine vo_move_ref rfl rfl ?_
    refine vo_assign_ref rfl rfl ?_
    refine vo_nil ?_
    refine hK11 _ ?_
    refine vc_ret ?_
    change retQ _ _ _ _ _
    refine retQ_sel [1] (srows := [_]) (.inr rfl) hC rfl rfl rfl rfl rfl rfl rfl ?_
    first
     | exact ⟨(y36, o.2) :: l, _, ⟨hl9, by omega⟩, rfl, rfl⟩
     | exact ⟨o :: l, _, ⟨hl9, by omega⟩, rfl, rfl⟩
     | exact ⟨l, _, ⟨by omega, by omega⟩, rfl, rfl⟩
  ·try simp only [zq0, zq1, zq2, zq3, zq4, zq5, zq6, zq7, zq8, zq9, zqa, zqb, zqc, zqd, zqe, zqf] at hg2
   refine vo_guard_off rfl rfl rfl rfl rfl ?_
   refine vo_guard_off rfl rfl rfl rfl rfl ?_
   refine vo_guard_off rfl rfl rfl rfl rfl ?_
   refine vo_pick_f rfl rfl ?_
   refine vo_nil ?_
   refine hK9 _ ?_
   refine vc_cond_f rfl ?_
   refine vc_skip ?_
   refine hK8 _ ?_
   refine vc_seq fun K12 hK12 => ?_
   refine vc_region ?_
   refine vo_move_ref rfl rfl ?_
   refine vo_assign_ref rfl rfl ?_
   refine vo_nil ?_
   refine hK12 _ ?_
   refine vc_ret ?_
   change retQ _ _ _ _ _
   refine retQ_sel [1] (srows := [_]) (.inr rfl) hC rfl rfl rfl rfl rfl rfl rfl ?_
   first
    | exact ⟨(y36, o.2) :: l, _, ⟨hl9, by omega⟩, rfl, rfl⟩
    | exact ⟨o :: l, _, ⟨hl9, by omega⟩, rfl, rfl⟩
    | exact ⟨l, _, ⟨by omega, by omega⟩, rfl, rfl⟩


theorem classOfR_sat {nl : Option Bool} {c : List (Fin 256)} {p : Nat} {most : Int} (hc : c.length ≤ 2000) (hp : p < 989000) : SatAt Try.prog 68 [.ptr 0 0 0 0, i64 most] [rdr nl c p] (fun res rows => ∃ (B : List (List Int)) (q : Nat) (f : Bool) (z : Int), (1 ≤ B.length ∧ B.length ≤ 10 ∧ (∀ l ∈ B, l.length ≤ 3) ∧ q ≤ p + 110) ∧ res = [.ref 1, i64 z] ∧ rows = [rdr nl c q, Row.own 24 1 (some false) f (B.map ints)]) := by
 refine sat_entry_G (rs := [(4, none), (5, none)]) Try.func68 rfl rfl (Nat.le_of_ble_eq_true rfl) (Nat.le_of_ble_eq_true rfl) (resTs2 trivial trivial) fun C hC => ?_
 rw [Try.ntmps68]
 replace hC : C.nb = 1 := hC
 refine vc_seq fun K1 hK1 => ?_
 refine vc_region ?_
 refine vo_assign_pv rfl rfl ?_
 refine vo_assign_pv rfl rfl ?_
 refine vo_nil ?_
 refine hK1 _ ?_
 refine vc_seq fun K2 hK2 => ?_
 refine vc_region ?_
 refine vo_move_ptr rfl rfl ?_
 refine vo_move_pv rfl rfl ?_
 refine vo_call [0] Try.func52 rfl rfl rfl rfl rfl rfl rfl (anyBases_sat hc (by omega)) ?_
 rintro _ _ ⟨B, q, f, ⟨h1, h2, h3, h4⟩, rfl, rfl⟩
 refine ⟨Nat.le_of_ble_eq_true rfl, ⟨rfl, rfl, rfl, rfl⟩, .inl rfl, ?_⟩
 refine vo_stM ?_
 refine vo_assign_ref rfl rfl ?_
 refine vo_nil ?_
 refine hK2 _ ?_
 refine vc_seq fun K3 hK3 => ?_
 refine vc_seq fun K4 hK4 => ?_
 refine vc_region ?_
 refine vo_move_ptr rfl rfl ?_
 refine vo_call [0] Try.func54 rfl rfl rfl rfl rfl rfl rfl (pick_sat hc (by omega)) ?_
 rintro _ _ ⟨x11, ⟨hx110, hx111⟩, rfl, rfl⟩
 refine ⟨Nat.le_of_ble_eq_true rfl, ⟨rfl, rfl, rfl, rfl⟩, .inl rfl, ?_⟩
 refine vo_stM ?_
 refine vo_binI rfl rfl rfl rfl trivial ?_
 refine vo_nil ?_
 refine hK4 _ ?_
 refine vc_cond rfl (fun hc1 => ?_) (fun hc1 => ?_)
 ·try simp only [zq0, zq1, zq2, zq3, zq4, zq5, zq6, zq7, zq8, zq9, zqa, zqb, zqc, zqd, zqe, zqf] at hc1
  refine vc_seq fun K5 hK5 => ?_
  refine vc_region ?_
  refine vo_move_ref rfl rfl ?_
  refine vo_move_ptr rfl rfl ?_
  refine vo_buildSlice E24 rfl rfl rfl rfl rfl ?_
  refine vo_stM ?_
  refine vo_expose 2 (by omega) rfl ?_
  refine vo_stM ?_
  refine vo_weaken 15 rfl ?_
  refine vo_stM ?_
  refine vo_call [0] Try.func53 rfl rfl rfl rfl rfl rfl rfl (one_sat (list := [_,_]) hc (by omega) (by simp) (by simp)) ?_
  rintro _ _ ⟨y16, hy16, rfl, rfl⟩
  refine ⟨Nat.le_of_ble_eq_true rfl, ⟨rfl, rfl, rfl, rfl⟩, .inl rfl, ?_⟩
  refine vo_stM ?_
  refine vo_assign_ref rfl rfl ?_
  refine vo_assign_pv rfl rfl ?_
  refine vo_nil ?_
  refine hK5 _ ?_
  refine vc_ret ?_
  change retQ _ _ _ _ _
  refine retQ_sel [1] (srows := [_]) (.inr rfl) hC rfl rfl rfl rfl rfl rfl rfl ?_
  exact ⟨B, _, _, _, ⟨h1, h2, h3, by omega⟩, rfl, rfl⟩
 ·try simp only [zq0, zq1, zq2, zq3, zq4, zq5, zq6, zq7, zq8, zq9, zqa, zqb, zqc, zqd, zqe, zqf] at hc1
  refine vc_skip ?_
  refine hK3 _ ?_
  refine vc_seq fun K6 hK6 => ?_
  refine vc_region ?_
  refine vo_move_ref rfl rfl ?_
  refine vo_move_ptr rfl rfl ?_
  refine vo_move_ref rfl rfl ?_
  refine vo_len_ref rfl rfl rfl Try.underlying23 ?_
  refine vo_binI rfl rfl rfl rfl sd ?_
  refine vo_move_ptr rfl rfl ?_
  refine vo_move_ref rfl rfl ?_
  refine vo_len_ref rfl rfl rfl Try.underlying23 ?_
  refine vo_call [0] Try.func54 rfl rfl rfl rfl rfl rfl rfl (pick_sat hc (by omega)) ?_
  rintro _ _ ⟨x25, ⟨hx250, hx251⟩, rfl, rfl⟩
  refine ⟨Nat.le_of_ble_eq_true rfl, ⟨rfl, rfl, rfl, rfl⟩, .inl rfl, ?_⟩
  refine vo_stM ?_
  refine vo_buildSlice E24 rfl rfl rfl rfl rfl ?_
  refine vo_stM ?_
  refine vo_expose 2 (by omega) rfl ?_
  refine vo_stM ?_
  refine vo_weaken 26 rfl ?_
  refine vo_stM ?_
  refine vo_call [0] Try.func53 rfl rfl rfl rfl rfl rfl rfl (one_sat (list := [_,_]) hc (by omega) (by simp) (by simp)) ?_
  rintro _ _ ⟨y27, hy27, rfl, rfl⟩
  refine ⟨Nat.le_of_ble_eq_true rfl, ⟨rfl, rfl, rfl, rfl⟩, .inl rfl, ?_⟩
  refine vo_stM ?_
  refine vo_assign_ref rfl rfl ?_
  refine vo_assign_pv rfl rfl ?_
  refine vo_nil ?_
  refine hK6 _ ?_
  refine vc_ret ?_
  change retQ _ _ _ _ _
  refine retQ_sel [1] (srows := [_]) (.inr rfl) hC rfl rfl rfl rfl rfl rfl rfl ?_
  exact ⟨B, _, _, _, ⟨h1, h2, h3, by omega⟩, rfl, rfl⟩


end Go.Vl

namespace Go.Vl
set_option linter.unusedVariables false
set_option linter.unusedSimpArgs false
open Go.Proofs

/-- What one step down leads to. -/
def dn1 (r : List (Int × Int)) (c : Int) : List Int := (r.filter fun p => decide (p.2 = c)).map Prod.fst
def dn2 (b : List (List Int)) (c : Int) (k : Nat) : List Int := ((List.range k).filter fun i => decide (c ∈ b.getD i [])).map fun i : Nat => (i : Int)
def dnM (b : List (List Int)) (r : List (Int × Int)) (c : Int) : List Int := dn1 r c ++ dn2 b c b.length
theorem dn1_yes {r : List (Int × Int)} {c : Int} {k : Nat} (h : k < r.length) (hp : (r.getD k (0, 0)).2 = c) : dn1 (r.take (k+1)) c = dn1 (r.take k) c ++ [(r.getD k (0, 0)).1] := by
  unfold dn1; rw [take_oneR h, List.filter_append, List.filter_cons_of_pos (by simpa using hp), List.map_append]; rfl
theorem dn1_no {r : List (Int × Int)} {c : Int} {k : Nat} (h : k < r.length) (hp : ¬ (r.getD k (0, 0)).2 = c) : dn1 (r.take (k+1)) c = dn1 (r.take k) c := by
  unfold dn1; rw [take_oneR h, List.filter_append, List.filter_cons_of_neg (by simpa using hp)]; simp
theorem dn2_yes {b : List (List Int)} {c : Int} {k : Nat} (hp : c ∈ b.getD k []) : dn2 b c (k+1) = dn2 b c k ++ [(k : Int)] := by
  unfold dn2; rw [List.range_succ, List.filter_append, List.filter_cons_of_pos (by simpa using hp), List.map_append]; rfl
theorem dn2_no {b : List (List Int)} {c : Int} {k : Nat} (hp : ¬ c ∈ b.getD k []) : dn2 b c (k+1) = dn2 b c k := by
  unfold dn2; rw [List.range_succ, List.filter_append, List.filter_cons_of_neg (by simpa using hp)]; simp
theorem dn1_len {r : List (Int × Int)} {c : Int} : (dn1 r c).length ≤ r.length := by unfold dn1; rw [List.length_map]; exact List.length_filter_le _ _
theorem dn2_len {b : List (List Int)} {c : Int} {k : Nat} : (dn2 b c k).length ≤ k := by unfold dn2; rw [List.length_map]; exact Nat.le_trans (List.length_filter_le _ _) (by simp)
theorem dnM_mem {b : List (List Int)} {r : List (Int × Int)} (hV : VRegs b r) {c x : Int} : x ∈ dnM b r c ↔ (0 ≤ x ∧ x < b.length) ∧ c ∈ upM b r x := by
  unfold dnM dn1 dn2 upM
  simp only [List.mem_append, List.mem_map, List.mem_filter, List.mem_range, decide_eq_true_eq]
  constructor
  · rintro (⟨p, ⟨hp, rfl⟩, rfl⟩ | ⟨i, ⟨hi, hc⟩, rfl⟩)
    · have := hV.2.2 p hp
      unfold okReg at this
      exact ⟨by omega, .inr ⟨p, ⟨hp, rfl⟩, rfl⟩⟩
    · exact ⟨by omega, .inl (by simpa using hc)⟩
  · rintro ⟨⟨h0, h1⟩, h | ⟨p, ⟨hp, rfl⟩, rfl⟩⟩
    · exact .inr ⟨x.toNat, ⟨by omega, h⟩, by omega⟩
    · exact .inl ⟨p, ⟨hp, rfl⟩, rfl⟩
theorem dnM_lim {b : List (List Int)} {r : List (Int × Int)} (hV : VRegs b r) {c : Int} : (dnM b r c).length ≤ 20 := by
  have h1 := dn1_len (r := r) (c := c); have h2 := dn2_len (b := b) (c := c) (k := b.length); have h3 := hV.2.1; have h4 := hV.1.2.1
  unfold dnM; rw [List.length_append]; omega
inductive Rch (next : Int → List Int) : Int → Int → Prop
  | refl (c : Int) : Rch next c c
  | step {c d x : Int} (h : d ∈ next c) (h2 : Rch next d x) : Rch next c x
theorem Rch.trans {next : Int → List Int} {c d x : Int} (h : Rch next c d) (h2 : Rch next d x) : Rch next c x := by
  induction h with
  | refl => exact h2
  | step h _ ih => exact .step h (ih h2)
def metD (b : List (List Int)) (r : List (Int × Int)) (c : Int) : List Int := growM (dnM b r) 13 [c] 0
theorem metD_ok {b : List (List Int)} {r : List (Int × Int)} (h : VRegs b r) : ∀ (f i : Nat) (met : List Int), MetOK b.length met → MetOK b.length (growM (dnM b r) f met i)
  | 0, _, _, hm => hm
  | f + 1, i, met, hm => by
    unfold growM
    split
    · rename_i hi
      exact metD_ok h f (i + 1) _ (metOK_once hm fun x hx => ((dnM_mem h).1 hx).1).1
    · exact hm
theorem grow_rch {next : Int → List Int} {c : Int} {f : Nat} (hself : c ∈ growM next f [c] 0) (hc : ∀ x ∈ growM next f [c] 0, ∀ y ∈ next x, y ∈ growM next f [c] 0) (x : Int) : x ∈ growM next f [c] 0 ↔ Rch next c x := by
  constructor
  · refine grow_sound (S := Rch next c) (fun x hx y hy => hx.trans (.step hy (.refl y))) f [c] 0 (fun x hx => by rw [List.mem_singleton.1 hx]; exact .refl c) x
  · intro h
    have key : ∀ {d x : Int}, Rch next d x → d ∈ growM next f [c] 0 → x ∈ growM next f [c] 0 := by
      intro d x h
      induction h with
      | refl => exact id
      | step h _ ih => exact fun hd => ih (hc _ hd _ h)
    exact key h hself
theorem grow_self {next : Int → List Int} {c : Int} : ∀ (f : Nat) (met : List Int) (i : Nat), c ∈ met → c ∈ growM next f met i
  | 0, _, _, h => h
  | f + 1, met, i, h => by
    unfold growM
    split
    · exact grow_self f _ _ ((onceF_memS c _ _).2 (.inl h))
    · exact h
theorem metU_rch {b : List (List Int)} {r : List (Int × Int)} {c : Int} (hV : VRegs b r) (h0 : 0 ≤ c) (h1 : c < b.length) (x : Int) : x ∈ metU b r c ↔ Rch (upM b r) c x :=
  grow_rch (grow_self _ _ _ (by simp)) (metU_closed hV h0 h1) x
theorem metD_rch {b : List (List Int)} {r : List (Int × Int)} {c : Int} (hV : VRegs b r) (h0 : 0 ≤ c) (h1 : c < b.length) (x : Int) : x ∈ metD b r c ↔ Rch (dnM b r) c x :=
  grow_rch (grow_self _ _ _ (by simp)) (grow_complete 13 [c] 0 (fun j hj => by omega) (by have := (metD_ok hV 13 0 [c] (met_one h0 h1)).len; have := hV.1.2.1; omega)) x
theorem rch_dn {b : List (List Int)} {r : List (Int × Int)} (hV : VRegs b r) {c x : Int} (h : Rch (dnM b r) c x) : Rch (upM b r) x c := by
  induction h with
  | refl => exact .refl _
  | step h _ ih => exact ih.trans (.step ((dnM_mem hV).1 h).2 (.refl _))
theorem rch_up {b : List (List Int)} {r : List (Int × Int)} (hV : VRegs b r) {c x : Int} (h0 : 0 ≤ c) (h1 : c < b.length) (h : Rch (upM b r) c x) : Rch (dnM b r) x c := by
  induction h with
  | refl => exact .refl _
  | step h _ ih =>
    have hd := upM_in hV h0 h1 _ h
    exact (ih hd.1 hd.2).trans (.step ((dnM_mem hV).2 ⟨⟨h0, h1⟩, h⟩) (.refl _))
theorem down_up {b : List (List Int)} {r : List (Int × Int)} (hV : VRegs b r) {a c : Int} (a0 : 0 ≤ a) (a1 : a < b.length) (c0 : 0 ≤ c) (c1 : c < b.length) : a ∈ metD b r c ↔ c ∈ metU b r a := by
  rw [metD_rch hV c0 c1, metU_rch hV a0 a1]
  exact ⟨rch_dn hV, rch_up hV a0 a1⟩
def isSubM (b : List (List Int)) (r : List (Int × Int)) (a c : Int) : Prop := hasRC b r [a, c] ∧ c ∈ metU b r a
instance (b : List (List Int)) (r : List (Int × Int)) (a c : Int) : Decidable (isSubM b r a c) := by unfold isSubM; infer_instance
theorem growD_step {b : List (List Int)} {r : List (Int × Int)} (h : VRegs b r) {met : List Int} {i : Nat} (hm : MetOK b.length met) : MetOK b.length (grow1 (dnM b r) met i) ∧ met.length ≤ (grow1 (dnM b r) met i).length :=
  metOK_once hm fun x hx => ((dnM_mem h).1 hx).1

theorem stepsDown_sat {nl0 : Option Bool} {bases : List (List Int)} {nl1 : Option Bool} {regs : List (Int × Int)} {c : Int} (hbases : bases.length < 1000000000) (hlbases : ∀ l ∈ bases, l.length < 1000000000) (hregs : regs.length < 1000000000)  : SatAt Try.prog 81 [.pv false (.sl nl0 1 (bases.map ints)), .pv false (.sl nl1 2 (regs.map pairP)), i64 c] [] (fun res rows => ∃ nl, res = [.ref 0] ∧ rows = [Row.own 3 1 nl true ((dnM bases regs c).map intP)]) := by
 refine sat_entry_G (rs := [(6, none)]) Try.func81 rfl rfl (Nat.le_of_ble_eq_true rfl) (Nat.le_of_ble_eq_true rfl) (resTs1 trivial) fun C hC => ?_
 rw [Try.ntmps81]
 replace hC : C.nb = 0 := hC
 refine vc_seq fun K1 hK1 => ?_
 refine vc_region ?_
 refine vo_assign_pv rfl rfl ?_
 refine vo_own_nil 6 E24 rfl ?_
 refine vo_nil ?_
 refine hK1 _ ?_
 refine vc_seq fun K2 hK2 => ?_
 refine vc_region ?_
 refine vo_assign_pv rfl rfl ?_
 refine vo_nil ?_
 refine hK2 _ ?_
 refine vc_seq fun K3 hK3 => ?_
 refine vc_seq fun K4 hK4 => ?_
 refine vc_region ?_
 refine vo_move_pv rfl rfl ?_
 refine vo_len_pv rfl rfl Try.underlying43 ?_
 refine vo_move_pv rfl rfl ?_
 refine vo_nil ?_
 refine hK4 _ ?_
 refine vc_block ?_
 refine vc_own_nil 7 E24 rfl ?_
 refine vc_stM ?_
 refine vc_loopE [0, 2, 12, 13] [7, 14] [1] _ _ (fun mz vs rs => ∃ (k : Nat), mz = regs.length - k ∧ (k ≤ regs.length) ∧ vs = [.ref 1, i64 k] ∧ rs = [Row.own 3 1 none true ((dn1 (regs.take k) c).map intP)]) (regs.length) rfl rfl (le_len hC rfl) ⟨rfl, rfl, rfl⟩ rfl ⟨0, rfl, Nat.zero_le _, rfl, rfl⟩ ?_
 rintro mz vs rs - - ⟨k, rfl, hk, rfl, rfl⟩
 refine vc_stM ?_
 have hul := dn1_len (r := regs.take k) (c := c)
 rw [List.length_take] at hul
 refine vc_seq fun K5 hK5 => ?_
 refine vc_region ?_
 refine vo_binI rfl rfl rfl rfl trivial ?_
 refine vo_nil ?_
 refine hK5 _ ?_
 refine vc_seq fun K6 hK6 => ?_
 refine vc_cond rfl (fun hc1 => ?_) (fun hc1 => ?_)
 ·try simp only [zq0, zq1, zq2, zq3, zq4, zq5, zq6, zq7, zq8, zq9, zqa, zqb, zqc, zqd, zqe, zqf] at hc1
  refine vc_skip ?_
  refine hK6 _ ?_
  refine vc_seq fun K7 hK7 => ?_
  refine vc_block ?_
  refine vc_seq fun K8 hK8 => ?_
  refine vc_region ?_
  refine vo_index_pv (.agg [(.int .i64 0), (.int .i64 0)]) rfl rfl rfl E43.und inf85 sz85 sd sd ?_
  simp only [Int.toNat_natCast, Int.toNat_zero, getD_ints, getD_intss, getD_bools, getD_bytes, PV.cells, getD_pairs]
  refine vo_load_adrS rfl rfl Try.underlying85 rfl inf85 sz85 rfl ?_
  refine vo_st (by (try simp only [St.put, PV.cells, PV.scal, List.drop_succ_cons, List.drop_zero, List.take_succ_cons, List.take_zero, List.map_cons, List.map_nil, Bool.or_true, Bool.or_false, Bool.false_or, Bool.true_or, opP, pairP, instP, heapP]); exact eq_refl _) ?_
  refine vo_alloc Z85 rfl ?_
  refine vo_stM ?_
  refine vo_store_varS rfl rfl rfl inf85 sz85 rfl ?_
  refine vo_stM ?_
  refine vo_nil ?_
  refine hK8 _ ?_
  refine vc_seq fun K9 hK9 => ?_
  refine vc_region ?_
  refine vo_fieldAddr_ptr rfl rfl Try.underlying85 rfl inf3 (by rw [sz3]; decide) ?_
  try simp only [Nat.zero_add]
  refine vo_load_var rfl rfl rfl Try.underlying3 rfl rfl ?_
  refine vo_move_pv rfl rfl ?_
  refine vo_binI rfl rfl rfl rfl trivial ?_
  refine vo_nil ?_
  refine hK9 _ ?_
  refine vc_cond rfl (fun hc2 => ?_) (fun hc2 => ?_)
  ·try simp only [zq0, zq1, zq2, zq3, zq4, zq5, zq6, zq7, zq8, zq9, zqa, zqb, zqc, zqd, zqe, zqf] at hc2
   refine vc_region ?_
   refine vo_move_ref rfl rfl ?_
   refine vo_fieldAddr_ptr rfl rfl Try.underlying85 rfl inf3 (by rw [sz3]; decide) ?_
   try simp only [Nat.zero_add]
   refine vo_load_var rfl rfl rfl Try.underlying3 rfl rfl ?_
   refine vo_buildSlice E24 rfl rfl rfl rfl rfl ?_
   refine vo_stM ?_
   refine vo_append E24 rfl (by omega) rfl rfl rfl sd sd ?_
   refine vo_stM ?_
   try simp only [app_ints, app_intss, app_bools]
   refine vo_assign_ref rfl rfl ?_
   refine vo_nil ?_
   refine hK7 _ ?_
   refine vc_region ?_
   refine vo_binI rfl rfl rfl rfl sd ?_
   refine vo_move_pv rfl rfl ?_
   refine vo_nil ?_
   change againE _ _ _ _ _ _ _ _ _ _
   refine againE_mk rfl rfl rfl rfl rfl rfl ⟨_, ?_, k + 1, rfl, ?_, rfl, (by rw [dn1_yes (by omega) (by omega)]; rfl)⟩
   ·omega
   ·omega
  ·try simp only [zq0, zq1, zq2, zq3, zq4, zq5, zq6, zq7, zq8, zq9, zqa, zqb, zqc, zqd, zqe, zqf] at hc2
   refine vc_skip ?_
   refine hK7 _ ?_
   refine vc_region ?_
   refine vo_binI rfl rfl rfl rfl sd ?_
   refine vo_move_pv rfl rfl ?_
   refine vo_nil ?_
   change againE _ _ _ _ _ _ _ _ _ _
   refine againE_mk rfl rfl rfl rfl rfl rfl ⟨_, ?_, k + 1, rfl, ?_, rfl, (by rw [dn1_no (by omega) (by omega)]; rfl)⟩
   ·omega
   ·omega
 ·try simp only [zq0, zq1, zq2, zq3, zq4, zq5, zq6, zq7, zq8, zq9, zqa, zqb, zqc, zqd, zqe, zqf] at hc1
  refine vc_exit ?_
  refine hK3 _ ?_
  refine vc_seq fun K10 hK10 => ?_
  refine vc_seq fun K11 hK11 => ?_
  refine vc_region ?_
  refine vo_move_pv rfl rfl ?_
  refine vo_len_pv rfl rfl Try.underlying23 ?_
  refine vo_move_pv rfl rfl ?_
  refine vo_nil ?_
  refine hK11 _ ?_
  refine vc_block ?_
  refine vc_stM ?_
  refine vc_loopE [2, 28, 29] [7, 30] [1] _ _ (fun mz vs rs => ∃ (k : Nat), mz = bases.length - k ∧ (k ≤ bases.length) ∧ vs = [.ref 1, i64 k] ∧ rs = [Row.own 3 1 none true ((dn1 regs c ++ dn2 bases c k).map intP)]) (bases.length) rfl rfl (le_len hC rfl) ⟨rfl, rfl, rfl⟩ rfl ⟨0, rfl, Nat.zero_le _, rfl, (by rw [show dn1 (regs.take k) c = dn1 regs c by rw [take_all (by omega)]]; simp only [dn2, List.range_zero, List.filter_nil, List.map_nil, List.append_nil]; rfl)⟩ ?_
  rintro mz vs rs - - ⟨k, rfl, hk, rfl, rfl⟩
  refine vc_stM ?_
  have hu1 := dn1_len (r := regs) (c := c)
  have hu2 := dn2_len (b := bases) (c := c) (k := k)
  have hu3 : (dn1 regs c ++ dn2 bases c k).length ≤ 3000000000 := by rw [List.length_append]; omega
  refine vc_seq fun K12 hK12 => ?_
  refine vc_region ?_
  refine vo_binI rfl rfl rfl rfl trivial ?_
  refine vo_nil ?_
  refine hK12 _ ?_
  refine vc_seq fun K13 hK13 => ?_
  refine vc_cond rfl (fun hc3 => ?_) (fun hc3 => ?_)
  ·try simp only [zq0, zq1, zq2, zq3, zq4, zq5, zq6, zq7, zq8, zq9, zqa, zqb, zqc, zqd, zqe, zqf] at hc3
   refine vc_skip ?_
   refine hK13 _ ?_
   refine vc_seq fun K14 hK14 => ?_
   refine vc_block ?_
   refine vc_seq fun K15 hK15 => ?_
   refine vc_region ?_
   refine vo_move_pv rfl rfl ?_
   refine vo_index_pv (.sl none 1 []) rfl rfl rfl E23.und inf24 sz24 sd sd ?_
   simp only [Int.toNat_natCast, Int.toNat_zero, getD_ints, getD_intss, getD_bools, getD_bytes, PV.cells, getD_pairs]
   refine vo_load_adr rfl rfl Try.underlying24 rfl ?_
   refine vo_assign_pv rfl rfl ?_
   refine vo_assign_pv rfl rfl ?_
   refine vo_nil ?_
   refine hK15 _ ?_
   refine vc_seq fun K16 hK16 => ?_
   refine vc_region ?_
   refine vo_move_pv rfl rfl ?_
   refine vo_move_pv rfl rfl ?_
   refine vo_call0 Try.func82 rfl rfl rfl rfl (Contains_sat (hlbases _ (getD_mem (show k < bases.length by omega) []))) ?_
   rintro _ _ ⟨rfl, rfl⟩
   refine ⟨rfl, rfl, .inl rfl, ?_⟩
   refine vo_stM ?_
   refine vo_nil ?_
   refine hK16 _ ?_
   refine vc_cond rfl (fun hc4 => ?_) (fun hc4 => ?_)
   ·try simp only [zq0, zq1, zq2, zq3, zq4, zq5, zq6, zq7, zq8, zq9, zqa, zqb, zqc, zqd, zqe, zqf] at hc4
    refine vc_region ?_
    refine vo_move_ref rfl rfl ?_
    refine vo_move_pv rfl rfl ?_
    refine vo_buildSlice E24 rfl rfl rfl rfl rfl ?_
    refine vo_stM ?_
    refine vo_append E24 rfl (by omega) rfl rfl rfl sd sd ?_
    refine vo_stM ?_
    try simp only [app_ints, app_intss, app_bools]
    refine vo_assign_ref rfl rfl ?_
    refine vo_nil ?_
    refine hK14 _ ?_
    refine vc_region ?_
    refine vo_binI rfl rfl rfl rfl sd ?_
    refine vo_move_pv rfl rfl ?_
    refine vo_nil ?_
    change againE _ _ _ _ _ _ _ _ _ _
    refine againE_mk rfl rfl rfl rfl rfl rfl ⟨_, ?_, k + 1, rfl, ?_, rfl, (by rw [dn2_yes (by assumption), ← List.append_assoc]; rfl)⟩
    ·omega
    ·omega
   ·try simp only [zq0, zq1, zq2, zq3, zq4, zq5, zq6, zq7, zq8, zq9, zqa, zqb, zqc, zqd, zqe, zqf] at hc4
    refine vc_skip ?_
    refine hK14 _ ?_
    refine vc_region ?_
    refine vo_binI rfl rfl rfl rfl sd ?_
    refine vo_move_pv rfl rfl ?_
    refine vo_nil ?_
    change againE _ _ _ _ _ _ _ _ _ _
    refine againE_mk rfl rfl rfl rfl rfl rfl ⟨_, ?_, k + 1, rfl, ?_, rfl, (by rw [dn2_no (by assumption)]; rfl)⟩
    ·omega
    ·omega
  ·try simp only [zq0, zq1, zq2, zq3, zq4, zq5, zq6, zq7, zq8, zq9, zqa, zqb, zqc, zqd, zqe, zqf] at hc3
   refine vc_exit ?_
   refine hK10 _ ?_
   refine vc_seq fun K17 hK17 => ?_
   refine vc_region ?_
   refine vo_move_ref rfl rfl ?_
   refine vo_assign_ref rfl rfl ?_
   refine vo_nil ?_
   refine hK17 _ ?_
   refine vc_ret ?_
   change retQ _ _ _ _ _
   refine retQ_sel [1] (srows := [_]) (.inr rfl) hC rfl rfl rfl rfl rfl rfl rfl ?_
   rw [show k = bases.length by omega]; exact ⟨_, rfl, rfl⟩


theorem subStep_sat {nl0 nl1 : Option Bool} {f0 f1 : Bool} {bases : List (List Int)} {regs : List (Int × Int)} {c : Int} (hbases : bases.length < 1000000000) (hlbases : ∀ l ∈ bases, l.length < 1000000000) (hregs : regs.length < 1000000000) : SatAt Try.prog 80 [i64 c, .ptr 0 0 0 0, .ptr 1 0 0 0] [Row.var 23 [.pv f0 (.sl nl0 1 (bases.map ints))], Row.var 43 [.pv f1 (.sl nl1 2 (regs.map pairP))]] (fun res rows => ∃ nl, res = [.ref 2] ∧ rows = [Row.var 23 [.pv f0 (.sl nl0 1 (bases.map ints))], Row.var 43 [.pv f1 (.sl nl1 2 (regs.map pairP))], Row.own 3 1 nl true ((dnM bases regs c).map intP)]) := by
 refine sat_entry_G (rs := [(4, none)]) Try.func80 rfl rfl (Nat.le_of_ble_eq_true rfl) (Nat.le_of_ble_eq_true rfl) (resTs1 trivial) fun C hC => ?_
 rw [Try.ntmps80]
 replace hC : C.nb = 2 := hC
 refine vc_seq fun K1 hK1 => ?_
 refine vc_region ?_
 refine vo_assign_pv rfl rfl ?_
 refine vo_nil ?_
 refine hK1 _ ?_
 refine vc_seq fun K2 hK2 => ?_
 refine vc_region ?_
 refine vo_load_var rfl rfl rfl Try.underlying23 rfl rfl ?_
 refine vo_load_var rfl rfl rfl Try.underlying43 rfl rfl ?_
 refine vo_move_pv rfl rfl ?_
 refine vo_call [] Try.func81 rfl rfl rfl rfl rfl rfl rfl (stepsDown_sat hbases hlbases hregs) ?_
 rintro _ _ ⟨nlu, rfl, rfl⟩
 refine ⟨Nat.le_of_ble_eq_true rfl, ⟨rfl, rfl, rfl, rfl⟩, .inl rfl, ?_⟩
 refine vo_stM ?_
 refine vo_assign_ref rfl rfl ?_
 refine vo_nil ?_
 refine hK2 _ ?_
 refine vc_ret ?_
 change retQ _ _ _ _ _
 refine retQ_sel [2] (srows := [_]) (.inr rfl) hC rfl rfl rfl rfl rfl rfl rfl ?_
 exact ⟨_, rfl, rfl⟩

set_option maxHeartbeats 4000000 in
theorem implIsSub_sat {nl0 : Option Bool} {bases : List (List Int)} {nl1 : Option Bool} {regs : List (Int × Int)} {a : Int} {b : Int} (hbases : bases.length < 1000000000) (hlbases : ∀ l ∈ bases, l.length < 1000000000) (hregs : regs.length < 1000000000)  : SatAt Try.prog 43 [.pv false (.sl nl0 1 (bases.map ints)), .pv false (.sl nl1 2 (regs.map pairP)), i64 a, i64 b] [] (fun res rows => res = [bo (decide (isSubM bases regs a b))] ∧ rows = []) := by
 refine sat_entry_G (rs := [(8, none)]) Try.func43 rfl rfl (Nat.le_of_ble_eq_true rfl) (Nat.le_of_ble_eq_true rfl) (resTs1 trivial) fun C hC => ?_
 rw [Try.ntmps43]
 replace hC : C.nb = 0 := hC
 refine vc_seq fun K1 hK1 => ?_
 refine vc_region ?_
 refine vo_boxG rfl rfl rfl ?_
 refine vo_stM ?_
 refine vo_boxG rfl rfl rfl ?_
 refine vo_stM ?_
 refine vo_assign_pv rfl rfl ?_
 refine vo_nil ?_
 refine hK1 _ ?_
 refine vc_seq fun K2 hK2 => ?_
 refine vc_seq fun K3 hK3 => ?_
 refine vc_region ?_
 refine vo_load_var rfl rfl rfl Try.underlying23 rfl rfl ?_
 refine vo_load_var rfl rfl rfl Try.underlying43 rfl rfl ?_
 refine vo_move_pv rfl rfl ?_
 refine vo_move_pv rfl rfl ?_
 refine vo_buildSlice E24 rfl rfl rfl rfl rfl ?_
 refine vo_stM ?_
 refine vo_expose 2 (by omega) rfl ?_
 refine vo_stM ?_
 refine vo_weaken 14 rfl ?_
 refine vo_stM ?_
 refine vo_call0 Try.func70 rfl rfl rfl rfl (hasRegs_sat (classes := [a, b]) hbases hlbases hregs (by simp)) ?_
 rintro _ _ ⟨rfl, rfl⟩
 refine ⟨rfl, rfl, .inl rfl, ?_⟩
 refine vo_stM ?_
 refine vo_not rfl rfl ?_
 refine vo_nil ?_
 refine hK3 _ ?_
 refine vc_cond rfl (fun hc1 => ?_) (fun hc1 => ?_)
 ·try simp only [zq0, zq1, zq2, zq3, zq4, zq5, zq6, zq7, zq8, zq9, zqa, zqb, zqc, zqd, zqe, zqf] at hc1
  refine vc_seq fun K4 hK4 => ?_
  refine vc_region ?_
  refine vo_assign_pv rfl rfl ?_
  refine vo_nil ?_
  refine hK4 _ ?_
  refine vc_ret ?_
  change retQ _ _ _ _ _
  refine retQ_sel [] (srows := []) (.inr rfl) hC rfl rfl rfl rfl rfl rfl rfl ?_
  refine ⟨(congrArg (fun b => [bo b]) (?_ : _ = _) : [bo _] = [bo _]), rfl⟩
  exact (decide_eq_false fun h => absurd h.1 (by assumption)).symm
 ·try simp only [zq0, zq1, zq2, zq3, zq4, zq5, zq6, zq7, zq8, zq9, zqa, zqb, zqc, zqd, zqe, zqf] at hc1
  have hV := hc1.1
  have hb12 := hV.1.2.1
  have har := hc1.2 a (by simp)
  have hbr := hc1.2 b (by simp)
  have hz0 : 0 ≤ b := hbr.1
  have hz1 : b < bases.length := by omega
  refine vc_skip ?_
  refine hK2 _ ?_
  refine vc_seq fun K5 hK5 => ?_
  refine vc_region ?_
  refine vo_move_pv rfl rfl ?_
  refine vo_makeFunc (ids := [0, 1]) rfl rfl ?_
  refine vo_stM ?_
  refine vo_inline [2] [(4, none)] Try.func71 rfl rfl rfl rfl (Nat.le_of_ble_eq_true rfl) (resTs1 trivial) rfl rfl fun us1 => ?_
  rw [Try.ntmps71]
  refine vc_stM ?_
  refine vc_seq fun K6 hK6 => ?_
  refine vc_region ?_
  refine vo_assign_pv rfl rfl ?_
  refine vo_nil ?_
  refine hK6 _ ?_
  refine vc_seq fun K7 hK7 => ?_
  refine vc_region ?_
  refine vo_move_pv rfl rfl ?_
  refine vo_buildSlice E24 rfl rfl rfl rfl rfl ?_
  refine vo_stM ?_
  refine vo_assign_ref rfl rfl ?_
  refine vo_nil ?_
  refine hK7 _ ?_
  refine vc_seq fun K8 hK8 => ?_
  refine vc_seq fun K9 hK9 => ?_
  refine vc_region ?_
  refine vo_assign_pv rfl rfl ?_
  refine vo_nil ?_
  refine hK9 _ ?_
  refine vc_block ?_
  refine vc_weakrow 4 rfl ?_
  refine vc_stM ?_
  refine vc_stM ?_
  refine vc_loopE [1] [5, 6] [4] _ _ (fun mz vs rs => ∃ (i : Nat) (met : List Int) (nlm : Option Bool), mz = 13 - i ∧ (MetOK bases.length met) ∧ (i ≤ met.length) ∧ (growM (dnM bases regs) (13 - i) met i = metD bases regs b) ∧ vs = [.ref 4, i64 i] ∧ rs = [Row.own 3 1 nlm true ((met).map intP)]) (13) rfl rfl (le_len hC rfl) ⟨rfl, rfl, rfl⟩ rfl ⟨0, [b], none, rfl, (met_one hz0 hz1), (by simp), rfl, rfl, rfl⟩ ?_
  rintro mz vs rs - - ⟨i, met, nlm, rfl, hm, hi, hg, rfl, rfl⟩
  refine vc_stM ?_
  refine vc_seq fun K10 hK10 => ?_
  refine vc_seq fun K11 hK11 => ?_
  refine vc_region ?_
  refine vo_move_pv rfl rfl ?_
  refine vo_move_ref rfl rfl ?_
  refine vo_len_ref rfl rfl rfl Try.underlying24 ?_
  refine vo_binI rfl rfl rfl rfl trivial ?_
  refine vo_nil ?_
  refine hK11 _ ?_
  refine vc_cond rfl (fun hci11 => ?_) (fun hci11 => ?_)
  ·try simp only [zq0, zq1, zq2, zq3, zq4, zq5, zq6, zq7, zq8, zq9, zqa, zqb, zqc, zqd, zqe, zqf] at hci11
   have hil : i < met.length := by omega
   have hml := hm.len
   have hul := dnM_lim hV (c := met.getD i 0)
   refine vc_skip ?_
   refine hK10 _ ?_
   refine vc_seq fun K12 hK12 => ?_
   refine vc_block ?_
   refine vc_region ?_
   refine vo_move_ref rfl rfl ?_
   refine vo_move rfl ?_
   refine vo_stM ?_
   refine vo_move_ref rfl rfl ?_
   refine vo_move_pv rfl rfl ?_
   refine vo_index_ref rfl rfl rfl rfl E24.und inf3 sz3 sd sd ?_
   try simp only [Int.toNat_natCast]
   refine vo_load_own rfl rfl rfl Try.underlying3 rfl sd (getD_ints _ _) rfl ?_
   try simp only [Int.toNat_natCast]
   refine vo_callF [0, 1] rfl Try.func80 rfl rfl rfl rfl rfl rfl rfl (subStep_sat hbases hlbases hregs) ?_
   rintro _ _ ⟨nlu, rfl, rfl⟩
   refine ⟨Nat.le_of_ble_eq_true rfl, ⟨rfl, rfl, rfl, rfl⟩, .inl rfl, ?_⟩
   refine vo_stM ?_
   refine vo_expose 5 (by omega) rfl ?_
   refine vo_stM ?_
   refine vo_weaken 21 rfl ?_
   refine vo_stM ?_
   refine vo_append E24 rfl (by omega) rfl rfl rfl sd sd ?_
   refine vo_stM ?_
   try simp only [app_ints, app_intss, app_bools, ← List.map_append]
   refine vo_call [] Try.func93 rfl rfl rfl rfl rfl rfl rfl (eachOnce_sat (list := met ++ (dnM bases regs (met.getD i 0))) (by rw [List.length_append]; omega)) ?_
   rintro _ _ ⟨nle, rfl, rfl⟩
   refine ⟨Nat.le_of_ble_eq_true rfl, ⟨rfl, rfl, rfl, rfl⟩, .inr ⟨rfl, rfl⟩, ?_⟩
   refine vo_stM ?_
   refine vo_assign_mv 4 6 rfl rfl (by decide) rfl (by omega) (by omega) rfl ?_
   refine vo_stM ?_
   refine vo_nil ?_
   refine hK12 _ ?_
   refine vc_region ?_
   refine vo_move_pv rfl rfl ?_
   refine vo_binI rfl rfl rfl rfl sd ?_
   refine vo_assign_pv rfl rfl ?_
   refine vo_nil ?_
   change againE _ _ _ _ _ _ _ _ _ _
   refine againE_mk rfl rfl rfl rfl rfl rfl ⟨_, ?_, i + 1, (onceF [] (met ++ (dnM bases regs (met.getD i 0)))), nle, rfl, ?_, ?_, ?_, rfl, rfl⟩
   ·omega
   ·rw [once_grow hm.1]; exact (growD_step hV hm).1
   ·rw [once_grow hm.1]; have := (growD_step (i := i) hV hm).2; omega
   ·rw [once_grow hm.1, ← growM_step hil (by omega)]; exact hg
  ·try simp only [zq0, zq1, zq2, zq3, zq4, zq5, zq6, zq7, zq8, zq9, zqa, zqb, zqc, zqd, zqe, zqf] at hci11
   have hfin : metD bases regs b = met := by rw [← hg, growM_end (by omega)]
   have hml := hm.len
   refine vc_exit ?_
   refine hK8 _ ?_
   refine vc_seq fun K13 hK13 => ?_
   refine vc_region ?_
   refine vo_move_ref rfl rfl ?_
   refine vo_assign_ref rfl rfl ?_
   refine vo_nil ?_
   refine hK13 _ ?_
   refine vc_ret ?_
   refine inQ_ret rfl rfl ?_
   refine vo_stM ?_
   refine vo_assign_ref rfl rfl ?_
   refine vo_nil ?_
   refine hK5 _ ?_
   refine vc_seq fun K14 hK14 => ?_
   refine vc_region ?_
   refine vo_move_ref rfl rfl ?_
   refine vo_move_pv rfl rfl ?_
   refine vo_call0 Try.func82 rfl rfl rfl rfl (Contains_sat (s := met) (by omega)) ?_
   rintro _ _ ⟨rfl, rfl⟩
   refine ⟨rfl, rfl, .inr rfl, ?_⟩
   refine vo_stM ?_
   refine vo_assign_pv rfl rfl ?_
   refine vo_nil ?_
   refine hK14 _ ?_
   refine vc_ret ?_
   change retQ _ _ _ _ _
   refine retQ_sel [] (srows := []) (.inr rfl) hC rfl rfl rfl rfl rfl rfl rfl ?_
   refine ⟨(congrArg (fun b => [bo b]) (?_ : _ = _) : [bo _] = [bo _]), rfl⟩
   exact decide_eq_decide.2 ⟨fun h => ⟨hc1, (down_up hV har.1 (by omega) hz0 hz1).1 (by rw [hfin]; exact h)⟩, fun h => by rw [← hfin]; exact (down_up hV har.1 (by omega) hz0 hz1).2 h.2⟩

end Go.Vl

namespace Go.Vl
set_option linter.unusedVariables false
set_option linter.unusedSimpArgs false
open Go.Proofs

/-- Asked down to a class of a list, no class twice on the way. -/
inductive Ask (T : List Int) (next : Int → List Int) : List Int → Int → Prop
  | hit {asked : List Int} {b : Int} (h : b ∈ T) : Ask T next asked b
  | step {asked : List Int} {b y : Int} (h1 : b ∉ asked) (h2 : y ∈ next b) (h3 : Ask T next (asked ++ [b]) y) : Ask T next asked b
noncomputable instance askDec (T : List Int) (next : Int → List Int) (asked : List Int) (b : Int) : Decidable (Ask T next asked b) := Classical.propDecidable _
theorem Ask.sound {T : List Int} {next : Int → List Int} {asked : List Int} {b : Int} (h : Ask T next asked b) : ∃ y ∈ T, Rch next b y := by
  induction h with
  | hit h => exact ⟨_, h, .refl _⟩
  | step h1 h2 _ ih => obtain ⟨y, hy, hr⟩ := ih; exact ⟨y, hy, .step h2 hr⟩
/-- A way of steps, each class once. -/
inductive Way (next : Int → List Int) : Int → List Int → Int → Prop
  | refl (c : Int) : Way next c [] c
  | step {c d x : Int} {l : List Int} (h : d ∈ next c) (h2 : Way next d l x) (h3 : c ∉ l) (h4 : c ≠ x) : Way next c (c :: l) x
theorem way_cut {next : Int → List Int} {d x c : Int} {l : List Int} (h : Way next d l x) : (c ∈ l ∨ c = x) → ∃ l2, Way next c l2 x := by
  induction h with
  | refl e => rintro (h | rfl); cases h; exact ⟨[], .refl _⟩
  | step h h2 h3 h4 ih =>
    rintro (h5 | rfl)
    · rcases List.mem_cons.1 h5 with rfl | h6
      · exact ⟨_, .step h h2 h3 h4⟩
      · exact ih (.inl h6)
    · exact ih (.inr rfl)
theorem way_of {next : Int → List Int} {c x : Int} (h : Rch next c x) : ∃ l, Way next c l x := by
  induction h with
  | refl c => exact ⟨[], .refl c⟩
  | @step c d x h _ ih =>
    obtain ⟨l, hl⟩ := ih
    by_cases h5 : c ∈ l ∨ c = x
    · exact way_cut hl h5
    · exact ⟨c :: l, .step h hl (fun h => h5 (.inl h)) (fun h => h5 (.inr h))⟩
theorem ask_way {T : List Int} {next : Int → List Int} {c x : Int} {l : List Int} (h : Way next c l x) (hx : x ∈ T) : ∀ asked : List Int, (∀ y ∈ l, y ∉ asked) → Ask T next asked c := by
  induction h with
  | refl => exact fun _ _ => .hit hx
  | @step c d x l h h2 h3 h4 ih =>
    intro asked ha
    refine .step (ha c (by simp)) h (ih hx _ fun y hy hm => ?_)
    rcases List.mem_append.1 hm with h5 | h5
    · exact ha y (List.mem_cons_of_mem _ hy) h5
    · rw [List.mem_singleton.1 h5] at hy; exact h3 hy
theorem ask_iff {T : List Int} {next : Int → List Int} {c : Int} : Ask T next [] c ↔ ∃ y ∈ T, Rch next c y := by
  constructor
  · exact Ask.sound
  · rintro ⟨y, hy, h⟩
    obtain ⟨l, hl⟩ := way_of h
    exact ask_way hl hy [] (by simp)
theorem isSub_ask {b : List (List Int)} {r : List (Int × Int)} (hV : VRegs b r) {a c : Int} (a0 : 0 ≤ a) (a1 : a < b.length) (c0 : 0 ≤ c) (c1 : c < b.length) : Ask (abvR b a) (dnM b r) [] c ↔ isSubM b r a c := by
  rw [ask_iff]
  have hab := sup_above hV a0 a1
  have hN := hV.none
  constructor
  · rintro ⟨y, hy, h⟩
    refine ⟨⟨hV, fun x hx => ?_⟩, ?_⟩
    · rcases List.mem_cons.1 hx with rfl | hx
      · omega
      · rw [List.mem_singleton.1 hx]; omega
    · rw [← hab, supM_mem hN a0 a1] at hy
      have h2 := met_sub hV a0 a1 (fun p hp => by cases hp) metU_self y hy
      have hyr := (metU_ok hV 13 0 [a] (met_one a0 a1)).2 y h2
      rw [metU_rch hV a0 a1] at h2 ⊢
      exact h2.trans (rch_dn hV h)
  · rintro ⟨_, h⟩
    refine ⟨a, by rw [← hab]; exact sup_self hN a0 a1, ?_⟩
    rw [metU_rch hV a0 a1] at h
    exact rch_up hV a0 a1 h
theorem ask_false {b : List (List Int)} {r : List (Int × Int)} (hV : VRegs b r) {T asked : List Int} {c : Int} (c0 : 0 ≤ c) (h1 : c ∉ T) (hr : ∀ j, j < r.length → (r.getD j (0, 0)).2 = c → ¬ Ask T (dnM b r) (asked ++ [c]) (r.getD j (0, 0)).1)
    (hb : ∀ j : Int, c < j → j < b.length → c ∈ b.getD j.toNat [] → ¬ Ask T (dnM b r) (asked ++ [c]) j) : ¬ Ask T (dnM b r) asked c := by
  intro h
  cases h with
  | hit h => exact h1 h
  | step h2 h3 h4 =>
    rename_i y
    have hy := (dnM_mem hV).1 h3
    unfold upM at hy
    rcases List.mem_append.1 hy.2 with h5 | h5
    · have := hV.1.bd' _ _ h5
      exact hb y (by omega) hy.1.2 h5 h4
    · obtain ⟨p, hp, e⟩ := List.mem_map.1 h5
      obtain ⟨hp1, hp2⟩ := List.mem_filter.1 hp
      obtain ⟨j, hj, e2⟩ := List.getElem_of_mem hp1
      have e3 : r.getD j (0, 0) = p := by rw [List.getD, List.getElem?_eq_getElem hj]; exact e2
      refine hr j hj (by rw [e3]; exact e) ?_
      rw [e3, of_decide_eq_true hp2]; exact h4
theorem ask_reg {b : List (List Int)} {r : List (Int × Int)} (hV : VRegs b r) {T asked : List Int} {c : Int} (h1 : c ∉ asked) {j : Nat} (hj : j < r.length) (e : (r.getD j (0, 0)).2 = c) (h : Ask T (dnM b r) (asked ++ [c]) (r.getD j (0, 0)).1) : Ask T (dnM b r) asked c := by
  refine .step h1 ?_ h
  unfold dnM dn1
  exact List.mem_append_left _ (List.mem_map.2 ⟨_, List.mem_filter.2 ⟨getD_mem hj (0, 0), by simpa using e⟩, rfl⟩)
theorem ask_base {b : List (List Int)} {r : List (Int × Int)} (hV : VRegs b r) {T asked : List Int} {c j : Int} (h1 : c ∉ asked) (j0 : 0 ≤ j) (j1 : j < b.length) (e : c ∈ b.getD j.toNat []) (h : Ask T (dnM b r) (asked ++ [c]) j) : Ask T (dnM b r) asked c :=
  .step h1 ((dnM_mem hV).2 ⟨⟨j0, j1⟩, List.mem_append_left _ e⟩) h
theorem metOK_snoc {n : Nat} {l : List Int} {c : Int} (h : MetOK n l) (hc : c ∉ l) (h0 : 0 ≤ c) (h1 : c < n) : MetOK n (l ++ [c]) := by
  refine ⟨List.nodup_append.2 ⟨h.1, by simp, fun a ha b hb e => hc (by rw [List.mem_singleton.1 hb] at e; rw [← e]; exact ha)⟩, fun y hy => ?_⟩
  rcases List.mem_append.1 hy with h3 | h3
  · exact h.2 y h3
  · rw [List.mem_singleton.1 h3]; exact ⟨h0, h1⟩

theorem above_satI {nl0 : Option Bool} {bases : List (List Int)} {c : Int} (hbases : bases.length < 1000000000) (hlbases : ∀ l ∈ bases, l.length < 1000000000) (hv : VB bases) (h0 : 0 ≤ c) (h1 : c < bases.length) : SatAt Try.prog 90 [.pv false (.sl nl0 1 (bases.map ints)), i64 c] [] (fun res rows => ∃ nl, res = [.ref 0] ∧ rows = [Row.own 3 1 nl true ((abvR bases c).map intP)]) := by
 obtain ⟨n, rfl⟩ := Int.eq_ofNat_of_zero_le h0
 rw [abvR_of hv (by omega)]; exact above_sat hbases hlbases hv (by omega)
set_option maxHeartbeats 4000000 in
theorem asks_step {nl0 nl1 nl4 : Option Bool} {bases : List (List Int)} {regs : List (Int × Int)} {a b : Int} {asked : List Int} (hbases : bases.length < 1000000000) (hlbases : ∀ l ∈ bases, l.length < 1000000000) (hregs : regs.length < 1000000000) (hV : VRegs bases regs) (ha0 : 0 ≤ a) (ha1 : a < bases.length) (hb0 : 0 ≤ b) (hb1 : b < bases.length) (hA : MetOK bases.length asked) (ih : ∀ (nl : Option Bool) (x : Int) (s : List Int), 0 ≤ x → x < bases.length → MetOK bases.length s → s.length = asked.length + 1 → SatAt Try.prog 83 [.pv false (.sl nl0 1 (bases.map ints)), .pv false (.sl nl1 2 (regs.map pairP)), i64 a, i64 x, .pv false (.sl nl 1 ((s).map intP))] [] (fun res rows => res = [bo (decide (Ask (abvR bases a) (dnM bases regs) s x))] ∧ rows = [])) : SatAt Try.prog 83 [.pv false (.sl nl0 1 (bases.map ints)), .pv false (.sl nl1 2 (regs.map pairP)), i64 a, i64 b, .pv false (.sl nl4 1 (asked.map intP))] [] (fun res rows => res = [bo (decide (Ask (abvR bases a) (dnM bases regs) asked b))] ∧ rows = []) := by
  have hal := hA.len
  have hb12 := hV.1.2.1
  have hr8 := hV.2.1
  have hbl : (abvR bases a).length < 1000000000 := abvR_len (by omega)
  refine sat_entry_G (rs := [(10, none)]) Try.func83 rfl rfl (Nat.le_of_ble_eq_true rfl) (Nat.le_of_ble_eq_true rfl) (resTs1 trivial) fun C hC => ?_
  rw [Try.ntmps83]
  replace hC : C.nb = 0 := hC
  refine vc_seq fun K1 hK1 => ?_
  refine vc_region ?_
  refine vo_assign_pv rfl rfl ?_
  refine vo_nil ?_
  refine hK1 _ ?_
  refine vc_seq fun K2 hK2 => ?_
  refine vc_seq fun K3 hK3 => ?_
  refine vc_region ?_
  refine vo_move_pv rfl rfl ?_
  refine vo_move_pv rfl rfl ?_
  refine vo_call [] Try.func90 rfl rfl rfl rfl rfl rfl rfl (above_satI hbases hlbases hV.1 ha0 ha1) ?_
  rintro _ _ ⟨nla, rfl, rfl⟩
  refine ⟨Nat.le_of_ble_eq_true rfl, ⟨rfl, rfl, rfl, rfl⟩, .inl rfl, ?_⟩
  refine vo_stM ?_
  refine vo_expose 0 (by omega) rfl ?_
  refine vo_stM ?_
  refine vo_weaken 15 rfl ?_
  refine vo_stM ?_
  refine vo_move_pv rfl rfl ?_
  refine vo_call0 Try.func91 rfl rfl rfl rfl (placeIn_sat (list := abvR bases a) hbl) ?_
  rintro _ _ ⟨rfl, rfl⟩
  refine ⟨rfl, rfl, .inl rfl, ?_⟩
  refine vo_stM ?_
  refine vo_binI rfl rfl rfl rfl trivial ?_
  refine vo_nil ?_
  refine hK3 _ ?_
  refine vc_cond rfl (fun hc1 => ?_) (fun hc1 => ?_)
  · try simp only [zq0, zq1, zq2, zq3, zq4, zq5, zq6, zq7, zq8, zq9, zqa, zqb, zqc, zqd, zqe, zqf] at hc1
    refine vc_seq fun K4 hK4 => ?_
    refine vc_region ?_
    refine vo_assign_pv rfl rfl ?_
    refine vo_nil ?_
    refine hK4 _ ?_
    refine vc_ret ?_
    change retQ _ _ _ _ _
    refine retQ_sel [] (srows := []) (.inr rfl) hC rfl rfl rfl rfl rfl rfl rfl ?_
    refine ⟨(congrArg (fun b => [bo b]) (?_ : _ = _) : [bo _] = [bo _]), rfl⟩
    exact bT (.hit ((findM_mem b _ 0 (by omega)).1 hc1))
  · try simp only [zq0, zq1, zq2, zq3, zq4, zq5, zq6, zq7, zq8, zq9, zqa, zqb, zqc, zqd, zqe, zqf] at hc1
    refine vc_skip ?_
    refine hK2 _ ?_
    refine vc_seq fun K5 hK5 => ?_
    refine vc_seq fun K6 hK6 => ?_
    refine vc_region ?_
    refine vo_move_pv rfl rfl ?_
    refine vo_move_pv rfl rfl ?_
    refine vo_call0 Try.func91 rfl rfl rfl rfl (placeIn_sat (list := asked) (by omega)) ?_
    rintro _ _ ⟨rfl, rfl⟩
    refine ⟨rfl, rfl, .inl rfl, ?_⟩
    refine vo_stM ?_
    refine vo_binI rfl rfl rfl rfl trivial ?_
    refine vo_nil ?_
    refine hK6 _ ?_
    refine vc_cond rfl (fun hc2 => ?_) (fun hc2 => ?_)
    · try simp only [zq0, zq1, zq2, zq3, zq4, zq5, zq6, zq7, zq8, zq9, zqa, zqb, zqc, zqd, zqe, zqf] at hc2
      refine vc_seq fun K7 hK7 => ?_
      refine vc_region ?_
      refine vo_assign_pv rfl rfl ?_
      refine vo_nil ?_
      refine hK7 _ ?_
      refine vc_ret ?_
      change retQ _ _ _ _ _
      refine retQ_sel [] (srows := []) (.inr rfl) hC rfl rfl rfl rfl rfl rfl rfl ?_
      refine ⟨(congrArg (fun b => [bo b]) (?_ : _ = _) : [bo _] = [bo _]), rfl⟩
      exact bF fun h => by
        cases h with
        | hit h => exact absurd ((findM_mem b _ 0 (by omega)).2 h) (by omega)
        | step h1 h2 h3 => exact h1 ((findM_mem b asked 0 (by omega)).1 hc2)
    · try simp only [zq0, zq1, zq2, zq3, zq4, zq5, zq6, zq7, zq8, zq9, zqa, zqb, zqc, zqd, zqe, zqf] at hc2
      have hbn : b ∉ asked := fun h => by have := (findM_mem b asked 0 (by omega)).2 h; omega
      have hbt : b ∉ abvR bases a := fun h => by have := (findM_mem b (abvR bases a) 0 (by omega)).2 h; omega
      have hS := metOK_snoc hA hbn hb0 hb1
      refine vc_skip ?_
      refine hK5 _ ?_
      refine vc_seq fun K8 hK8 => ?_
      refine vc_region ?_
      refine vo_move_pv rfl rfl ?_
      refine vo_call [] Try.func97 rfl rfl rfl rfl rfl rfl rfl (copyInts_sat (list := asked) (by omega)) ?_
      rintro _ _ ⟨nlc, rfl, rfl⟩
      refine ⟨Nat.le_of_ble_eq_true rfl, ⟨rfl, rfl, rfl, rfl⟩, .inl rfl, ?_⟩
      refine vo_stM ?_
      refine vo_move_pv rfl rfl ?_
      refine vo_buildSlice E24 rfl rfl rfl rfl rfl ?_
      refine vo_stM ?_
      refine vo_append E24 rfl (by omega) rfl rfl rfl sd sd ?_
      refine vo_stM ?_
      try simp only [app_ints, app_intss, app_bools]
      refine vo_assign_ref rfl rfl ?_
      refine vo_expose 1 (by omega) rfl ?_
      refine vo_stM ?_
      refine vo_weaken 4 rfl ?_
      refine vo_stM ?_
      refine vo_nil ?_
      refine hK8 _ ?_
      refine vc_seq fun K9 hK9 => ?_
      refine vc_seq fun K10 hK10 => ?_
      refine vc_region ?_
      refine vo_assign_pv rfl rfl ?_
      refine vo_nil ?_
      refine hK10 _ ?_
      refine vc_block ?_
      refine vc_stM ?_
      refine vc_loopE [0, 1, 2, 3, 4] [11] [] _ _ (fun mz vs rs => ∃ (k : Nat), mz = regs.length - k ∧ (k ≤ regs.length) ∧ (∀ j, j < k → (regs.getD j (0, 0)).2 = b → ¬ Ask (abvR bases a) (dnM bases regs) (asked ++ [b]) (regs.getD j (0, 0)).1) ∧ vs = [i64 k] ∧ rs = []) (regs.length) rfl rfl (le_len hC rfl) ⟨rfl, rfl, rfl⟩ rfl ⟨0, rfl, (Nat.zero_le _), (fun j hj => by omega), rfl, rfl⟩ ?_
      rintro mz vs rs - - ⟨k, rfl, hk, hf, rfl, rfl⟩
      refine vc_stM ?_
      refine vc_seq fun K11 hK11 => ?_
      refine vc_seq fun K12 hK12 => ?_
      refine vc_region ?_
      refine vo_move_pv rfl rfl ?_
      refine vo_move_pv rfl rfl ?_
      refine vo_len_pv rfl rfl Try.underlying43 ?_
      refine vo_binI rfl rfl rfl rfl trivial ?_
      refine vo_nil ?_
      refine hK12 _ ?_
      refine vc_cond rfl (fun hc3 => ?_) (fun hc3 => ?_)
      · try simp only [zq0, zq1, zq2, zq3, zq4, zq5, zq6, zq7, zq8, zq9, zqa, zqb, zqc, zqd, zqe, zqf] at hc3
        have hk9 := hV.2.2 _ (getD_mem (show k < regs.length by omega) (0, 0))
        unfold okReg at hk9
        have hkr : 0 ≤ (regs.getD k (0, 0)).1 ∧ (regs.getD k (0, 0)).1 < bases.length := ⟨hk9.1.1, by omega⟩
        refine vc_skip ?_
        refine hK11 _ ?_
        refine vc_seq fun K13 hK13 => ?_
        refine vc_block ?_
        refine vc_seq fun K14 hK14 => ?_
        refine vc_region ?_
        refine vo_move_pv rfl rfl ?_
        refine vo_move_pv rfl rfl ?_
        refine vo_index_pv (.agg [(.int .i64 0), (.int .i64 0)]) rfl rfl rfl E43.und inf85 sz85 sd sd ?_
        simp only [Int.toNat_natCast, Int.toNat_zero, getD_ints, getD_intss, getD_bools, getD_bytes, PV.cells, getD_pairs]
        refine vo_fieldAddr_adr rfl rfl Try.underlying85 rfl inf3 (by rw [sz3]; decide) ?_
        refine vo_load_adr rfl rfl Try.underlying3 rfl ?_
        refine vo_move_pv rfl rfl ?_
        refine vo_binI rfl rfl rfl rfl trivial ?_
        refine vo_move_pv rfl rfl ?_
        refine vo_split 41 rfl (fun hg4 => ?_) (fun hg4 => ?_)
        · try simp only [zq0, zq1, zq2, zq3, zq4, zq5, zq6, zq7, zq8, zq9, zqa, zqb, zqc, zqd, zqe, zqf] at hg4
          refine vo_guard_on rfl rfl rfl ?_
          refine vo_move_pv rfl rfl ?_
          refine vo_guard_on rfl rfl rfl ?_
          refine vo_move_pv rfl rfl ?_
          refine vo_guard_on rfl rfl rfl ?_
          refine vo_move_pv rfl rfl ?_
          refine vo_guard_on rfl rfl rfl ?_
          refine vo_move_pv rfl rfl ?_
          refine vo_guard_on rfl rfl rfl ?_
          refine vo_move_pv rfl rfl ?_
          refine vo_guard_on rfl rfl rfl ?_
          refine vo_index_pv (.agg [(.int .i64 0), (.int .i64 0)]) rfl rfl rfl E43.und inf85 sz85 sd sd ?_
          simp only [Int.toNat_natCast, Int.toNat_zero, getD_ints, getD_intss, getD_bools, getD_bytes, PV.cells, getD_pairs]
          refine vo_guard_on rfl rfl rfl ?_
          refine vo_fieldAddr_adr rfl rfl Try.underlying85 rfl inf3 (by rw [sz3]; decide) ?_
          refine vo_guard_on rfl rfl rfl ?_
          refine vo_load_adr rfl rfl Try.underlying3 rfl ?_
          refine vo_guard_on rfl rfl rfl ?_
          refine vo_move_pv rfl rfl ?_
          refine vo_guard_on rfl rfl rfl ?_
          refine vo_call0 Try.func83 rfl rfl rfl rfl (ih _ _ (asked ++ [b]) hkr.1 hkr.2 hS (by simp)) ?_
          rintro _ _ ⟨rfl, rfl⟩
          refine ⟨rfl, rfl, .inl rfl, ?_⟩
          refine vo_stM ?_
          refine vo_pick_t rfl rfl ?_
          refine vo_nil ?_
          refine hK14 _ ?_
          refine vc_cond rfl (fun hc5 => ?_) (fun hc5 => ?_)
          · try simp only [zq0, zq1, zq2, zq3, zq4, zq5, zq6, zq7, zq8, zq9, zqa, zqb, zqc, zqd, zqe, zqf] at hc5
            refine vc_seq fun K15 hK15 => ?_
            refine vc_region ?_
            refine vo_assign_pv rfl rfl ?_
            refine vo_nil ?_
            refine hK15 _ ?_
            refine vc_ret ?_
            change retQ _ _ _ _ _
            refine retQ_sel [] (srows := []) (.inr rfl) hC rfl rfl rfl rfl rfl rfl rfl ?_
            refine ⟨(congrArg (fun b => [bo b]) (?_ : _ = _) : [bo _] = [bo _]), rfl⟩
            exact bT (ask_reg hV hbn (show k < regs.length by omega) (by assumption) (by assumption))
          · try simp only [zq0, zq1, zq2, zq3, zq4, zq5, zq6, zq7, zq8, zq9, zqa, zqb, zqc, zqd, zqe, zqf] at hc5
            refine vc_skip ?_
            refine hK13 _ ?_
            refine vc_region ?_
            refine vo_move_pv rfl rfl ?_
            refine vo_binI rfl rfl rfl rfl sd ?_
            refine vo_assign_pv rfl rfl ?_
            refine vo_nil ?_
            change againE _ _ _ _ _ _ _ _ _ _
            refine againE_mk rfl rfl rfl rfl rfl rfl ⟨_, ?_, k + 1, rfl, ?_, ?_, rfl, rfl⟩
            · omega
            · omega
            · intro j hj he
              rcases Nat.lt_or_ge j k with h9 | h9
              · exact hf j h9 he
              · rw [show j = k by omega] at he ⊢
                first | assumption | exact absurd he (by assumption)
        · try simp only [zq0, zq1, zq2, zq3, zq4, zq5, zq6, zq7, zq8, zq9, zqa, zqb, zqc, zqd, zqe, zqf] at hg4
          refine vo_guard_off rfl rfl rfl rfl rfl ?_
          refine vo_guard_off rfl rfl rfl rfl rfl ?_
          refine vo_guard_off rfl rfl rfl rfl rfl ?_
          refine vo_guard_off rfl rfl rfl rfl rfl ?_
          refine vo_guard_off rfl rfl rfl rfl rfl ?_
          refine vo_guard_off rfl rfl rfl rfl rfl ?_
          refine vo_guard_off rfl rfl rfl rfl rfl ?_
          refine vo_guard_off rfl rfl rfl rfl rfl ?_
          refine vo_guard_off rfl rfl rfl rfl rfl ?_
          refine vo_guard_off rfl rfl rfl rfl rfl ?_
          refine vo_pick_f rfl rfl ?_
          refine vo_nil ?_
          refine hK14 _ ?_
          refine vc_cond_f rfl ?_
          refine vc_skip ?_
          refine hK13 _ ?_
          refine vc_region ?_
          refine vo_move_pv rfl rfl ?_
          refine vo_binI rfl rfl rfl rfl sd ?_
          refine vo_assign_pv rfl rfl ?_
          refine vo_nil ?_
          change againE _ _ _ _ _ _ _ _ _ _
          refine againE_mk rfl rfl rfl rfl rfl rfl ⟨_, ?_, k + 1, rfl, ?_, ?_, rfl, rfl⟩
          · omega
          · omega
          · intro j hj he
            rcases Nat.lt_or_ge j k with h9 | h9
            · exact hf j h9 he
            · rw [show j = k by omega] at he ⊢
              first | assumption | exact absurd he (by assumption)
      · try simp only [zq0, zq1, zq2, zq3, zq4, zq5, zq6, zq7, zq8, zq9, zqa, zqb, zqc, zqd, zqe, zqf] at hc3
        refine vc_exit ?_
        refine hK9 _ ?_
        refine vc_seq fun K16 hK16 => ?_
        refine vc_seq fun K17 hK17 => ?_
        refine vc_region ?_
        refine vo_move_pv rfl rfl ?_
        refine vo_binI rfl rfl rfl rfl sd ?_
        refine vo_assign_pv rfl rfl ?_
        refine vo_nil ?_
        refine hK17 _ ?_
        refine vc_block ?_
        refine vc_stM ?_
        refine vc_loopE [0, 1, 2, 3, 4] [12] [] _ _ (fun mz vs rs => ∃ (y : Int), mz = ((bases.length : Int) - y).toNat ∧ ((b + 1 ≤ y ∧ y ≤ bases.length)) ∧ (∀ j : Int, b < j → j < y → b ∈ bases.getD j.toNat [] → ¬ Ask (abvR bases a) (dnM bases regs) (asked ++ [b]) j) ∧ vs = [i64 y] ∧ rs = []) (((bases.length : Int) - (b + 1)).toNat) rfl rfl (le_len hC rfl) ⟨rfl, rfl, rfl⟩ rfl ⟨b + 1, rfl, (by omega), (fun j h1 h2 => by omega), rfl, rfl⟩ ?_
        rintro mz vs rs - - ⟨y, rfl, hy, hg, rfl, rfl⟩
        refine vc_stM ?_
        refine vc_seq fun K18 hK18 => ?_
        refine vc_seq fun K19 hK19 => ?_
        refine vc_region ?_
        refine vo_move_pv rfl rfl ?_
        refine vo_move_pv rfl rfl ?_
        refine vo_len_pv rfl rfl Try.underlying23 ?_
        refine vo_binI rfl rfl rfl rfl trivial ?_
        refine vo_nil ?_
        refine hK19 _ ?_
        refine vc_cond rfl (fun hc6 => ?_) (fun hc6 => ?_)
        · try simp only [zq0, zq1, zq2, zq3, zq4, zq5, zq6, zq7, zq8, zq9, zqa, zqb, zqc, zqd, zqe, zqf] at hc6
          refine vc_skip ?_
          refine hK18 _ ?_
          refine vc_seq fun K20 hK20 => ?_
          refine vc_block ?_
          refine vc_seq fun K21 hK21 => ?_
          refine vc_region ?_
          refine vo_move_pv rfl rfl ?_
          refine vo_move_pv rfl rfl ?_
          refine vo_index_pv (.sl none 1 []) rfl rfl rfl E23.und inf24 sz24 sd sd ?_
          simp only [Int.toNat_natCast, Int.toNat_zero, getD_ints, getD_intss, getD_bools, getD_bytes, PV.cells, getD_pairs]
          refine vo_load_adr rfl rfl Try.underlying24 rfl ?_
          refine vo_move_pv rfl rfl ?_
          refine vo_call0 Try.func91 rfl rfl rfl rfl (placeIn_sat (list := bases.getD y.toNat []) (hlbases _ (getD_mem (show y.toNat < bases.length by omega) []))) ?_
          rintro _ _ ⟨rfl, rfl⟩
          refine ⟨rfl, rfl, .inl rfl, ?_⟩
          refine vo_stM ?_
          refine vo_binI rfl rfl rfl rfl trivial ?_
          refine vo_move_pv rfl rfl ?_
          refine vo_split 68 rfl (fun hg7 => ?_) (fun hg7 => ?_)
          · try simp only [zq0, zq1, zq2, zq3, zq4, zq5, zq6, zq7, zq8, zq9, zqa, zqb, zqc, zqd, zqe, zqf] at hg7
            refine vo_guard_on rfl rfl rfl ?_
            refine vo_move_pv rfl rfl ?_
            refine vo_guard_on rfl rfl rfl ?_
            refine vo_move_pv rfl rfl ?_
            refine vo_guard_on rfl rfl rfl ?_
            refine vo_move_pv rfl rfl ?_
            refine vo_guard_on rfl rfl rfl ?_
            refine vo_move_pv rfl rfl ?_
            refine vo_guard_on rfl rfl rfl ?_
            refine vo_move_pv rfl rfl ?_
            refine vo_guard_on rfl rfl rfl ?_
            refine vo_call0 Try.func83 rfl rfl rfl rfl (ih _ y (asked ++ [b]) (by omega) (by omega) hS (by simp)) ?_
            rintro _ _ ⟨rfl, rfl⟩
            refine ⟨rfl, rfl, .inl rfl, ?_⟩
            refine vo_stM ?_
            refine vo_pick_t rfl rfl ?_
            refine vo_nil ?_
            refine hK21 _ ?_
            refine vc_cond rfl (fun hc8 => ?_) (fun hc8 => ?_)
            · try simp only [zq0, zq1, zq2, zq3, zq4, zq5, zq6, zq7, zq8, zq9, zqa, zqb, zqc, zqd, zqe, zqf] at hc8
              refine vc_seq fun K22 hK22 => ?_
              refine vc_region ?_
              refine vo_assign_pv rfl rfl ?_
              refine vo_nil ?_
              refine hK22 _ ?_
              refine vc_ret ?_
              change retQ _ _ _ _ _
              refine retQ_sel [] (srows := []) (.inr rfl) hC rfl rfl rfl rfl rfl rfl rfl ?_
              refine ⟨(congrArg (fun b => [bo b]) (?_ : _ = _) : [bo _] = [bo _]), rfl⟩
              exact bT (ask_base hV hbn (show 0 ≤ y by omega) (by omega) ((findM_mem b _ 0 (by omega)).1 (by assumption)) (by assumption))
            · try simp only [zq0, zq1, zq2, zq3, zq4, zq5, zq6, zq7, zq8, zq9, zqa, zqb, zqc, zqd, zqe, zqf] at hc8
              refine vc_skip ?_
              refine hK20 _ ?_
              refine vc_region ?_
              refine vo_move_pv rfl rfl ?_
              refine vo_binI rfl rfl rfl rfl sd ?_
              refine vo_assign_pv rfl rfl ?_
              refine vo_nil ?_
              change againE _ _ _ _ _ _ _ _ _ _
              refine againE_mk rfl rfl rfl rfl rfl rfl ⟨_, ?_, y + 1, rfl, ?_, ?_, rfl, rfl⟩
              · omega
              · omega
              · intro j h7 h8 he
                rcases Int.lt_or_le j y with h9 | h9
                · exact hg j h7 h9 he
                · have e9 : j = y := by omega
                  subst e9
                  first | assumption | (have := (findM_mem b _ 0 (by omega)).2 he; omega)
          · try simp only [zq0, zq1, zq2, zq3, zq4, zq5, zq6, zq7, zq8, zq9, zqa, zqb, zqc, zqd, zqe, zqf] at hg7
            refine vo_guard_off rfl rfl rfl rfl rfl ?_
            refine vo_guard_off rfl rfl rfl rfl rfl ?_
            refine vo_guard_off rfl rfl rfl rfl rfl ?_
            refine vo_guard_off rfl rfl rfl rfl rfl ?_
            refine vo_guard_off rfl rfl rfl rfl rfl ?_
            refine vo_guard_off rfl rfl rfl rfl rfl ?_
            refine vo_pick_f rfl rfl ?_
            refine vo_nil ?_
            refine hK21 _ ?_
            refine vc_cond_f rfl ?_
            refine vc_skip ?_
            refine hK20 _ ?_
            refine vc_region ?_
            refine vo_move_pv rfl rfl ?_
            refine vo_binI rfl rfl rfl rfl sd ?_
            refine vo_assign_pv rfl rfl ?_
            refine vo_nil ?_
            change againE _ _ _ _ _ _ _ _ _ _
            refine againE_mk rfl rfl rfl rfl rfl rfl ⟨_, ?_, y + 1, rfl, ?_, ?_, rfl, rfl⟩
            · omega
            · omega
            · intro j h7 h8 he
              rcases Int.lt_or_le j y with h9 | h9
              · exact hg j h7 h9 he
              · have e9 : j = y := by omega
                subst e9
                first | assumption | (have := (findM_mem b _ 0 (by omega)).2 he; omega)
        · try simp only [zq0, zq1, zq2, zq3, zq4, zq5, zq6, zq7, zq8, zq9, zqa, zqb, zqc, zqd, zqe, zqf] at hc6
          refine vc_exit ?_
          refine hK16 _ ?_
          refine vc_seq fun K23 hK23 => ?_
          refine vc_region ?_
          refine vo_assign_pv rfl rfl ?_
          refine vo_nil ?_
          refine hK23 _ ?_
          refine vc_ret ?_
          change retQ _ _ _ _ _
          refine retQ_sel [] (srows := []) (.inr rfl) hC rfl rfl rfl rfl rfl rfl rfl ?_
          refine ⟨(congrArg (fun b => [bo b]) (?_ : _ = _) : [bo _] = [bo _]), rfl⟩
          exact bF (ask_false hV hb0 hbt (fun j hj he => hf j (by omega) he) (fun j h7 h8 he => hg j h7 (by omega) he))

end Go.Vl

namespace Go.Vl
set_option linter.unusedVariables false
set_option linter.unusedSimpArgs false
open Go.Proofs

theorem asks_sat {nl0 nl1 : Option Bool} {bases : List (List Int)} {regs : List (Int × Int)} {a : Int} (hbases : bases.length < 1000000000) (hlbases : ∀ l ∈ bases, l.length < 1000000000) (hregs : regs.length < 1000000000) (hV : VRegs bases regs) (ha0 : 0 ≤ a) (ha1 : a < bases.length) :
  ∀ (m : Nat) (nl4 : Option Bool) (asked : List Int) (b : Int), 0 ≤ b → b < bases.length → MetOK bases.length asked → bases.length - asked.length ≤ m → SatAt Try.prog 83 [.pv false (.sl nl0 1 (bases.map ints)), .pv false (.sl nl1 2 (regs.map pairP)), i64 a, i64 b, .pv false (.sl nl4 1 ((asked).map intP))] [] (fun res rows => res = [bo (decide (Ask (abvR bases a) (dnM bases regs) asked b))] ∧ rows = []) := by
 intro m
 induction m with
 | zero =>
  intro nl4 asked b hb0 hb1 hA hm
  exact asks_step hbases hlbases hregs hV ha0 ha1 hb0 hb1 hA (fun nl x s _ _ hs hl => absurd hs.len (by omega))
 | succ m ih =>
  intro nl4 asked b hb0 hb1 hA hm
  exact asks_step hbases hlbases hregs hV ha0 ha1 hb0 hb1 hA (fun nl x s h0 h1 hs hl => ih nl s x h0 h1 hs (by omega))
theorem isSub_sup {b : List (List Int)} {r : List (Int × Int)} (hV : VRegs b r) {a c : Int} (a0 : 0 ≤ a) (a1 : a < b.length) (c0 : 0 ≤ c) (c1 : c < b.length) : isSubM b r a c ↔ c ∈ supM b r a := by
  rw [supM_mem hV a0 a1]
  exact ⟨fun h => h.2, fun h => ⟨⟨hV, fun x hx => by rcases List.mem_cons.1 hx with rfl | hx; omega; rw [List.mem_singleton.1 hx]; omega⟩, h⟩⟩

theorem specIsSub_sat {nl0 : Option Bool} {bases : List (List Int)} {nl1 : Option Bool} {regs : List (Int × Int)} {a : Int} {b : Int} (hbases : bases.length < 1000000000) (hlbases : ∀ l ∈ bases, l.length < 1000000000) (hregs : regs.length < 1000000000)  : SatAt Try.prog 44 [.pv false (.sl nl0 1 (bases.map ints)), .pv false (.sl nl1 2 (regs.map pairP)), i64 a, i64 b] [] (fun res rows => res = [bo (decide (isSubM bases regs a b))] ∧ rows = []) := by
 refine sat_entry_G (rs := [(8, none)]) Try.func44 rfl rfl (Nat.le_of_ble_eq_true rfl) (Nat.le_of_ble_eq_true rfl) (resTs1 trivial) fun C hC => ?_
 rw [Try.ntmps44]
 replace hC : C.nb = 0 := hC
 refine vc_seq fun K1 hK1 => ?_
 refine vc_region ?_
 refine vo_assign_pv rfl rfl ?_
 refine vo_nil ?_
 refine hK1 _ ?_
 refine vc_seq fun K2 hK2 => ?_
 refine vc_region ?_
 refine vo_move_pv rfl rfl ?_
 refine vo_move_pv rfl rfl ?_
 refine vo_call0 Try.func75 rfl rfl rfl rfl (specValidRegs0_sat hbases hlbases hregs) ?_
 rintro _ _ ⟨rfl, rfl⟩
 refine ⟨rfl, rfl, .inl rfl, ?_⟩
 refine vo_stM ?_
 refine vo_move_pv rfl rfl ?_
 refine vo_split 12 rfl (fun hg1 => ?_) (fun hg1 => ?_)
 ·try simp only [zq0, zq1, zq2, zq3, zq4, zq5, zq6, zq7, zq8, zq9, zqa, zqb, zqc, zqd, zqe, zqf] at hg1
  refine vo_guard_on rfl rfl rfl ?_
  refine vo_move_pv rfl rfl ?_
  refine vo_guard_on rfl rfl rfl ?_
  refine vo_move_pv rfl rfl ?_
  refine vo_guard_on rfl rfl rfl ?_
  refine vo_len_pv rfl rfl Try.underlying23 ?_
  refine vo_guard_on rfl rfl rfl ?_
  refine vo_binI rfl rfl rfl rfl sd ?_
  refine vo_guard_on rfl rfl rfl ?_
  refine vo_call0 Try.func58 rfl rfl rfl rfl inRange_sat ?_
  rintro _ _ ⟨rfl, rfl⟩
  refine ⟨rfl, rfl, .inl rfl, ?_⟩
  refine vo_stM ?_
  refine vo_pick_t rfl rfl ?_
  refine vo_move_pv rfl rfl ?_
  refine vo_split 19 rfl (fun hg2 => ?_) (fun hg2 => ?_)
  ·try simp only [zq0, zq1, zq2, zq3, zq4, zq5, zq6, zq7, zq8, zq9, zqa, zqb, zqc, zqd, zqe, zqf] at hg2
   refine vo_guard_on rfl rfl rfl ?_
   refine vo_move_pv rfl rfl ?_
   refine vo_guard_on rfl rfl rfl ?_
   refine vo_move_pv rfl rfl ?_
   refine vo_guard_on rfl rfl rfl ?_
   refine vo_len_pv rfl rfl Try.underlying23 ?_
   refine vo_guard_on rfl rfl rfl ?_
   refine vo_binI rfl rfl rfl rfl sd ?_
   refine vo_guard_on rfl rfl rfl ?_
   refine vo_call0 Try.func58 rfl rfl rfl rfl inRange_sat ?_
   rintro _ _ ⟨rfl, rfl⟩
   refine ⟨rfl, rfl, .inl rfl, ?_⟩
   refine vo_stM ?_
   refine vo_pick_t rfl rfl ?_
   refine vo_move_pv rfl rfl ?_
   refine vo_split 26 rfl (fun hg3 => ?_) (fun hg3 => ?_)
   ·try simp only [zq0, zq1, zq2, zq3, zq4, zq5, zq6, zq7, zq8, zq9, zqa, zqb, zqc, zqd, zqe, zqf] at hg3
    refine vo_guard_on rfl rfl rfl ?_
    refine vo_move_pv rfl rfl ?_
    refine vo_guard_on rfl rfl rfl ?_
    refine vo_move_pv rfl rfl ?_
    refine vo_guard_on rfl rfl rfl ?_
    refine vo_move_pv rfl rfl ?_
    refine vo_guard_on rfl rfl rfl ?_
    refine vo_move_pv rfl rfl ?_
    refine vo_guard_on rfl rfl rfl ?_
    refine vo_buildSlice E24 rfl rfl rfl rfl rfl ?_
    refine vo_stM ?_
    refine vo_guard_on rfl rfl rfl ?_
    refine vo_expose 0 (by omega) rfl ?_
    refine vo_stM ?_
    refine vo_weaken 31 rfl ?_
    refine vo_stM ?_
    refine vo_call0 Try.func83 rfl rfl rfl rfl (asks_sat hbases hlbases hregs (by assumption) (by omega) (by omega) 12 _ [] b (by omega) (by omega) ⟨by simp, by simp⟩ (by have := (by assumption : VRegs bases regs).1.2.1; omega)) ?_
    rintro _ _ ⟨rfl, rfl⟩
    refine ⟨rfl, rfl, .inl rfl, ?_⟩
    refine vo_stM ?_
    refine vo_pick_t rfl rfl ?_
    refine vo_assign_pv rfl rfl ?_
    refine vo_nil ?_
    refine hK2 _ ?_
    refine vc_ret ?_
    change retQ _ _ _ _ _
    refine retQ_sel [] (srows := []) (.inr rfl) hC rfl rfl rfl rfl rfl rfl rfl ?_
    refine ⟨(congrArg (fun b => [bo b]) (?_ : _ = _) : [bo _] = [bo _]), rfl⟩
    first
     | exact decide_eq_decide.2 (isSub_ask (by assumption) (by omega) (by omega) (by omega) (by omega))
     | exact bF fun h => absurd h.1.1 (by assumption)
     | (exact bF fun h => (by have h2 := h.1.2 a (by simp); have h3 := h.1.2 b (by simp); omega))
   ·try simp only [zq0, zq1, zq2, zq3, zq4, zq5, zq6, zq7, zq8, zq9, zqa, zqb, zqc, zqd, zqe, zqf] at hg3
    refine vo_guard_off rfl rfl rfl rfl rfl ?_
    refine vo_guard_off rfl rfl rfl rfl rfl ?_
    refine vo_guard_off rfl rfl rfl rfl rfl ?_
    refine vo_guard_off rfl rfl rfl rfl rfl ?_
    refine vo_guard_off rfl rfl rfl rfl rfl ?_
    refine vo_guard_off rfl rfl rfl rfl rfl ?_
    refine vo_pick_f rfl rfl ?_
    refine vo_assign_pv rfl rfl ?_
    refine vo_nil ?_
    refine hK2 _ ?_
    refine vc_ret ?_
    change retQ _ _ _ _ _
    refine retQ_sel [] (srows := []) (.inr rfl) hC rfl rfl rfl rfl rfl rfl rfl ?_
    refine ⟨(congrArg (fun b => [bo b]) (?_ : _ = _) : [bo _] = [bo _]), rfl⟩
    first
     | exact decide_eq_decide.2 (isSub_ask (by assumption) (by omega) (by omega) (by omega) (by omega))
     | exact bF fun h => absurd h.1.1 (by assumption)
     | (exact bF fun h => (by have h2 := h.1.2 a (by simp); have h3 := h.1.2 b (by simp); omega))
  ·try simp only [zq0, zq1, zq2, zq3, zq4, zq5, zq6, zq7, zq8, zq9, zqa, zqb, zqc, zqd, zqe, zqf] at hg2
   refine vo_guard_off rfl rfl rfl rfl rfl ?_
   refine vo_guard_off rfl rfl rfl rfl rfl ?_
   refine vo_guard_off rfl rfl rfl rfl rfl ?_
   refine vo_guard_off rfl rfl rfl rfl rfl ?_
   refine vo_guard_off rfl rfl rfl rfl rfl ?_
   refine vo_pick_f rfl rfl ?_
   refine vo_move_pv rfl rfl ?_
   refine vo_guard_off rfl rfl rfl rfl rfl ?_
   refine vo_guard_off rfl rfl rfl rfl rfl ?_
   refine vo_guard_off rfl rfl rfl rfl rfl ?_
   refine vo_guard_off rfl rfl rfl rfl rfl ?_
   refine vo_guard_off rfl rfl rfl rfl rfl ?_
   refine vo_guard_off rfl rfl rfl rfl rfl ?_
   refine vo_pick_f rfl rfl ?_
   refine vo_assign_pv rfl rfl ?_
   refine vo_nil ?_
   refine hK2 _ ?_
   refine vc_ret ?_
   change retQ _ _ _ _ _
   refine retQ_sel [] (srows := []) (.inr rfl) hC rfl rfl rfl rfl rfl rfl rfl ?_
   refine ⟨(congrArg (fun b => [bo b]) (?_ : _ = _) : [bo _] = [bo _]), rfl⟩
   first
    | exact decide_eq_decide.2 (isSub_ask (by assumption) (by omega) (by omega) (by omega) (by omega))
    | exact bF fun h => absurd h.1.1 (by assumption)
    | (exact bF fun h => (by have h2 := h.1.2 a (by simp); have h3 := h.1.2 b (by simp); omega))
 ·try simp only [zq0, zq1, zq2, zq3, zq4, zq5, zq6, zq7, zq8, zq9, zqa, zqb, zqc, zqd, zqe, zqf] at hg1
  refine vo_guard_off rfl rfl rfl rfl rfl ?_
  refine vo_guard_off rfl rfl rfl rfl rfl ?_
  refine vo_guard_off rfl rfl rfl rfl rfl ?_
  refine vo_guard_off rfl rfl rfl rfl rfl ?_
  refine vo_guard_off rfl rfl rfl rfl rfl ?_
  refine vo_pick_f rfl rfl ?_
  refine vo_move_pv rfl rfl ?_
  refine vo_guard_off rfl rfl rfl rfl rfl ?_
  refine vo_guard_off rfl rfl rfl rfl rfl ?_
  refine vo_guard_off rfl rfl rfl rfl rfl ?_
  refine vo_guard_off rfl rfl rfl rfl rfl ?_
  refine vo_guard_off rfl rfl rfl rfl rfl ?_
  refine vo_pick_f rfl rfl ?_
  refine vo_move_pv rfl rfl ?_
  refine vo_guard_off rfl rfl rfl rfl rfl ?_
  refine vo_guard_off rfl rfl rfl rfl rfl ?_
  refine vo_guard_off rfl rfl rfl rfl rfl ?_
  refine vo_guard_off rfl rfl rfl rfl rfl ?_
  refine vo_guard_off rfl rfl rfl rfl rfl ?_
  refine vo_guard_off rfl rfl rfl rfl rfl ?_
  refine vo_pick_f rfl rfl ?_
  refine vo_assign_pv rfl rfl ?_
  refine vo_nil ?_
  refine hK2 _ ?_
  refine vc_ret ?_
  change retQ _ _ _ _ _
  refine retQ_sel [] (srows := []) (.inr rfl) hC rfl rfl rfl rfl rfl rfl rfl ?_
  refine ⟨(congrArg (fun b => [bo b]) (?_ : _ = _) : [bo _] = [bo _]), rfl⟩
  first
   | exact decide_eq_decide.2 (isSub_ask (by assumption) (by omega) (by omega) (by omega) (by omega))
   | exact bF fun h => absurd h.1.1 (by assumption)
   | (exact bF fun h => (by have h2 := h.1.2 a (by simp); have h3 := h.1.2 b (by simp); omega))


end Go.Vl

/- Every order, one by one: for statements where an operation that writes may come before a reading one. -/
namespace Go.Vl
set_option linter.unusedVariables false
set_option linter.unusedSimpArgs false
open Go.RowKit
section
variable {late : List Nat} {P : Program} {C : Ctx} {ops : Array Oper} {K : St → Prop} {s s1 : St} {n : Nat} {listed : Array Bool}
end
section
variable {P : Program} {C : Ctx} {s : St} {t : Nat} {ty : TypeId} {pos : String} {af : Array Edge}
end
end Go.Vl

/- Statements whose order of evaluation is open, with calls that write rows lent to the function: what reads others reads the same behind them. -/
namespace Go.Vl
set_option linter.unusedVariables false
set_option linter.unusedSimpArgs false
open Go.RowKit

/-- All that was there is there as it was, but for some blocks. -/
def ExtB (B : Nat → Prop) (w w' : World) : Prop := w.heap.size ≤ w'.heap.size ∧ ∀ k, k < w.heap.size → ¬ B k → w'.heap[k]? = w.heap[k]?
theorem ExtB.refl (B : Nat → Prop) (w : World) : ExtB B w w := ⟨Nat.le_refl _, fun _ _ _ => rfl⟩
theorem ExtB.trans {B : Nat → Prop} {a b c : World} (h : ExtB B a b) (k : ExtB B b c) : ExtB B a c := ⟨Nat.le_trans h.1 k.1, fun i hi hb => (k.2 i (Nat.lt_of_lt_of_le hi h.1) hb).trans (h.2 i hi hb)⟩
theorem ExtB.cell {B : Nat → Prop} {w w' : World} (h : ExtB B w w') {a : Addr} {v : Value} (hb : ¬ B a.block) (hc : w.cell? a = some v) : w'.cell? a = some v := by
  have hlt : a.block < w.heap.size := by
    rcases Nat.lt_or_ge a.block w.heap.size with h | h
    · exact h
    · unfold World.cell? at hc
      rw [Array.getElem?_eq_none h] at hc
      cases hc
  rw [← hc]
  simp [World.cell?, h.2 _ hlt hb]
/-- The blocks of what was lent to the function. -/
def lentB (C : Ctx) (b : Nat) : Prop := ∃ id, id < C.nb ∧ (C.bv id).S b

section
variable {B : Nat → Prop} {P : Program} {ops : Array Oper} {Q : Go.Exit → Act → World → Prop}
def yieldsB (B : Nat → Prop) (P : Program) (ops : Array Oper) (o : Oper) (v : Value) (a : Act) (w : World) : Prop :=
  (Region.wanted o (yielded ops a.tmps) = true ∧ ∀ w', ExtB B w w' → (execOp a.eval o).run P w' = .ok (.value v) w') ∨ (Region.wanted o (yielded ops a.tmps) = false ∧ v = undef)

theorem yieldsB.step {o : Oper} {v : Value} {a a' : Act} {w w' : World} (h : yieldsB B P ops o v a w) (hx : ExtB B w w') (he : execOp a'.eval o = execOp a.eval o)
    (hw : Region.wanted o (yielded ops a'.tmps) = Region.wanted o (yielded ops a.tmps)) : yieldsB B P ops o v a' w' := by
  unfold yieldsB at *
  rw [he, hw]
  exact h.imp (fun h => ⟨h.1, fun w2 h2 => h.2 w2 (hx.trans h2)⟩) id

theorem yieldsB.op {i : Nat} {o : Oper} {v : Value} {a : Act} {w : World} (hi : ops[i]? = some o) (hy : yieldsB B P ops o v a w) {K : Act → World → Prop} (h : K (a.put o.dst v) w) : wpOp P ops Q i K a w := by
  unfold wpOp
  simp only [hi]
  rcases hy with ⟨hw, hv⟩ | ⟨hw, rfl⟩
  · simp only [hw, if_true, Oper.wp, hv w (ExtB.refl B w), Oper.upon]; exact .inl h
  · simp only [hw, Bool.false_eq_true, if_false]; exact h

/-- Whatever order is picked; each step leaves all that was there as it was, or is one of those that come late. -/
def anyLB (B : Nat → Prop) (late : List Nat) (P : Program) (ops : Array Oper) (Q : Go.Exit → Act → World → Prop) : Nat → Array Bool → Act → World → Prop
  | 0, listed, a, w => Region.ready .any ops listed = [] ∧ Q .normal a w
  | n + 1, listed, a, w => (Region.ready .any ops listed = [] → Q .normal a w) ∧
      ∀ i ∈ Region.ready .any ops listed, wpOp P ops Q i (fun a' w' => (ExtB B w w' ∨ late.contains i = true) ∧ anyLB B late P ops Q n (listed.setIfInBounds i true) a' w') a w

end

def LtB (P : Program) (C : Ctx) (s : St) (o : Oper) (sv : SV) : Prop :=
  ∀ m a w, SimM C s m a w → ∃ v, (∀ w', ExtB (lentB C) w w' → (execOp a.eval o).run P w' = .ok (.value v) w') ∧ RS w (Gd C s.rows m w) m s.rows.length sv v
def VLB (late : List Nat) (P : Program) (C : Ctx) (ops : Array Oper) (n : Nat) (listed : Array Bool) (K : St → Prop) (s : St) : Prop := ∀ m a w, SimM C s m a w → anyLB (lentB C) late P ops (post0 C K) n listed a w

section
variable {late : List Nat} {P : Program} {C : Ctx} {ops : Array Oper} {K : St → Prop} {s : St} {n : Nat} {listed : Array Bool}

end
section
variable {late : List Nat} {P : Program} {C : Ctx} {ops : Array Oper} {K : St → Prop} {s s1 : St} {n : Nat} {listed : Array Bool}
def StepB (late : List Nat) (P : Program) (C : Ctx) (ops : Array Oper) (n : Nat) (listed : Array Bool) (K : St → Prop) (s : St) (i : Nat) : Prop :=
  ∀ m a w, SimM C s m a w → wpOp P ops (post0 C K) i (fun a' w' => (ExtB (lentB C) w w' ∨ late.contains i = true) ∧ anyLB (lentB C) late P ops (post0 C K) n (listed.setIfInBounds i true) a' w') a w
end
section
variable {P : Program} {C : Ctx} {s : St} {t : Nat} {ty : TypeId} {pos : String} {af : Array Edge}
end
section
variable {late : List Nat} {P : Program} {C : Ctx} {ops : Array Oper} {K : St → Prop} {s : St} {n : Nat} {listed : Array Bool}
end
end Go.Vl

/- More for such statements: what is taken out of a row; nil cells of rows. -/
namespace Go.Vl
set_option linter.unusedVariables false
set_option linter.unusedSimpArgs false
open Go.RowKit
section
variable {late : List Nat} {P : Program} {C : Ctx} {ops : Array Oper} {K : St → Prop} {s : St} {n : Nat} {listed : Array Bool}
/-- An operation that leaves all memory as it is, or makes new: what is told of it is not known at once. -/
def XtE (P : Program) (C : Ctx) (s : St) (o : Oper) (α : Type) (s1 : α → St) (sv : SV) : Prop :=
  ∀ m a w, SimM C s m a w → ∃ x v w' m', (execOp a.eval o).run P w = .ok (.value v) w' ∧ SimM C (s1 x) m' a w' ∧ RS w' (Gd C (s1 x).rows m' w') m' (s1 x).rows.length sv v ∧ ExtW w w'
end
section
variable {P : Program} {C : Ctx} {Q : Go.Exit → St → Prop} {s : St} {ops : Array Oper} {rest : List Oper} {t : Nat} {ty : TypeId} {pos : String} {af : Array Edge}
end
section
variable {late : List Nat} {P : Program} {C : Ctx} {ops : Array Oper} {K : St → Prop} {s : St} {n : Nat} {listed : Array Bool}
end
end Go.Vl

/- An operation that makes memory, under a guard; 'make' in a statement whose order of evaluation is open. -/
namespace Go.Vl
set_option linter.unusedVariables false
set_option linter.unusedSimpArgs false
open Go.RowKit
section
variable {late : List Nat} {P : Program} {C : Ctx} {ops : Array Oper} {K : St → Prop} {s s1 : St} {n : Nat} {listed : Array Bool}
end
section
variable {P : Program} {C : Ctx} {s : St} {t : Nat} {ty : TypeId} {pos : String} {af : Array Edge}
end
theorem resTs4 {P : Program} {r1 r2 r3 r4 : Nat × Option (Nat × Nat)} (h1 : resT P r1) (h2 : resT P r2) (h3 : resT P r3) (h4 : resT P r4) : ∀ r ∈ [r1, r2, r3, r4], resT P r := by simp [h1, h2, h3, h4]
end Go.Vl

namespace Go.Vl
set_option linter.unusedVariables false
set_option linter.unusedSimpArgs false
open Go.Proofs

theorem DrawIsSub_sat {nl : Option Bool} {c : List (Fin 256)} (hl : c.length < 1000000000) : SatAt Try.prog 42 [.pv false (.sl nl 1 (c.map byteP))] [] (fun res rows => ∃ (B : List (List Int)) (f g : Bool) (l : List (Int × Int)) (z y : Int), (1 ≤ B.length ∧ B.length ≤ 10 ∧ (∀ l ∈ B, l.length ≤ 3) ∧ l.length ≤ 4) ∧ res = [.pv f (.sl (some false) 1 (B.map ints)), .pv g (.sl (some false) 2 (l.map pairP)), i64 z, i64 y] ∧ rows = []) := by
 refine sat_entry_G (rs := [(2, none), (3, none), (4, none), (5, none)]) Try.func42 rfl rfl (Nat.le_of_ble_eq_true rfl) (Nat.le_of_ble_eq_true rfl) (resTs4 trivial trivial trivial trivial) fun C hC => ?_
 rw [Try.ntmps42]
 replace hC : C.nb = 0 := hC
 refine vc_seq fun K1 hK1 => ?_
 refine vc_region ?_
 refine vo_assign_pv rfl rfl ?_
 refine vo_assign_pv rfl rfl ?_
 refine vo_assign_pv rfl rfl ?_
 refine vo_assign_pv rfl rfl ?_
 refine vo_nil ?_
 refine hK1 _ ?_
 refine vc_seq fun K2 hK2 => ?_
 refine vc_region ?_
 refine vo_move_pv rfl rfl ?_
 refine vo_call [] Try.func51 rfl rfl rfl rfl rfl rfl rfl (newReader_sat (by omega)) ?_
 rintro _ _ ⟨nl2, c2, hc, rfl, rfl⟩
 refine ⟨Nat.le_of_ble_eq_true rfl, ⟨rfl, rfl, rfl, rfl⟩, .inl rfl, ?_⟩
 refine vo_stM ?_
 refine vo_assign_ptr rfl rfl ?_
 refine vo_nil ?_
 refine hK2 _ ?_
 refine vc_seq fun K3 hK3 => ?_
 refine vc_region ?_
 refine vo_move_ptr rfl rfl ?_
 refine vo_call [0] Try.func68 rfl rfl rfl rfl rfl rfl rfl (classOfR_sat hc (by omega)) ?_
 rintro _ _ ⟨B, q, f, z, ⟨h1, h2, h3, h4⟩, rfl, rfl⟩
 refine ⟨Nat.le_of_ble_eq_true rfl, ⟨rfl, rfl, rfl, rfl⟩, .inl rfl, ?_⟩
 refine vo_stM ?_
 refine vo_move rfl ?_
 refine vo_stM ?_
 refine vo_extract rfl rfl rfl ?_
 refine vo_extract rfl rfl rfl ?_
 refine vo_assign_ref rfl rfl ?_
 refine vo_assign_pv rfl rfl ?_
 refine vo_nil ?_
 refine hK3 _ ?_
 refine vc_seq fun K4 hK4 => ?_
 refine vc_region ?_
 refine vo_move_ref rfl rfl ?_
 refine vo_move_ptr rfl rfl ?_
 refine vo_move_ref rfl rfl ?_
 refine vo_len_ref rfl rfl rfl Try.underlying23 ?_
 refine vo_call [0] Try.func69 rfl rfl rfl rfl rfl rfl rfl (someRegs_sat hc (by omega)) ?_
 rintro _ _ ⟨l, q2, ⟨hl1, hq2⟩, rfl, rfl⟩
 refine ⟨Nat.le_of_ble_eq_true rfl, ⟨rfl, rfl, rfl, rfl⟩, .inl rfl, ?_⟩
 refine vo_stM ?_
 refine vo_move_pv rfl rfl ?_
 refine vo_move_ptr rfl rfl ?_
 refine vo_move_ptr rfl rfl ?_
 refine vo_move_ref rfl rfl ?_
 refine vo_len_ref rfl rfl rfl Try.underlying23 ?_
 refine vo_call [0] Try.func54 rfl rfl rfl rfl rfl rfl rfl (pick_sat hc (by omega)) ?_
 rintro _ _ ⟨x26, ⟨hx260, hx261⟩, rfl, rfl⟩
 refine ⟨Nat.le_of_ble_eq_true rfl, ⟨rfl, rfl, rfl, rfl⟩, .inl rfl, ?_⟩
 refine vo_stM ?_
 refine vo_move_ptr rfl rfl ?_
 refine vo_move_ref rfl rfl ?_
 refine vo_len_ref rfl rfl rfl Try.underlying23 ?_
 refine vo_call [0] Try.func54 rfl rfl rfl rfl rfl rfl rfl (pick_sat hc (by omega)) ?_
 rintro _ _ ⟨x30, ⟨hx300, hx301⟩, rfl, rfl⟩
 refine ⟨Nat.le_of_ble_eq_true rfl, ⟨rfl, rfl, rfl, rfl⟩, .inl rfl, ?_⟩
 refine vo_stM ?_
 refine vo_buildSlice E24 rfl rfl rfl rfl rfl ?_
 refine vo_stM ?_
 refine vo_expose 3 (by omega) rfl ?_
 refine vo_stM ?_
 refine vo_weaken 31 rfl ?_
 refine vo_stM ?_
 refine vo_call [0] Try.func53 rfl rfl rfl rfl rfl rfl rfl (one_sat (list := [_,_,_,_]) hc (by omega) (by simp) (by simp)) ?_
 rintro _ _ ⟨y32, hy32, rfl, rfl⟩
 refine ⟨Nat.le_of_ble_eq_true rfl, ⟨rfl, rfl, rfl, rfl⟩, .inl rfl, ?_⟩
 refine vo_stM ?_
 refine vo_assign_ref rfl rfl ?_
 refine vo_assign_ref rfl rfl ?_
 refine vo_assign_pv rfl rfl ?_
 refine vo_assign_pv rfl rfl ?_
 refine vo_nil ?_
 refine hK4 _ ?_
 refine vc_expose 1 (by omega) rfl ?_
 refine vc_stM ?_
 refine vc_expose 2 (by omega) rfl ?_
 refine vc_stM ?_
 refine vc_ret ?_
 change retQ _ _ _ _ _
 refine retQ_sel [] (srows := []) (.inr rfl) hC rfl rfl rfl rfl rfl rfl rfl ?_
 exact ⟨B, _, _, l, z, _, ⟨h1, h2, h3, hl1⟩, rfl, rfl⟩

set_option maxHeartbeats 4000000 in
theorem FnIsSub_sat {nl : Option Bool} {code : List (Fin 256)} : SatAt Try.prog 11 [.pv false (.sl nl 1 (code.map byteP))] [] (fun res rows => res = [bo true] ∧ rows = []) := by
  refine sat_entry_G (rs := [(2, none)]) Try.func11 rfl rfl (Nat.le_of_ble_eq_true rfl) (Nat.le_of_ble_eq_true rfl) (resTs1 trivial) fun C hC => ?_
  rw [Try.ntmps11]
  replace hC : C.nb = 0 := hC
  refine vc_seq fun K1 hK1 => ?_
  refine vc_region ?_
  refine vo_assign_pv rfl rfl ?_
  refine vo_nil ?_
  refine hK1 _ ?_
  refine vc_seq fun K2 hK2 => ?_
  refine vc_seq fun K3 hK3 => ?_
  refine vc_region ?_
  refine vo_move_pv rfl rfl ?_
  refine vo_len_pv rfl rfl Try.underlying22 ?_
  refine vo_binI rfl rfl rfl rfl trivial ?_
  refine vo_nil ?_
  refine hK3 _ ?_
  refine vc_cond rfl (fun hc1 => ?_) (fun hc1 => ?_)
  · try simp only [zq0, zq1, zq2, zq3, zq4, zq5, zq6, zq7, zq8, zq9, zqa, zqb, zqc, zqd, zqe, zqf] at hc1
    refine vc_seq fun K4 hK4 => ?_
    refine vc_region ?_
    refine vo_assign_pv rfl rfl ?_
    refine vo_nil ?_
    refine hK4 _ ?_
    refine vc_ret ?_
    change retQ _ _ _ _ _
    refine retQ_sel [] (srows := []) (.inr rfl) hC rfl rfl rfl rfl rfl rfl rfl ?_
    first
      | exact ⟨rfl, rfl⟩
      | (have hV : VRegs B l := by assumption
         have e := isSub_sup (a := z) (c := y) hV (by omega) (by omega) (by omega) (by omega)
         refine ⟨(congrArg (fun b => [bo b]) (?_ : _ = true) : [bo _] = [bo true]), rfl⟩
         simp [e]; done)
      | (exfalso; simp_all; done)
      | (exfalso; omega)
      | (refine ⟨(congrArg (fun b => [bo b]) (?_ : _ = true) : [bo _] = [bo true]), rfl⟩; first | simp_all | (simp; omega))
  · try simp only [zq0, zq1, zq2, zq3, zq4, zq5, zq6, zq7, zq8, zq9, zqa, zqb, zqc, zqd, zqe, zqf] at hc1
    refine vc_skip ?_
    refine hK2 _ ?_
    refine vc_seq fun K5 hK5 => ?_
    refine vc_region ?_
    refine vo_move_pv rfl rfl ?_
    refine vo_call0 Try.func42 rfl rfl rfl rfl (DrawIsSub_sat (by omega)) ?_
    rintro _ _ ⟨B, f, g, l, z, y, ⟨h1, h2, h3, h4⟩, rfl, rfl⟩
    refine ⟨rfl, rfl, .inl rfl, ?_⟩
    refine vo_stM ?_
    have hb9 : ∀ l ∈ B, l.length < 1000000000 := fun l hl => by have := h3 l hl; omega
    have hsl := supM_len (b := B) (r := l) (c := z)
    refine vo_move rfl ?_
    refine vo_stM ?_
    refine vo_extract rfl rfl rfl ?_
    refine vo_extract rfl rfl rfl ?_
    refine vo_extract rfl rfl rfl ?_
    refine vo_extract rfl rfl rfl ?_
    refine vo_assign_pv rfl rfl ?_
    refine vo_assign_pv rfl rfl ?_
    refine vo_assign_pv rfl rfl ?_
    refine vo_assign_pv rfl rfl ?_
    refine vo_nil ?_
    refine hK5 _ ?_
    refine vc_seq fun K6 hK6 => ?_
    refine vc_region ?_
    refine vo_move_pv rfl rfl ?_
    refine vo_move_pv rfl rfl ?_
    refine vo_move_pv rfl rfl ?_
    refine vo_move_pv rfl rfl ?_
    refine vo_call0 Try.func43 rfl rfl rfl rfl (implIsSub_sat (regs := l) (a := z) (b := y) (by omega) hb9 (by omega)) ?_
    rintro _ _ ⟨rfl, rfl⟩
    refine ⟨rfl, rfl, .inl rfl, ?_⟩
    refine vo_stM ?_
    refine vo_assign_pv rfl rfl ?_
    refine vo_nil ?_
    refine hK6 _ ?_
    refine vc_seq fun K7 hK7 => ?_
    refine vc_seq fun K8 hK8 => ?_
    refine vc_region ?_
    refine vo_move_pv rfl rfl ?_
    refine vo_move_pv rfl rfl ?_
    refine vo_move_pv rfl rfl ?_
    refine vo_move_pv rfl rfl ?_
    refine vo_move_pv rfl rfl ?_
    refine vo_call0 Try.func44 rfl rfl rfl rfl (specIsSub_sat (regs := l) (a := z) (b := y) (by omega) hb9 (by omega)) ?_
    rintro _ _ ⟨rfl, rfl⟩
    refine ⟨rfl, rfl, .inl rfl, ?_⟩
    refine vo_stM ?_
    refine vo_binB rfl rfl rfl rfl Try.underlying4 ?_
    refine vo_move_pv rfl rfl ?_
    refine vo_split 30 rfl (fun hg2 => ?_) (fun hg2 => ?_)
    · try simp only [zq0, zq1, zq2, zq3, zq4, zq5, zq6, zq7, zq8, zq9, zqa, zqb, zqc, zqd, zqe, zqf] at hg2
      refine vo_guard_off rfl rfl rfl rfl rfl ?_
      refine vo_guard_off rfl rfl rfl rfl rfl ?_
      refine vo_guard_off rfl rfl rfl rfl rfl ?_
      refine vo_guard_off rfl rfl rfl rfl rfl ?_
      refine vo_pick_t rfl rfl ?_
      refine vo_move_pv rfl rfl ?_
      refine vo_guard_off rfl rfl rfl rfl rfl ?_
      refine vo_guard_off rfl rfl rfl rfl rfl ?_
      refine vo_pick_t rfl rfl ?_
      refine vo_move_pv rfl rfl ?_
      refine vo_guard_off rfl rfl rfl rfl rfl ?_
      refine vo_guard_off rfl rfl rfl rfl rfl ?_
      refine vo_guard_off rfl rfl rfl rfl rfl ?_
      refine vo_guard_off rfl rfl rfl rfl rfl ?_
      refine vo_pick_t rfl rfl ?_
      refine vo_move_pv rfl rfl ?_
      refine vo_guard_off rfl rfl rfl rfl rfl ?_
      refine vo_guard_off rfl rfl rfl rfl rfl ?_
      refine vo_pick_t rfl rfl ?_
      refine vo_move_pv rfl rfl ?_
      refine vo_guard_off rfl rfl rfl rfl rfl ?_
      refine vo_guard_off rfl rfl rfl rfl rfl ?_
      refine vo_guard_off rfl rfl rfl rfl rfl ?_
      refine vo_guard_off rfl rfl rfl rfl rfl ?_
      refine vo_pick_t rfl rfl ?_
      refine vo_nil ?_
      refine hK8 _ ?_
      refine vc_cond_t rfl ?_
      refine vc_seq fun K9 hK9 => ?_
      refine vc_region ?_
      refine vo_move_pv rfl rfl ?_
      refine vo_move_pv rfl rfl ?_
      refine vo_move_pv rfl rfl ?_
      refine vo_move_pv rfl rfl ?_
      refine vo_move_pv rfl rfl ?_
      refine vo_call0 Try.func44 rfl rfl rfl rfl (specIsSub_sat (regs := l) (a := z) (b := y) (by omega) hb9 (by omega)) ?_
      rintro _ _ ⟨rfl, rfl⟩
      refine ⟨rfl, rfl, .inl rfl, ?_⟩
      refine vo_stM ?_
      refine vo_binB rfl rfl rfl rfl Try.underlying4 ?_
      refine vo_assign_pv rfl rfl ?_
      refine vo_nil ?_
      refine hK9 _ ?_
      refine vc_ret ?_
      change retQ _ _ _ _ _
      refine retQ_sel [] (srows := []) (.inr rfl) hC rfl rfl rfl rfl rfl rfl rfl ?_
      first
        | exact ⟨rfl, rfl⟩
        | (have hV : VRegs B l := by assumption
           have e := isSub_sup (a := z) (c := y) hV (by omega) (by omega) (by omega) (by omega)
           refine ⟨(congrArg (fun b => [bo b]) (?_ : _ = true) : [bo _] = [bo true]), rfl⟩
           simp [e]; done)
        | (exfalso; simp_all; done)
        | (exfalso; omega)
        | (refine ⟨(congrArg (fun b => [bo b]) (?_ : _ = true) : [bo _] = [bo true]), rfl⟩; first | simp_all | (simp; omega))
    · try simp only [zq0, zq1, zq2, zq3, zq4, zq5, zq6, zq7, zq8, zq9, zqa, zqb, zqc, zqd, zqe, zqf] at hg2
      refine vo_guard_on rfl rfl rfl ?_
      refine vo_move_pv rfl rfl ?_
      refine vo_guard_on rfl rfl rfl ?_
      refine vo_move_pv rfl rfl ?_
      refine vo_guard_on rfl rfl rfl ?_
      refine vo_call0 Try.func45 rfl rfl rfl rfl (implValidRegs_sat (regs := l) (by omega) hb9 (by omega)) ?_
      rintro _ _ ⟨rfl, rfl⟩
      refine ⟨rfl, rfl, .inl rfl, ?_⟩
      refine vo_stM ?_
      refine vo_guard_on rfl rfl rfl ?_
      refine vo_not rfl rfl ?_
      refine vo_pick_f rfl rfl ?_
      refine vo_move_pv rfl rfl ?_
      refine vo_split 36 rfl (fun hg3 => ?_) (fun hg3 => ?_)
      · try simp only [zq0, zq1, zq2, zq3, zq4, zq5, zq6, zq7, zq8, zq9, zqa, zqb, zqc, zqd, zqe, zqf] at hg3
        refine vo_guard_off rfl rfl rfl rfl rfl ?_
        refine vo_guard_off rfl rfl rfl rfl rfl ?_
        refine vo_pick_t rfl rfl ?_
        refine vo_move_pv rfl rfl ?_
        refine vo_guard_off rfl rfl rfl rfl rfl ?_
        refine vo_guard_off rfl rfl rfl rfl rfl ?_
        refine vo_guard_off rfl rfl rfl rfl rfl ?_
        refine vo_guard_off rfl rfl rfl rfl rfl ?_
        refine vo_pick_t rfl rfl ?_
        refine vo_move_pv rfl rfl ?_
        refine vo_guard_off rfl rfl rfl rfl rfl ?_
        refine vo_guard_off rfl rfl rfl rfl rfl ?_
        refine vo_pick_t rfl rfl ?_
        refine vo_move_pv rfl rfl ?_
        refine vo_guard_off rfl rfl rfl rfl rfl ?_
        refine vo_guard_off rfl rfl rfl rfl rfl ?_
        refine vo_guard_off rfl rfl rfl rfl rfl ?_
        refine vo_guard_off rfl rfl rfl rfl rfl ?_
        refine vo_pick_t rfl rfl ?_
        refine vo_nil ?_
        refine hK8 _ ?_
        refine vc_cond_t rfl ?_
        refine vc_seq fun K10 hK10 => ?_
        refine vc_region ?_
        refine vo_move_pv rfl rfl ?_
        refine vo_move_pv rfl rfl ?_
        refine vo_move_pv rfl rfl ?_
        refine vo_move_pv rfl rfl ?_
        refine vo_move_pv rfl rfl ?_
        refine vo_call0 Try.func44 rfl rfl rfl rfl (specIsSub_sat (regs := l) (a := z) (b := y) (by omega) hb9 (by omega)) ?_
        rintro _ _ ⟨rfl, rfl⟩
        refine ⟨rfl, rfl, .inl rfl, ?_⟩
        refine vo_stM ?_
        refine vo_binB rfl rfl rfl rfl Try.underlying4 ?_
        refine vo_assign_pv rfl rfl ?_
        refine vo_nil ?_
        refine hK10 _ ?_
        refine vc_ret ?_
        change retQ _ _ _ _ _
        refine retQ_sel [] (srows := []) (.inr rfl) hC rfl rfl rfl rfl rfl rfl rfl ?_
        first
          | exact ⟨rfl, rfl⟩
          | (have hV : VRegs B l := by assumption
             have e := isSub_sup (a := z) (c := y) hV (by omega) (by omega) (by omega) (by omega)
             refine ⟨(congrArg (fun b => [bo b]) (?_ : _ = true) : [bo _] = [bo true]), rfl⟩
             simp [e]; done)
          | (exfalso; simp_all; done)
          | (exfalso; omega)
          | (refine ⟨(congrArg (fun b => [bo b]) (?_ : _ = true) : [bo _] = [bo true]), rfl⟩; first | simp_all | (simp; omega))
      · try simp only [zq0, zq1, zq2, zq3, zq4, zq5, zq6, zq7, zq8, zq9, zqa, zqb, zqc, zqd, zqe, zqf] at hg3
        refine vo_guard_on rfl rfl rfl ?_
        refine vo_move_pv rfl rfl ?_
        refine vo_guard_on rfl rfl rfl ?_
        refine vo_binI rfl rfl rfl rfl trivial ?_
        refine vo_pick_f rfl rfl ?_
        refine vo_move_pv rfl rfl ?_
        refine vo_split 40 rfl (fun hg4 => ?_) (fun hg4 => ?_)
        · try simp only [zq0, zq1, zq2, zq3, zq4, zq5, zq6, zq7, zq8, zq9, zqa, zqb, zqc, zqd, zqe, zqf] at hg4
          refine vo_guard_off rfl rfl rfl rfl rfl ?_
          refine vo_guard_off rfl rfl rfl rfl rfl ?_
          refine vo_guard_off rfl rfl rfl rfl rfl ?_
          refine vo_guard_off rfl rfl rfl rfl rfl ?_
          refine vo_pick_t rfl rfl ?_
          refine vo_move_pv rfl rfl ?_
          refine vo_guard_off rfl rfl rfl rfl rfl ?_
          refine vo_guard_off rfl rfl rfl rfl rfl ?_
          refine vo_pick_t rfl rfl ?_
          refine vo_move_pv rfl rfl ?_
          refine vo_guard_off rfl rfl rfl rfl rfl ?_
          refine vo_guard_off rfl rfl rfl rfl rfl ?_
          refine vo_guard_off rfl rfl rfl rfl rfl ?_
          refine vo_guard_off rfl rfl rfl rfl rfl ?_
          refine vo_pick_t rfl rfl ?_
          refine vo_nil ?_
          refine hK8 _ ?_
          refine vc_cond_t rfl ?_
          refine vc_seq fun K11 hK11 => ?_
          refine vc_region ?_
          refine vo_move_pv rfl rfl ?_
          refine vo_move_pv rfl rfl ?_
          refine vo_move_pv rfl rfl ?_
          refine vo_move_pv rfl rfl ?_
          refine vo_move_pv rfl rfl ?_
          refine vo_call0 Try.func44 rfl rfl rfl rfl (specIsSub_sat (regs := l) (a := z) (b := y) (by omega) hb9 (by omega)) ?_
          rintro _ _ ⟨rfl, rfl⟩
          refine ⟨rfl, rfl, .inl rfl, ?_⟩
          refine vo_stM ?_
          refine vo_binB rfl rfl rfl rfl Try.underlying4 ?_
          refine vo_assign_pv rfl rfl ?_
          refine vo_nil ?_
          refine hK11 _ ?_
          refine vc_ret ?_
          change retQ _ _ _ _ _
          refine retQ_sel [] (srows := []) (.inr rfl) hC rfl rfl rfl rfl rfl rfl rfl ?_
          first
            | exact ⟨rfl, rfl⟩
            | (have hV : VRegs B l := by assumption
               have e := isSub_sup (a := z) (c := y) hV (by omega) (by omega) (by omega) (by omega)
               refine ⟨(congrArg (fun b => [bo b]) (?_ : _ = true) : [bo _] = [bo true]), rfl⟩
               simp [e]; done)
            | (exfalso; simp_all; done)
            | (exfalso; omega)
            | (refine ⟨(congrArg (fun b => [bo b]) (?_ : _ = true) : [bo _] = [bo true]), rfl⟩; first | simp_all | (simp; omega))
        · try simp only [zq0, zq1, zq2, zq3, zq4, zq5, zq6, zq7, zq8, zq9, zqa, zqb, zqc, zqd, zqe, zqf] at hg4
          refine vo_guard_on rfl rfl rfl ?_
          refine vo_move_pv rfl rfl ?_
          refine vo_guard_on rfl rfl rfl ?_
          refine vo_move_pv rfl rfl ?_
          refine vo_guard_on rfl rfl rfl ?_
          refine vo_len_pv rfl rfl Try.underlying23 ?_
          refine vo_guard_on rfl rfl rfl ?_
          refine vo_binI rfl rfl rfl rfl trivial ?_
          refine vo_pick_f rfl rfl ?_
          refine vo_move_pv rfl rfl ?_
          refine vo_split 46 rfl (fun hg5 => ?_) (fun hg5 => ?_)
          · try simp only [zq0, zq1, zq2, zq3, zq4, zq5, zq6, zq7, zq8, zq9, zqa, zqb, zqc, zqd, zqe, zqf] at hg5
            refine vo_guard_off rfl rfl rfl rfl rfl ?_
            refine vo_guard_off rfl rfl rfl rfl rfl ?_
            refine vo_pick_t rfl rfl ?_
            refine vo_move_pv rfl rfl ?_
            refine vo_guard_off rfl rfl rfl rfl rfl ?_
            refine vo_guard_off rfl rfl rfl rfl rfl ?_
            refine vo_guard_off rfl rfl rfl rfl rfl ?_
            refine vo_guard_off rfl rfl rfl rfl rfl ?_
            refine vo_pick_t rfl rfl ?_
            refine vo_nil ?_
            refine hK8 _ ?_
            refine vc_cond_t rfl ?_
            refine vc_seq fun K12 hK12 => ?_
            refine vc_region ?_
            refine vo_move_pv rfl rfl ?_
            refine vo_move_pv rfl rfl ?_
            refine vo_move_pv rfl rfl ?_
            refine vo_move_pv rfl rfl ?_
            refine vo_move_pv rfl rfl ?_
            refine vo_call0 Try.func44 rfl rfl rfl rfl (specIsSub_sat (regs := l) (a := z) (b := y) (by omega) hb9 (by omega)) ?_
            rintro _ _ ⟨rfl, rfl⟩
            refine ⟨rfl, rfl, .inl rfl, ?_⟩
            refine vo_stM ?_
            refine vo_binB rfl rfl rfl rfl Try.underlying4 ?_
            refine vo_assign_pv rfl rfl ?_
            refine vo_nil ?_
            refine hK12 _ ?_
            refine vc_ret ?_
            change retQ _ _ _ _ _
            refine retQ_sel [] (srows := []) (.inr rfl) hC rfl rfl rfl rfl rfl rfl rfl ?_
            first
              | exact ⟨rfl, rfl⟩
              | (have hV : VRegs B l := by assumption
                 have e := isSub_sup (a := z) (c := y) hV (by omega) (by omega) (by omega) (by omega)
                 refine ⟨(congrArg (fun b => [bo b]) (?_ : _ = true) : [bo _] = [bo true]), rfl⟩
                 simp [e]; done)
              | (exfalso; simp_all; done)
              | (exfalso; omega)
              | (refine ⟨(congrArg (fun b => [bo b]) (?_ : _ = true) : [bo _] = [bo true]), rfl⟩; first | simp_all | (simp; omega))
          · try simp only [zq0, zq1, zq2, zq3, zq4, zq5, zq6, zq7, zq8, zq9, zqa, zqb, zqc, zqd, zqe, zqf] at hg5
            refine vo_guard_on rfl rfl rfl ?_
            refine vo_move_pv rfl rfl ?_
            refine vo_guard_on rfl rfl rfl ?_
            refine vo_binI rfl rfl rfl rfl trivial ?_
            refine vo_pick_f rfl rfl ?_
            refine vo_move_pv rfl rfl ?_
            refine vo_split 50 rfl (fun hg6 => ?_) (fun hg6 => ?_)
            · try simp only [zq0, zq1, zq2, zq3, zq4, zq5, zq6, zq7, zq8, zq9, zqa, zqb, zqc, zqd, zqe, zqf] at hg6
              refine vo_guard_off rfl rfl rfl rfl rfl ?_
              refine vo_guard_off rfl rfl rfl rfl rfl ?_
              refine vo_guard_off rfl rfl rfl rfl rfl ?_
              refine vo_guard_off rfl rfl rfl rfl rfl ?_
              refine vo_pick_t rfl rfl ?_
              refine vo_nil ?_
              refine hK8 _ ?_
              refine vc_cond_t rfl ?_
              refine vc_seq fun K13 hK13 => ?_
              refine vc_region ?_
              refine vo_move_pv rfl rfl ?_
              refine vo_move_pv rfl rfl ?_
              refine vo_move_pv rfl rfl ?_
              refine vo_move_pv rfl rfl ?_
              refine vo_move_pv rfl rfl ?_
              refine vo_call0 Try.func44 rfl rfl rfl rfl (specIsSub_sat (regs := l) (a := z) (b := y) (by omega) hb9 (by omega)) ?_
              rintro _ _ ⟨rfl, rfl⟩
              refine ⟨rfl, rfl, .inl rfl, ?_⟩
              refine vo_stM ?_
              refine vo_binB rfl rfl rfl rfl Try.underlying4 ?_
              refine vo_assign_pv rfl rfl ?_
              refine vo_nil ?_
              refine hK13 _ ?_
              refine vc_ret ?_
              change retQ _ _ _ _ _
              refine retQ_sel [] (srows := []) (.inr rfl) hC rfl rfl rfl rfl rfl rfl rfl ?_
              first
                | exact ⟨rfl, rfl⟩
                | (have hV : VRegs B l := by assumption
                   have e := isSub_sup (a := z) (c := y) hV (by omega) (by omega) (by omega) (by omega)
                   refine ⟨(congrArg (fun b => [bo b]) (?_ : _ = true) : [bo _] = [bo true]), rfl⟩
                   simp [e]; done)
                | (exfalso; simp_all; done)
                | (exfalso; omega)
                | (refine ⟨(congrArg (fun b => [bo b]) (?_ : _ = true) : [bo _] = [bo true]), rfl⟩; first | simp_all | (simp; omega))
            · try simp only [zq0, zq1, zq2, zq3, zq4, zq5, zq6, zq7, zq8, zq9, zqa, zqb, zqc, zqd, zqe, zqf] at hg6
              refine vo_guard_on rfl rfl rfl ?_
              refine vo_move_pv rfl rfl ?_
              refine vo_guard_on rfl rfl rfl ?_
              refine vo_move_pv rfl rfl ?_
              refine vo_guard_on rfl rfl rfl ?_
              refine vo_len_pv rfl rfl Try.underlying23 ?_
              refine vo_guard_on rfl rfl rfl ?_
              refine vo_binI rfl rfl rfl rfl trivial ?_
              refine vo_pick_f rfl rfl ?_
              refine vo_nil ?_
              refine hK8 _ ?_
              refine vc_cond rfl (fun hc7 => ?_) (fun hc7 => ?_)
              · try simp only [zq0, zq1, zq2, zq3, zq4, zq5, zq6, zq7, zq8, zq9, zqa, zqb, zqc, zqd, zqe, zqf] at hc7
                refine vc_seq fun K14 hK14 => ?_
                refine vc_region ?_
                refine vo_move_pv rfl rfl ?_
                refine vo_move_pv rfl rfl ?_
                refine vo_move_pv rfl rfl ?_
                refine vo_move_pv rfl rfl ?_
                refine vo_move_pv rfl rfl ?_
                refine vo_call0 Try.func44 rfl rfl rfl rfl (specIsSub_sat (regs := l) (a := z) (b := y) (by omega) hb9 (by omega)) ?_
                rintro _ _ ⟨rfl, rfl⟩
                refine ⟨rfl, rfl, .inl rfl, ?_⟩
                refine vo_stM ?_
                refine vo_binB rfl rfl rfl rfl Try.underlying4 ?_
                refine vo_assign_pv rfl rfl ?_
                refine vo_nil ?_
                refine hK14 _ ?_
                refine vc_ret ?_
                change retQ _ _ _ _ _
                refine retQ_sel [] (srows := []) (.inr rfl) hC rfl rfl rfl rfl rfl rfl rfl ?_
                first
                  | exact ⟨rfl, rfl⟩
                  | (have hV : VRegs B l := by assumption
                     have e := isSub_sup (a := z) (c := y) hV (by omega) (by omega) (by omega) (by omega)
                     refine ⟨(congrArg (fun b => [bo b]) (?_ : _ = true) : [bo _] = [bo true]), rfl⟩
                     simp [e]; done)
                  | (exfalso; simp_all; done)
                  | (exfalso; omega)
                  | (refine ⟨(congrArg (fun b => [bo b]) (?_ : _ = true) : [bo _] = [bo true]), rfl⟩; first | simp_all | (simp; omega))
              · try simp only [zq0, zq1, zq2, zq3, zq4, zq5, zq6, zq7, zq8, zq9, zqa, zqb, zqc, zqd, zqe, zqf] at hc7
                refine vc_skip ?_
                refine hK7 _ ?_
                refine vc_seq fun K15 hK15 => ?_
                refine vc_region ?_
                refine vo_move_pv rfl rfl ?_
                refine vo_move_pv rfl rfl ?_
                refine vo_move_pv rfl rfl ?_
                refine vo_move_pv rfl rfl ?_
                refine vo_call [] Try.func35 rfl rfl rfl rfl rfl rfl rfl (supersOwn_sat (regs := l) (c := z) (by omega) hb9 (by omega)) ?_
                rintro _ _ ⟨nlg, rfl, rfl⟩
                refine ⟨Nat.le_of_ble_eq_true rfl, ⟨rfl, rfl, rfl, rfl⟩, .inl rfl, ?_⟩
                refine vo_stM ?_
                refine vo_expose 0 (by omega) rfl ?_
                refine vo_stM ?_
                refine vo_weaken 67 rfl ?_
                refine vo_stM ?_
                refine vo_move_pv rfl rfl ?_
                refine vo_call0 Try.func18 rfl rfl rfl rfl (isIn_sat (list := supM B l z) (by omega)) ?_
                rintro _ _ ⟨rfl, rfl⟩
                refine ⟨rfl, rfl, .inl rfl, ?_⟩
                refine vo_stM ?_
                refine vo_binB rfl rfl rfl rfl Try.underlying4 ?_
                refine vo_assign_pv rfl rfl ?_
                refine vo_nil ?_
                refine hK15 _ ?_
                refine vc_ret ?_
                change retQ _ _ _ _ _
                refine retQ_sel [] (srows := []) (.inr rfl) hC rfl rfl rfl rfl rfl rfl rfl ?_
                first
                  | exact ⟨rfl, rfl⟩
                  | (have hV : VRegs B l := by assumption
                     have e := isSub_sup (a := z) (c := y) hV (by omega) (by omega) (by omega) (by omega)
                     refine ⟨(congrArg (fun b => [bo b]) (?_ : _ = true) : [bo _] = [bo true]), rfl⟩
                     simp [e]; done)
                  | (exfalso; simp_all; done)
                  | (exfalso; omega)
                  | (refine ⟨(congrArg (fun b => [bo b]) (?_ : _ = true) : [bo _] = [bo true]), rfl⟩; first | simp_all | (simp; omega))

end Go.Vl

/- Loops in which most slots, and perhaps all rows, stay as they are. -/
import Derived.Test.YtmjbklmjehjpoacVlY
namespace Go.Vl
set_option linter.unusedVariables false
set_option linter.unusedSimpArgs false
open Go.RowKit

section
variable {P : Program} {C : Ctx} {Q : Go.Exit → St → Prop} {s : St}

/-- What a round of such a loop must come to. -/
def againF (N : Nat) (Lf Lv : List Nat) (k : Nat) (F : List SV) (R : List Row) (I : Nat → List SV → Prop) (n : Nat) (s' : St) : Prop :=
  again N (Lf ++ Lv) k (fun m us rows => (us.take Lf.length = F ∧ rows = R) ∧ I m (us.drop Lf.length)) n s'
def againV (N : Nat) (Lf Lv : List Nat) (k : Nat) (F : List SV) (I : Nat → List SV → List Row → Prop) (n : Nat) (s' : St) : Prop :=
  again N (Lf ++ Lv) k (fun m us rows => us.take Lf.length = F ∧ I m (us.drop Lf.length) rows) n s'

/-- A loop whose slots Lf stay as they are, F, and its rows R; the slots Lv turn. -/
theorem vc_loopF {c : Code} (Lf Lv : List Nat) (F : List SV) (R : List Row) (I : Nat → List SV → Prop) (n0 : Nat) (hF : (Lf.map fun t => look s.env t) = F) (hR : s.rows = R) (hnb : C.nb ≤ R.length)
    (hb0 : F.all (SV.bdd R.length) = true ∧ (Lv.map fun t => look s.env t).all (SV.bdd R.length) = true ∧ R.all (Row.bdd R.length) = true)
    (h0 : I n0 (Lv.map fun t => look s.env t))
    (hround : ∀ n vs, vs.length = Lv.length → I n vs → VC P C c (thn (againF s.n Lf Lv R.length F R I n) Q) ⟨s.n, Lf.zip F ++ Lv.zip vs, R⟩) :
    VC P C (.loop c) Q s := by
  subst hR
  subst hF
  have hl : (Lf.map fun t => look s.env t).length = Lf.length := by simp
  refine vc_loop (Lf ++ Lv) (fun m us rows => (us.take Lf.length = (Lf.map fun t => look s.env t) ∧ rows = s.rows) ∧ I m (us.drop Lf.length)) n0 hnb ⟨?_, hb0.2.2⟩ ⟨⟨?_, rfl⟩, ?_⟩ ?_
  · rw [List.map_append, List.all_append, hb0.1, hb0.2.1]; rfl
  · rw [List.map_append]; simp
  · rw [List.map_append, show Lf.length = (Lf.map fun t => look s.env t).length from hl.symm, List.drop_left]; exact h0
  · rintro n vs rows hv - ⟨⟨h1, rfl⟩, h2⟩
    have hv' : vs.length = Lf.length + Lv.length := by simpa using hv
    have := hround n (vs.drop Lf.length) (by simp; omega) h2
    have e : (Lf ++ Lv).zip vs = Lf.zip (Lf.map fun t => look s.env t) ++ Lv.zip (vs.drop Lf.length) := by
      rw [← h1]
      conv => lhs; rw [← List.take_append_drop Lf.length vs]
      exact List.zip_append (by simp; omega)
    rw [e]
    exact this

theorem againF_mk {N : Nat} {Lf Lv : List Nat} {k : Nat} {F : List SV} {R : List Row} {I : Nat → List SV → Prop} {n : Nat} {s' : St} (h0 : Nat.beq s'.n N = true) (h1 : Nat.ble k s'.rows.length = true)
    (h2 : ((Lf ++ Lv).map fun t => look s'.env t).all (SV.bdd k) = true) (h3 : (s'.rows.take k).all (Row.bdd k) = true)
    (hF : (Lf.map fun t => look s'.env t) = F) (hR : s'.rows.take k = R)
    (h : ∃ n', n' < n ∧ I n' (Lv.map fun t => look s'.env t)) : againF N Lf Lv k F R I n s' := by
  refine ⟨⟨Nat.eq_of_beq_eq_true h0, Nat.le_of_ble_eq_true h1, h2, h3⟩, ?_⟩
  obtain ⟨n', hn, hI⟩ := h
  refine ⟨n', hn, ⟨?_, hR⟩, ?_⟩
  · rw [List.map_append, ← hF]; simp
  · rw [List.map_append, show Lf.length = (Lf.map fun t => look s'.env t).length by simp, List.drop_left]; exact hI

/-- The same where rows turn too. -/
theorem vc_loopV {c : Code} (Lf Lv : List Nat) (F : List SV) (I : Nat → List SV → List Row → Prop) (n0 : Nat) (hnb : C.nb ≤ s.rows.length) (hF : (Lf.map fun t => look s.env t) = F)
    (hb0 : F.all (SV.bdd s.rows.length) = true ∧ (Lv.map fun t => look s.env t).all (SV.bdd s.rows.length) = true ∧ s.rows.all (Row.bdd s.rows.length) = true)
    (h0 : I n0 (Lv.map fun t => look s.env t) s.rows)
    (hround : ∀ n vs rows, vs.length = Lv.length → rows.length = s.rows.length → I n vs rows → VC P C c (thn (againV s.n Lf Lv s.rows.length F I n) Q) ⟨s.n, Lf.zip F ++ Lv.zip vs, rows⟩) :
    VC P C (.loop c) Q s := by
  subst hF
  have hl : (Lf.map fun t => look s.env t).length = Lf.length := by simp
  refine vc_loop (Lf ++ Lv) (fun m us rows => us.take Lf.length = (Lf.map fun t => look s.env t) ∧ I m (us.drop Lf.length) rows) n0 hnb ⟨?_, hb0.2.2⟩ ⟨?_, ?_⟩ ?_
  · rw [List.map_append, List.all_append, hb0.1, hb0.2.1]; rfl
  · rw [List.map_append]; simp
  · rw [List.map_append, show Lf.length = (Lf.map fun t => look s.env t).length from hl.symm, List.drop_left]; exact h0
  · rintro n vs rows hv hr ⟨h1, h2⟩
    have hv' : vs.length = Lf.length + Lv.length := by simpa using hv
    have := hround n (vs.drop Lf.length) rows (by simp; omega) hr h2
    have e : (Lf ++ Lv).zip vs = Lf.zip (Lf.map fun t => look s.env t) ++ Lv.zip (vs.drop Lf.length) := by
      rw [← h1]
      conv => lhs; rw [← List.take_append_drop Lf.length vs]
      exact List.zip_append (by simp; omega)
    rw [e]
    exact this

theorem againV_mk {N : Nat} {Lf Lv : List Nat} {k : Nat} {F : List SV} {I : Nat → List SV → List Row → Prop} {n : Nat} {s' : St} (h0 : Nat.beq s'.n N = true) (h1 : Nat.ble k s'.rows.length = true)
    (h2 : ((Lf ++ Lv).map fun t => look s'.env t).all (SV.bdd k) = true) (h3 : (s'.rows.take k).all (Row.bdd k) = true)
    (hF : (Lf.map fun t => look s'.env t) = F)
    (h : ∃ n', n' < n ∧ I n' (Lv.map fun t => look s'.env t) (s'.rows.take k)) : againV N Lf Lv k F I n s' := by
  refine ⟨⟨Nat.eq_of_beq_eq_true h0, Nat.le_of_ble_eq_true h1, h2, h3⟩, ?_⟩
  obtain ⟨n', hn, hI⟩ := h
  refine ⟨n', hn, ?_, ?_⟩
  · rw [List.map_append, ← hF]; simp
  · rw [List.map_append, show Lf.length = (Lf.map fun t => look s'.env t).length by simp, List.drop_left]; exact hI
end
end Go.Vl

/- Part 3 of the texts that the proof of FnExactMergeLists is built on. -/
import Derived.Test.YtbbaoaolkpciaacVl2
import Derived.Deep.Matrix
/- From a function's contract to the row of a law over lists of numbers, and numbers. -/
namespace Go.Vl
set_option linter.unusedVariables false
set_option linter.unusedSimpArgs false
open Go.RowKit Go.WideShapes Go.ChangeShapes

/-- The setting of a law's call. -/
def C0 (w : World) : Ctx := ⟨w, fun b => b < w.heap.size, 0, fun _ => default⟩
def G0 (w : World) : Bool → Nat → Prop := Gd (C0 w) [] (fun _ => default) w
theorem G0_of {w : World} {b : Nat} (h : b < w.heap.size) : G0 w false b := by
  refine ⟨h, ?_, fun _ => .inl h, fun e => by cases e⟩
  rintro ⟨id, ⟨r, hr, _⟩, _⟩
  simp at hr

theorem law_gen {P : Program} {f : FuncId} {w : World} {args : List SV} {vals : Array Value} (hl : vals.size = args.length)
    (hv : ∀ (j : Nat) (a : SV), args[j]? = some a → RS w (G0 w) (fun _ => default) 0 a (vals.getD j undef))
    (h : SatAt P f args [] (fun res rows => res = [bo true] ∧ rows = [])) :
    Calls P f vals w fun e w' => e = .returned (.bool true) ∧ Below w.heap.size w w' := by
  have hsim : SimM (C0 w) ⟨vals.size, enumE 0 args, []⟩ (fun _ => default) ⟨vals, []⟩ w := {
    defs := rfl
    size := rfl
    os := rfl
    tape := rfl
    output := rfl
    hsz := Nat.le_refl _
    old := fun _ _ _ => rfl
    bor := fun id hid => by cases hid
    nbl := Nat.zero_le _
    newb := fun id b _ ⟨r, hr, _⟩ => by simp at hr
    dist := fun i j b ⟨r, hr, _⟩ => by simp at hr
    rows := fun id r hr => by simp at hr
    env := fun t => by
      show RS _ _ _ _ (look (enumE 0 _) t) _
      rw [look_enumE]
      simp only [Nat.zero_le, if_true, Nat.sub_zero]
      cases ha : args[t]? with
      | none => exact .any _
      | some a => exact hv t a ha }
  refine (h (C0 w) (fun _ => default) vals rfl (fun b hb => hb) hl hsim).mono fun e w' hx => ?_
  obtain ⟨us, res, rows', m', rfl, hus, hs, rfl, rfl⟩ := hx
  have hv := hs.env 0
  have h1 : us.size = 1 := hus
  refine ⟨?_, hs.os, hs.tape, hs.output, hs.hsz, fun k hk => hs.old k hk (fun id hid => by cases hid)⟩
  have hv : RS w' (Gd (C0 w) [] m' w') m' 0 (bo true) (us.getD 0 undef) := hv
  have hb := hv.pv_inv
  unfold pack
  rw [dif_pos h1]
  simp only [Array.getD, h1, Nat.lt_succ_self, dif_pos, Nat.zero_lt_one] at hb
  cases hu : us[0]
  all_goals (simp only [Array.getInternal_eq_getElem, hu] at hb; cases hb)
  rfl

theorem cell_block {w : World} {a : Addr} {v : Value} (h : w.cell? a = some v) : a.block < w.heap.size := by
  unfold World.cell? at h
  rcases Nat.lt_or_ge a.block w.heap.size with h3 | h3
  · exact h3
  · rw [Array.getElem?_eq_none h3] at h; cases h

theorem addr_add (a : Addr) (i : Nat) (hs : a.spot = none) : a.add i = ⟨a.block, a.off + i, none⟩ := by
  obtain ⟨b, o, s⟩ := a
  simp only at hs
  subst hs
  unfold Addr.add
  split
  · rename_i h; simp [h]
  · rfl

/-- A list of numbers, by its cells. -/
theorem ints_rp {w : World} {a : Option Addr} {len cap : Nat} (zs : List Int) (hl : len ≤ cap) (hz : zs.length = cap) (h0 : a = none → cap = 0)
    (hc : ∀ a', a = some a' → ∀ c, c < cap → w.cell? (a'.add c) = some (.int .i64 (zs.getD c 0))) : RP w (G0 w false) (.sl none 1 ((zs.take len).map intP)) (.slice a len cap) := by
  cases a with
  | none =>
    have := h0 rfl
    subst this
    have e : len = 0 := by omega
    subst e
    exact .nilsl _ _ (by simp)
  | some a' =>
    have hc := hc a' rfl
    have hlen : ((zs.take len).map intP).length = len := by simp; omega
    have key : ∀ i (x : PV), ((zs.take len).map intP)[i]? = some x → i < len ∧ x = intP (zs.getD i 0) := by
      intro i x hx
      have hi : i < len := by rw [← hlen]; exact (List.getElem?_eq_some_iff.1 hx).1
      refine ⟨hi, ?_⟩
      simp only [List.getElem?_map, List.getElem?_take, hi, if_true, Option.map_eq_some_iff] at hx
      obtain ⟨y, hy, rfl⟩ := hx
      simp [List.getD, hy]
    have hsp : ∀ i, i < len → a'.spot = none := by
      intro i hi
      have := World.cell?_spot (hc 0 (by omega))
      simpa [Addr.add] using this
    refine .sl none 1 _ a' len cap (fun i _ => .int .i64 (zs.getD i 0)) (by simp) (fun hne => ?_) hlen.symm hl (fun hne => ?_) (fun i x hx => ?_) (fun i x j c hx hcj => ?_) (fun i x j c hx hcj => ?_)
    · have : 0 < len := by rw [← hlen]; exact List.length_pos_iff.2 hne
      exact hsp 0 this
    · have : 0 < len := by rw [← hlen]; exact List.length_pos_iff.2 hne
      exact G0_of (by have := cell_block (hc 0 (by omega)); simpa [Addr.add] using this)
    · obtain ⟨_, rfl⟩ := key i x hx
      exact fits_of rfl
    · obtain ⟨hi, rfl⟩ := key i x hx
      have hj : j = 0 := by
        cases j with
        | zero => rfl
        | succ j => simp [PV.cells] at hcj
      subst hj
      rw [← hc i (by omega), addr_add _ _ (hsp i hi)]
      congr 2
      omega
    · obtain ⟨hi, rfl⟩ := key i x hx
      have : c = intP (zs.getD i 0) := by
        cases j with
        | zero => simpa [PV.cells] using hcj.symm
        | succ j => simp [PV.cells] at hcj
      subst this
      exact .int _ _

/-- A list of lists of numbers. -/
theorem intss_rp {w : World} {a : Addr} {len cap : Nat} (A : Nat → Option Addr) (L C : Nat → Nat) (Z : Nat → List Int) (hl : len ≤ cap)
    (h : ∀ r, r < cap → w.cell? (a.add r) = some (.slice (A r) (L r) (C r)) ∧ RP w (G0 w false) (.sl none 1 (((Z r).take (L r)).map intP)) (.slice (A r) (L r) (C r))) :
    RP w (G0 w false) (.sl none 1 (((List.range len).map fun r => (Z r).take (L r)).map ints)) (.slice (some a) len cap) := by
  have hlen : (((List.range len).map fun r => (Z r).take (L r)).map ints).length = len := by simp
  have key : ∀ i (x : PV), (((List.range len).map fun r => (Z r).take (L r)).map ints)[i]? = some x → i < len ∧ x = ints ((Z i).take (L i)) := by
    intro i x hx
    have hi : i < len := by rw [← hlen]; exact (List.getElem?_eq_some_iff.1 hx).1
    refine ⟨hi, ?_⟩
    simp [hi] at hx
    exact hx.symm
  have hsp : ∀ i, i < len → a.spot = none := by
    intro i hi
    have := World.cell?_spot (h 0 (by omega)).1
    simpa [Addr.add] using this
  refine .sl none 1 _ a len cap (fun i _ => .slice (A i) (L i) (C i)) (by simp) (fun hne => ?_) hlen.symm hl (fun hne => ?_) (fun i x hx => ?_) (fun i x j c hx hcj => ?_) (fun i x j c hx hcj => ?_)
  · have : 0 < len := by rw [← hlen]; exact List.length_pos_iff.2 hne
    exact hsp 0 this
  · have : 0 < len := by rw [← hlen]; exact List.length_pos_iff.2 hne
    exact G0_of (by have := cell_block (h 0 (by omega)).1; simpa [Addr.add] using this)
  · obtain ⟨_, rfl⟩ := key i x hx
    exact fits_of rfl
  · obtain ⟨hi, rfl⟩ := key i x hx
    have hj : j = 0 := by
      cases j with
      | zero => rfl
      | succ j => simp [PV.cells] at hcj
    subst hj
    rw [← (h i (by omega)).1, addr_add _ _ (hsp i hi)]
    congr 2
    omega
  · obtain ⟨hi, rfl⟩ := key i x hx
    have : c = ints ((Z i).take (L i)) := by
      cases j with
      | zero => simpa [PV.cells] using hcj.symm
      | succ j => simp [PV.cells] at hcj
    subst this
    exact (h i (by omega)).2

section
variable {H : Type} {enc : TypeId × Value → H} {P : Program} {w : World} {base : Nat} {held : Bool}
/-- An argument '[][]int'. -/
theorem intss_open {t e q : TypeId} {a0 : Option Addr} {len cap fuel : Nat} {x : DataW H × List MemPlace} (ht : P.underlying t = some (.slice e)) (he : P.underlying e = some (.slice q)) (hq : P.underlying q = some (.int .i64))
    (ce : P.cellsOf e = 1) (cq : P.cellsOf q = 1) (h : DataW.trod enc P w base (fun _ => true) held fuel t [.slice a0 len cap] = some x) :
    ∃ l : List (List Int), l.length ≤ 9223372036854775807 ∧ (∀ y ∈ l, y.length ≤ 9223372036854775807) ∧ RP w (G0 w false) (.sl none 1 (l.map ints)) (.slice a0 len cap) := by
  rcases Go.Deep.open_int_rows ht he hq ce cq h with ⟨hcs, _⟩ | ⟨a, l, c, A, L, C, Z, hcs, _, hl, hm, _, hr⟩
  · simp at hcs
    obtain ⟨rfl, rfl, rfl⟩ := hcs
    exact ⟨[], by simp, by simp, .nilsl _ _ (by simp)⟩
  · simp at hcs
    obtain ⟨rfl, rfl, rfl⟩ := hcs
    refine ⟨(List.range len).map fun r => (Z r).take (L r), ?_, ?_, intss_rp A L C Z hl fun r hr' => ?_⟩
    · simp only [maxLen] at hm; simp; omega
    · intro y hy
      obtain ⟨r, hr', rfl⟩ := List.mem_map.1 hy
      obtain ⟨_, h1, h2, _⟩ := hr r (by have := List.mem_range.1 hr'; omega)
      simp only [maxLen] at h2
      simp; omega
    · obtain ⟨h1, h2, h3, h4, _, h6, h7⟩ := hr r hr'
      exact ⟨h1, ints_rp (Z r) h2 h4 h6 fun a' ha c hc => (h7 a' ha).2 c hc⟩

end
end Go.Vl


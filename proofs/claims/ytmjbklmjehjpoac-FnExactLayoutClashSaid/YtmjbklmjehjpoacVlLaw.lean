/- From a function's contract to the row of a law over bytes. -/
import Derived.Test.YtmjbklmjehjpoacVlX
import Derived.ProofKit
import Derived.OpenShut
import Derived.Below
namespace Go.Vl
set_option linter.unusedVariables false
set_option linter.unusedSimpArgs false
open Go.RowKit Go.WideShapes

theorem okWide_spot {P : Program} {W : World} {base : Nat} {t e : TypeId} {a : Addr} {len cap : Nat} (hT : P.underlying t = some (.slice e)) (h : Value.okWide P W .any base t (.slice (some a) len cap)) :
    a.spot = none ∧ a.block < W.heap.size := by
  simp only [Value.okWide, hT, Cell.okWide, Cell.ok, World.has] at h
  obtain ⟨_, _, _, h1, row, cells, h2, _⟩ := h
  refine ⟨h1, ?_⟩
  unfold World.shape? at h2
  rcases Nat.lt_or_ge a.block W.heap.size with h3 | h3
  · exact h3
  · rw [Array.getElem?_eq_none h3] at h2; cases h2

/-- What is known of bytes that come in. -/
def BytesAt (w : World) (a0 : Option Addr) (len cap : Nat) : Prop :=
  (a0 = none ∧ len = 0 ∧ cap = 0) ∨ ∃ (x : Addr) (zs : List Int), a0 = some x ∧ x.spot = none ∧ x.block < w.heap.size ∧ len ≤ cap ∧ zs.length = cap ∧
    (∀ i, i < zs.length → w.cell? (x.add i) = some (.int .u8 (zs.getD i 0))) ∧ ∀ n ∈ zs, (Lit.int .u8 n).wf = true

theorem bytes_pv {w : World} {a0 : Option Addr} {len cap : Nat} {G : Nat → Prop} (hG : ∀ b, b < w.heap.size → G b) (h : BytesAt w a0 len cap) :
    ∃ (nl : Option Bool) (c : List (Fin 256)), RP w G (.sl nl 1 (c.map byteP)) (.slice a0 len cap) := by
  rcases h with ⟨rfl, rfl, rfl⟩ | ⟨x, zs, rfl, hs, hb, hl, hz, hc, hw⟩
  · exact ⟨none, [], .nilsl _ _ (by simp)⟩
  · have hbd : ∀ i, i < zs.length → 0 ≤ zs.getD i 0 ∧ zs.getD i 0 < 256 := by
      intro i hi
      have hm : zs.getD i 0 ∈ zs := by simp [List.getD, List.getElem?_eq_getElem hi]
      have := hw _ hm
      generalize zs.getD i 0 = n at this ⊢
      simp [Lit.wf, IntKind.min, IntKind.max, IntKind.bits, IntKind.signed] at this
      omega
    let c : List (Fin 256) := (List.range len).map fun i => ⟨(zs.getD i 0).toNat % 256, Nat.mod_lt _ (by omega)⟩
    refine ⟨none, c, .sl none 1 _ x len cap (fun i _ => .int .u8 (zs.getD i 0)) (by simp) (fun _ => hs) (by simp [c]) hl (fun _ => hG _ hb) ?_ ?_ ?_⟩
    · intro i y hy
      simp only [List.getElem?_map] at hy
      cases hci : c[i]? with
      | none => rw [hci] at hy; simp at hy
      | some z =>
        rw [hci] at hy
        simp only [Option.map_some, Option.some.injEq] at hy
        subst hy
        exact fits_of rfl
    · intro i y j d hy hd
      simp only [List.getElem?_map] at hy
      cases hci : c[i]? with
      | none => rw [hci] at hy; simp at hy
      | some z =>
        rw [hci] at hy
        simp only [Option.map_some, Option.some.injEq] at hy
        subst hy
        have hi : i < len := by
          rcases Nat.lt_or_ge i len with h1 | h1
          · exact h1
          · have : c[i]? = none := List.getElem?_eq_none (by simp [c]; exact h1)
            rw [this] at hci; cases hci
        have hj : j = 0 := by
          cases j with
          | zero => rfl
          | succ j => simp [PV.cells] at hd
        subst hj
        have := hc i (by omega)
        rw [← this]
        congr 1
        obtain ⟨xb, xo, xs⟩ := x
        simp only at hs
        subst hs
        simp [Addr.add]
    · intro i y j d hy hd
      simp only [List.getElem?_map] at hy
      cases hci : c[i]? with
      | none => rw [hci] at hy; simp at hy
      | some z =>
        rw [hci] at hy
        simp only [Option.map_some, Option.some.injEq] at hy
        subst hy
        have hi : i < len := by
          rcases Nat.lt_or_ge i len with h1 | h1
          · exact h1
          · have : c[i]? = none := List.getElem?_eq_none (by simp [c]; exact h1)
            rw [this] at hci; cases hci
        have hj : j = 0 := by
          cases j with
          | zero => rfl
          | succ j => simp [PV.cells] at hd
        subst hj
        have hd2 : d = byteP z := by simpa [PV.cells] using hd.symm
        subst hd2
        have hz2 : ((z.val : Nat) : Int) = zs.getD i 0 := by
          have e : c[i]? = some ⟨(zs.getD i 0).toNat % 256, Nat.mod_lt _ (by omega)⟩ := by simp [c, hi]
          rw [e] at hci
          simp only [Option.some.injEq] at hci
          have hb := hbd i (by omega)
          rw [← hci]
          show (((zs.getD i 0).toNat % 256 : Nat) : Int) = _
          omega
        rw [← hz2]
        exact .int _ _

theorem law_bytes {P : Program} {f : FuncId} {w : World} {a0 : Option Addr} {len cap : Nat} (hrow : BytesAt w a0 len cap)
    (h : ∀ (nl : Option Bool) (c : List (Fin 256)), SatAt P f [.pv false (.sl nl 1 (c.map byteP))] [] (fun res rows => res = [bo true] ∧ rows = [])) :
    Calls P f #[.slice a0 len cap] w fun e w' => e = .returned (.bool true) ∧ Below w.heap.size w w' := by
  let C : Ctx := ⟨w, fun b => b < w.heap.size, 0, fun _ => default⟩
  have hpriv : ∀ b, ¬ priv [] (fun _ => default) b := by
    rintro b ⟨id, ⟨r, hr, _⟩, _⟩
    simp at hr
  obtain ⟨nl, c, hp⟩ := bytes_pv (G := Gd C [] (fun _ => default) w false) (fun b hb => ⟨hb, hpriv b, fun _ => .inl hb, fun e => by cases e⟩) hrow
  have hsim : SimM C ⟨1, enumE 0 [.pv false (.sl nl 1 (c.map byteP))], []⟩ (fun _ => default) ⟨#[.slice a0 len cap], []⟩ w := {
    defs := rfl
    size := rfl
    os := rfl
    tape := rfl
    output := rfl
    hsz := Nat.le_refl _
    old := fun _ _ _ => rfl
    bor := fun id hid => by cases hid
    nbl := Nat.zero_le _
    newb := fun id b _ ⟨r, hr, _⟩ => by simp at hr
    dist := fun i j b ⟨r, hr, _⟩ => by simp at hr
    rows := fun id r hr => by simp at hr
    env := fun t => by
      show RS _ _ _ _ (look (enumE 0 _) t) _
      rw [look_enumE]
      cases t with
      | zero => exact .pv _ _ _ hp
      | succ t => exact .any _ }
  refine (h nl c C (fun _ => default) #[.slice a0 len cap] rfl (fun b hb => hb) rfl hsim).mono fun e w' hx => ?_
  obtain ⟨us, res, rows', m', rfl, hus, hs, rfl, rfl⟩ := hx
  have hv := hs.env 0
  have h1 : us.size = 1 := hus
  refine ⟨?_, hs.os, hs.tape, hs.output, hs.hsz, fun k hk => hs.old k hk (fun id hid => by cases hid)⟩
  have hv : RS w' (Gd C [] m' w') m' 0 (bo true) (us.getD 0 undef) := hv
  have hb := hv.pv_inv
  unfold pack
  rw [dif_pos h1]
  simp only [Array.getD, h1, Nat.lt_succ_self, dif_pos, Nat.zero_lt_one] at hb
  cases hu : us[0]
  all_goals (simp only [Array.getInternal_eq_getElem, hu] at hb; cases hb)
  rfl
end Go.Vl

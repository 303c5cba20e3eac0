/- Part 5 of the texts that the proof of FnExactAbstractByBases is built on. -/
import Derived.Test.YtlpchicpbnmdgaaVl4
import Derived.Lib.AppendZeros
import Derived.Sort.OwnSortedInts
import Derived.Shelf.Slices.CompactI
import Derived.Shelf.Sort.Plain
import Derived.Shelf.Slices.In.SortNone
import Derived.Test.YtlpchicpbnmdgaaProg
namespace Go.Vl
set_option linter.unusedVariables false
set_option linter.unusedSimpArgs false
open Go.Proofs
def allOK (b : List (List Int)) : Prop := VB b ∧ ∀ i, i < b.length → ordM b i ≠ []
instance {b : List (List Int)} : Decidable (allOK b) := by unfold allOK; infer_instance
theorem ordersUpTo_satI {nl0 : Option Bool} {bases : List (List Int)} {c : Int} (hbases : bases.length < 1000000000) (hlbases : ∀ l ∈ bases, l.length < 1000000000) (hv : VB bases) (h0 : 0 ≤ c) (h1 : c < bases.length) : SatAt Try.prog 62 [.pv false (.sl nl0 1 (bases.map ints)), i64 c] [] (fun res rows => res = [.ref 0] ∧ rows = [Row.tree 28 1 (some false) none ((ordT bases (c.toNat + 1)).map ordP)]) := by
 obtain ⟨n, rfl⟩ := Int.eq_ofNat_of_zero_le h0
 exact ordersUpTo_sat hbases hlbases hv (by omega)


theorem allOrders_sat {nl0 : Option Bool} {bases : List (List Int)} (hbases : bases.length < 1000000000) (hlbases : ∀ l ∈ bases, l.length < 1000000000) (hv : VB bases) : SatAt Try.prog 102 [.pv false (.sl nl0 1 (bases.map ints))] [] (fun res rows => res = [bo (decide (∀ i, i < bases.length → ordM bases i ≠ []))] ∧ rows = []) := by
 refine sat_entry (ts := [2]) Try.func102 rfl rfl (by decide) (Nat.le_of_ble_eq_true rfl) fun C hC => ?_
 rw [Try.ntmps102]
 replace hC : C.nb = 0 := hC
 refine vc_seq fun K1 hK1 => ?_
 refine vc_region ?_
 refine vo_assign_pv rfl rfl ?_
 refine vo_nil ?_
 refine hK1 _ ?_
 refine vc_seq fun K2 hK2 => ?_
 refine vc_seq fun K3 hK3 => ?_
 refine vc_region ?_
 refine vo_assign_pv rfl rfl ?_
 refine vo_nil ?_
 refine hK3 _ ?_
 refine vc_block ?_
 refine vc_stN ?_
 refine vc_loopF [0] [3] [.pv false (.sl nl0 1 (bases.map ints))] _ (fun mz vs => ∃ (k : Nat), mz = bases.length - k ∧ (k ≤ bases.length) ∧ (∀ i, i < k → ordM bases i ≠ []) ∧ vs = [i64 k]) (bases.length) rfl rfl (le_len hC rfl) ⟨rfl, rfl, rfl⟩ ⟨0, rfl, Nat.zero_le _, (fun i h => by omega), rfl⟩ ?_
 rintro mz vs - ⟨k, rfl, hk, hf, rfl⟩
 refine vc_stN ?_
 refine vc_seq fun K4 hK4 => ?_
 refine vc_seq fun K5 hK5 => ?_
 refine vc_region ?_
 refine vo_move_pv rfl rfl ?_
 refine vo_move_pv rfl rfl ?_
 refine vo_len_pv rfl rfl Try.underlying23 ?_
 refine vo_binI rfl rfl rfl rfl trivial ?_
 refine vo_nil ?_
 refine hK5 _ ?_
 refine vc_cond rfl (fun hc1 => ?_) (fun hc1 => ?_)
 ·try simp only [zq0, zq1, zq2, zq3, zq4, zq5, zq6, zq7, zq8, zq9, zqa, zqb, zqc, zqd, zqe, zqf] at hc1
  refine vc_skip ?_
  refine hK4 _ ?_
  refine vc_seq fun K6 hK6 => ?_
  refine vc_block ?_
  refine vc_seq fun K7 hK7 => ?_
  refine vc_region ?_
  refine vo_move_pv rfl rfl ?_
  refine vo_move_pv rfl rfl ?_
  refine vo_call [] Try.func65 rfl rfl rfl rfl rfl rfl rfl (orderOf_sat hbases hlbases hv k (by omega)) ?_
  rintro _ _ ⟨nl9, rfl, rfl⟩
  refine ⟨Nat.le_of_ble_eq_true rfl, ⟨rfl, rfl, rfl, rfl⟩, .inl rfl, ?_⟩
  refine vo_stN ?_
  refine vo_len_ref rfl rfl rfl Try.underlying28 ?_
  refine vo_binI rfl rfl rfl rfl trivial ?_
  refine vo_nil ?_
  refine hK7 _ ?_
  refine vc_cond rfl (fun hc2 => ?_) (fun hc2 => ?_)
  ·try simp only [zq0, zq1, zq2, zq3, zq4, zq5, zq6, zq7, zq8, zq9, zqa, zqb, zqc, zqd, zqe, zqf] at hc2
   refine vc_seq fun K8 hK8 => ?_
   refine vc_region ?_
   refine vo_assign_pv rfl rfl ?_
   refine vo_nil ?_
   refine hK8 _ ?_
   refine vc_ret ?_
   change retPv _ _ _ _ _
   refine retPv_mk rfl rfl rfl ⟨?_, rfl⟩
   refine (congrArg (fun b => [bo b]) (?_ : _ = _) : [bo _] = [bo _])
   exact bF fun h => h k (by omega) (List.eq_nil_of_length_eq_zero (by omega))
  ·try simp only [zq0, zq1, zq2, zq3, zq4, zq5, zq6, zq7, zq8, zq9, zqa, zqb, zqc, zqd, zqe, zqf] at hc2
   refine vc_skip ?_
   refine hK6 _ ?_
   refine vc_region ?_
   refine vo_move_pv rfl rfl ?_
   refine vo_binI rfl rfl rfl rfl sd ?_
   refine vo_assign_pv rfl rfl ?_
   refine vo_nil ?_
   change againF _ _ _ _ _ _ _ _ _
   refine againF_mk rfl rfl rfl rfl rfl rfl ⟨_, ?_, k + 1, rfl, ?_, ?_, rfl⟩
   ·omega
   ·omega
   ·intro i hi; rcases Nat.lt_or_ge i k with h1 | h1; exact hf i h1; rw [show i = k by omega]; intro e; rw [e] at hc2; simp at hc2
 ·try simp only [zq0, zq1, zq2, zq3, zq4, zq5, zq6, zq7, zq8, zq9, zqa, zqb, zqc, zqd, zqe, zqf] at hc1
  refine vc_exit ?_
  refine hK2 _ ?_
  refine vc_seq fun K9 hK9 => ?_
  refine vc_region ?_
  refine vo_assign_pv rfl rfl ?_
  refine vo_nil ?_
  refine hK9 _ ?_
  refine vc_ret ?_
  change retPv _ _ _ _ _
  refine retPv_mk rfl rfl rfl ⟨?_, rfl⟩
  refine (congrArg (fun b => [bo b]) (?_ : _ = _) : [bo _] = [bo _])
  exact bT fun i hi => hf i (by omega)


theorem implAllOrders_sat {nl0 : Option Bool} {bases : List (List Int)} (hbases : bases.length < 1000000000) (hlbases : ∀ l ∈ bases, l.length < 1000000000)  : SatAt Try.prog 57 [.pv false (.sl nl0 1 (bases.map ints))] [] (fun res rows => res = [bo (decide (allOK bases))] ∧ rows = []) := by
 refine sat_entry (ts := [2]) Try.func57 rfl rfl (by decide) (Nat.le_of_ble_eq_true rfl) fun C hC => ?_
 rw [Try.ntmps57]
 replace hC : C.nb = 0 := hC
 refine vc_seq fun K1 hK1 => ?_
 refine vc_region ?_
 refine vo_assign_pv rfl rfl ?_
 refine vo_nil ?_
 refine hK1 _ ?_
 refine vc_seq fun K2 hK2 => ?_
 refine vc_seq fun K3 hK3 => ?_
 refine vc_region ?_
 refine vo_move_pv rfl rfl ?_
 refine vo_call0 Try.func77 rfl rfl rfl rfl (implValidBases_sat hbases hlbases) ?_
 rintro _ _ ⟨rfl, rfl⟩
 refine ⟨rfl, rfl, .inl rfl, ?_⟩
 refine vo_not rfl rfl ?_
 refine vo_nil ?_
 refine hK3 _ ?_
 refine vc_cond rfl (fun hc1 => ?_) (fun hc1 => ?_)
 ·try simp only [zq0, zq1, zq2, zq3, zq4, zq5, zq6, zq7, zq8, zq9, zqa, zqb, zqc, zqd, zqe, zqf] at hc1
  refine vc_seq fun K4 hK4 => ?_
  refine vc_region ?_
  refine vo_assign_pv rfl rfl ?_
  refine vo_nil ?_
  refine hK4 _ ?_
  refine vc_ret ?_
  change retPv _ _ _ _ _
  refine retPv_mk rfl rfl rfl ⟨?_, rfl⟩
  refine (congrArg (fun b => [bo b]) (?_ : _ = _) : [bo _] = [bo _])
  exact bF fun h => hc1 h.1
 ·try simp only [zq0, zq1, zq2, zq3, zq4, zq5, zq6, zq7, zq8, zq9, zqa, zqb, zqc, zqd, zqe, zqf] at hc1
  have h1 := hc1.1
  have hTl2 := ordT_len bases (((bases.length : Int) - 1).toNat + 1)
  have hlm : (bases.map ints).length = bases.length := List.length_map ..
  have hTl := ordT_len bases ((((bases.map ints).length : Int) - 1).toNat + 1)
  have hN : (((bases.map ints).length : Int) - 1).toNat + 1 = bases.length := by omega
  refine vc_skip ?_
  refine hK2 _ ?_
  refine vc_seq fun K5 hK5 => ?_
  refine vc_seq fun K6 hK6 => ?_
  refine vc_region ?_
  refine vo_move_pv rfl rfl ?_
  refine vo_move_pv rfl rfl ?_
  refine vo_len_pv rfl rfl Try.underlying23 ?_
  refine vo_binI rfl rfl rfl rfl sd ?_
  refine vo_call [] Try.func62 rfl rfl rfl rfl rfl rfl rfl (ordersUpTo_satI (c := ((bases.map ints).length : Int) - 1) hbases hlbases hc1 (by have := hc1.1; rw [List.length_map]; omega) (by rw [List.length_map]; omega)) ?_
  rintro _ _ ⟨rfl, rfl⟩
  refine ⟨Nat.le_of_ble_eq_true rfl, ⟨rfl, rfl, rfl, rfl⟩, .inl rfl, ?_⟩
  refine vo_stN ?_
  refine vo_len_ref rfl rfl rfl Try.underlying23 ?_
  refine vo_move_pv rfl rfl ?_
  refine vo_nil ?_
  refine hK6 _ ?_
  refine vc_block ?_
  refine vc_stN ?_
  refine vc_loop [12, 13, 14] (fun mz vs rows => ∃ (k : Nat), mz = bases.length - k ∧ (k ≤ bases.length) ∧ (∀ i, i < k → ordM bases i ≠ []) ∧ vs = [.ref 0, i64 (((ordT bases ((((bases.map ints).length : Int) - 1).toNat + 1)).map ordP).length : Nat), i64 k] ∧ rows = [Row.tree 28 1 (some false) none ((ordT bases ((((bases.map ints).length : Int) - 1).toNat + 1)).map ordP)]) (bases.length) (le_len hC rfl) ⟨rfl, rfl⟩ ⟨0, rfl, Nat.zero_le _, (fun i h => by omega), rfl, rfl⟩ ?_
  rintro mz vs rows - - ⟨k, rfl, hk, hf, rfl, rfl⟩
  refine vc_seq fun K7 hK7 => ?_
  refine vc_region ?_
  refine vo_binI rfl rfl rfl rfl trivial ?_
  refine vo_nil ?_
  refine hK7 _ ?_
  refine vc_seq fun K8 hK8 => ?_
  refine vc_cond rfl (fun hc2 => ?_) (fun hc2 => ?_)
  ·try simp only [zq0, zq1, zq2, zq3, zq4, zq5, zq6, zq7, zq8, zq9, zqa, zqb, zqc, zqd, zqe, zqf] at hc2
   refine vc_skip ?_
   refine hK8 _ ?_
   refine vc_seq fun K9 hK9 => ?_
   refine vc_block ?_
   refine vc_seq fun K10 hK10 => ?_
   refine vc_region ?_
   refine vo_index_ref rfl rfl rfl rfl E23.und inf28 sz28 sd sd ?_
   try simp only [Int.toNat_natCast]
   refine vo_load_sub rfl rfl rfl Try.underlying28 rfl sd fun u1 => ?_
   refine vo_stN ?_
   refine vo_assign rfl ?_
   refine vo_nil ?_
   refine hK10 _ ?_
   refine vc_seq fun K11 hK11 => ?_
   refine vc_region ?_
   refine vo_move rfl ?_
   refine vo_eqnil_val (id := 0) rfl rfl rfl (get_ord (o := ordT bases ((((bases.map ints).length : Int) - 1).toNat + 1)) (k := k) (by rw [hTl]; omega)) Try.underlying28 fun bn1 hn1 hnt1 hnf1 => ?_
   refine vo_unknow 0 rfl ?_
   refine vo_stN ?_
   refine vo_nil ?_
   refine hK11 _ ?_
   refine vc_cond rfl (fun hc3 => ?_) (fun hc3 => ?_)
   ·try simp only [zq0, zq1, zq2, zq3, zq4, zq5, zq6, zq7, zq8, zq9, zqa, zqb, zqc, zqd, zqe, zqf] at hc3
    have hg := ordT_get bases ((((bases.map ints).length : Int) - 1).toNat + 1) k (by omega)
    rw [hg] at hn1 hnt1 hnf1
    have hb := bEmp hnt1 hnf1
    have hE : ordM bases k = [] := List.isEmpty_iff.1 (hb.symm.trans hc3)
    refine vc_seq fun K12 hK12 => ?_
    refine vc_region ?_
    refine vo_assign_pv rfl rfl ?_
    refine vo_nil ?_
    refine hK12 _ ?_
    refine vc_ret ?_
    change retPv _ _ _ _ _
    refine retPv_mk rfl rfl rfl ⟨?_, rfl⟩
    refine (congrArg (fun b => [bo b]) (?_ : _ = _) : [bo _] = [bo _])
    exact bF fun h => h.2 k (by omega) hE
   ·try simp only [zq0, zq1, zq2, zq3, zq4, zq5, zq6, zq7, zq8, zq9, zqa, zqb, zqc, zqd, zqe, zqf] at hc3
    have hg := ordT_get bases ((((bases.map ints).length : Int) - 1).toNat + 1) k (by omega)
    rw [hg] at hn1 hnt1 hnf1
    have hb := bEmp hnt1 hnf1
    have hE : ordM bases k ≠ [] := fun e => by rw [e] at hb; simp [hb] at hc3
    refine vc_skip ?_
    refine hK9 _ ?_
    refine vc_region ?_
    refine vo_binI rfl rfl rfl rfl sd ?_
    refine vo_move_pv rfl rfl ?_
    refine vo_nil ?_
    change again _ _ _ _ _ _
    refine again_mk rfl rfl rfl rfl ⟨_, ?_, k + 1, rfl, ?_, ?_, rfl, rfl⟩
    ·omega
    ·omega
    ·intro i hi; rcases Nat.lt_or_ge i k with h1 | h1; exact hf i h1; rw [show i = k by omega]; exact hE
  ·try simp only [zq0, zq1, zq2, zq3, zq4, zq5, zq6, zq7, zq8, zq9, zqa, zqb, zqc, zqd, zqe, zqf] at hc2
   refine vc_exit ?_
   refine hK5 _ ?_
   refine vc_seq fun K13 hK13 => ?_
   refine vc_region ?_
   refine vo_assign_pv rfl rfl ?_
   refine vo_nil ?_
   refine hK13 _ ?_
   refine vc_ret ?_
   change retPv _ _ _ _ _
   refine retPv_mk rfl rfl rfl ⟨?_, rfl⟩
   refine (congrArg (fun b => [bo b]) (?_ : _ = _) : [bo _] = [bo _])
   exact bT ⟨hc1, fun i hi => hf i (by omega)⟩

end Go.Vl

namespace Go.Vl
set_option linter.unusedVariables false
set_option linter.unusedSimpArgs false
open Go.Proofs
def anms (l : List AttrM) : List Int := l.map AttrM.name
@[simp] theorem anms_len (l : List AttrM) : (anms l).length = l.length := by simp [anms]
theorem take_anms (l : List AttrM) (k : Nat) : (anms l).take k = anms (l.take k) := by simp [anms]
def okAttr (a : AttrM) : Prop := (0 ≤ a.name ∧ a.name ≤ 9) ∧ (0 ≤ a.kind ∧ a.kind ≤ 5) ∧ (0 ≤ a.value ∧ a.value ≤ 99)
instance (a : AttrM) : Decidable (okAttr a) := by unfold okAttr; exact inferInstance
def AAttrs (l : List AttrM) : Prop := l.length ≤ 8 ∧ (anms l).Nodup ∧ ∀ a ∈ l, okAttr a
instance (l : List AttrM) : Decidable (AAttrs l) := by unfold AAttrs; exact inferInstance
def okObj (n : Nat) (o : ObjM) : Prop := (0 ≤ o.cls ∧ o.cls ≤ (n : Int) - 1) ∧ o.pairs.length ≤ 8 ∧ AOwn o.pairs
instance (n : Nat) (o : ObjM) : Decidable (okObj n o) := by unfold okObj; exact inferInstance
def VWorld (w : WorldM) : Prop := allOK w.bases ∧ w.attrs.length = w.bases.length ∧ w.objs.length ≤ 6 ∧ (∀ l ∈ w.attrs, AAttrs l) ∧ ∀ o ∈ w.objs, okObj w.bases.length o
instance (w : WorldM) : Decidable (VWorld w) := by unfold VWorld; exact inferInstance

end Go.Vl

namespace Go.Vl
set_option linter.unusedVariables false
set_option linter.unusedSimpArgs false
open Go.Proofs

end Go.Vl

namespace Go.Vl
set_option linter.unusedVariables false
set_option linter.unusedSimpArgs false
open Go.Proofs

theorem copyInts_sat {nl0 : Option Bool} {list : List Int} (hlist : list.length < 1000000000)  : SatAt Try.prog 103 [.pv false (.sl nl0 1 (list.map intP))] [] (fun res rows => ∃ nl, res = [.ref 0] ∧ rows = [Row.own 3 1 nl true ((list).map intP)]) := by
 refine sat_entry_g (ts := [2]) Try.func103 rfl rfl (by decide) (Nat.le_of_ble_eq_true rfl) fun C hC => ?_
 rw [Try.ntmps103]
 replace hC : C.nb = 0 := hC
 refine vc_seq fun K1 hK1 => ?_
 refine vc_region ?_
 refine vo_assign_pv rfl rfl ?_
 refine vo_nil ?_
 refine hK1 _ ?_
 refine vc_seq fun K2 hK2 => ?_
 refine vc_region ?_
 refine vo_buildSlice E28 rfl rfl rfl rfl rfl ?_
 refine vo_move_pv rfl rfl ?_
 refine vo_append E28 rfl (by omega) rfl rfl rfl sd sd ?_
 refine vo_stN ?_
 try simp only [app_ints, app_intss, app_bools]
 refine vo_clean 0 rfl (scal_ints _) ?_
 refine vo_stN ?_
 refine vo_assign_ref rfl rfl ?_
 refine vo_nil ?_
 refine hK2 _ ?_
 refine vc_ret ?_
 change retG _ _ _ _ _
 refine retG_one 0 hC rfl rfl rfl rfl rfl ?_
 exact ⟨_, rfl, rfl⟩


theorem cloneI_sat {nl0 : Option Bool} {s : List Int} (hs : s.length < 1000000000)  : SatAt Try.prog 67 [.pv false (.sl nl0 1 (s.map intP))] [] (fun res rows => ∃ nl, res = [.ref 0] ∧ rows = [Row.own 3 1 nl true ((s).map intP)]) := by
 refine sat_entry_g (ts := [2]) Try.func67 rfl rfl (by decide) (Nat.le_of_ble_eq_true rfl) fun C hC => ?_
 rw [Try.ntmps67]
 replace hC : C.nb = 0 := hC
 refine vc_seq fun K1 hK1 => ?_
 refine vc_region ?_
 refine vo_assign_pv rfl rfl ?_
 refine vo_nil ?_
 refine hK1 _ ?_
 refine vc_seq fun K2 hK2 => ?_
 refine vc_seq fun K3 hK3 => ?_
 refine vc_region ?_
 refine vo_move_pv rfl rfl ?_
 refine vo_eqnil rfl rfl Try.underlying28 fun bn1 hn1 hnt1 hnf1 => ?_
 refine vo_nil ?_
 refine hK3 _ ?_
 refine vc_cond rfl (fun hc1 => ?_) (fun hc1 => ?_)
 ·try simp only [zq0, zq1, zq2, zq3, zq4, zq5, zq6, zq7, zq8, zq9, zqa, zqb, zqc, zqd, zqe, zqf] at hc1
  have hnil : s = [] := by have := hn1 hc1; simpa using this
  subst hnil
  refine vc_seq fun K4 hK4 => ?_
  refine vc_region ?_
  refine vo_assign_pv rfl rfl ?_
  refine vo_nil ?_
  refine hK4 _ ?_
  refine vc_own_nil 2 E28 rfl ?_
  refine vc_ret ?_
  change retG _ _ _ _ _
  refine retG_one 0 hC rfl rfl rfl rfl rfl ?_
  exact ⟨_, rfl, rfl⟩
 ·try simp only [zq0, zq1, zq2, zq3, zq4, zq5, zq6, zq7, zq8, zq9, zqa, zqb, zqc, zqd, zqe, zqf] at hc1
  refine vc_skip ?_
  refine hK2 _ ?_
  refine vc_seq fun K5 hK5 => ?_
  refine vc_region ?_
  refine vo_buildSlice E28 rfl rfl rfl rfl rfl ?_
  refine vo_move_pv rfl rfl ?_
  refine vo_append E28 rfl (by omega) rfl rfl rfl sd sd ?_
  refine vo_stN ?_
  try simp only [app_ints, app_intss, app_bools]
  refine vo_clean 0 rfl (scal_ints _) ?_
  refine vo_stN ?_
  refine vo_assign_ref rfl rfl ?_
  refine vo_nil ?_
  refine hK5 _ ?_
  refine vc_ret ?_
  change retG _ _ _ _ _
  refine retG_one 0 hC rfl rfl rfl rfl rfl ?_
  exact ⟨_, rfl, rfl⟩


end Go.Vl

/- A cell of a variable that holds a nil slice holds a row of the call's own that is empty. -/
namespace Go.Vl
set_option linter.unusedVariables false
set_option linter.unusedSimpArgs false
open Go.RowKit
section
variable {P : Program} {C : Ctx} {Q : Go.Exit → St → Prop} {s : St} {ops : Array Oper}

end
end Go.Vl

/- Cells of rows whose slices are their own: a plain one is written; a slice in one is lent to a function, which may write it. -/
namespace Go.Vl
set_option linter.unusedVariables false
set_option linter.unusedSimpArgs false
open Go.RowKit

section
variable {P : Program} {C : Ctx} {Q : Go.Exit → St → Prop} {s : St} {ops : Array Oper} {rest : List Oper} {t : Nat} {ty : TypeId} {pos : String} {af : Array Edge}

end
end Go.Vl

/- Numbers that are written into the cells of lists, one by one (pure). -/
namespace Go.Vl
set_option linter.unusedVariables false
set_option linter.unusedSimpArgs false

def mkS {α : Type} (f : Int → α → α) (g : Int → α → Int) : Int → List α → List α
  | _, [] => []
  | k, x :: r => f k x :: mkS f g (g k x) r
def mkN {α : Type} (g : Int → α → Int) : Int → List α → Int
  | k, [] => k
  | k, x :: r => mkN g (g k x) r
section
variable {α : Type} {f : Int → α → α} {g : Int → α → Int}
end
end Go.Vl
namespace Go.Vl
end Go.Vl

/- More operations: the room of a nil slice, 'append(nil, make(..)...)', cells that hold a function. -/
namespace Go.Vl
set_option linter.unusedVariables false
set_option linter.unusedSimpArgs false
open Go.RowKit
section
variable {P : Program} {C : Ctx} {Q : Go.Exit → St → Prop} {s : St}
variable {ops : Array Oper} {rest : List Oper} {t : Nat} {ty : TypeId} {pos : String} {af : Array Edge}

theorem vo_cap_nil {x : Operand} {f : Bool} {e : Nat} {T el : TypeId} (ht : Nat.blt t s.n = true) (hx : getO s.env x = .pv f (.sl (some true) e [])) (hT : P.underlying T = some (.slice el))
    (next : VO P C ops rest Q (s.put t (.pv true (.int .i64 0)))) : VO P C ops (⟨some t, .call ⟨.builtin .cap, #[x], #[T]⟩, ty, pos, af, none⟩ :: rest) Q s := by
  refine vo_pure ht (fun m a w hs => ?_) next
  have hv := hs.get x
  rw [hx] at hv
  have hv := hv.pv_inv
  refine ⟨.int .i64 0, fun _ _ => ?_, .pv _ _ _ (.int _ _)⟩
  generalize hav : a.eval x = v at hv
  cases hv with
  | nilsl => simp [execOp, resolve, invoke, builtin, Builtin.cap_, hav, run_underlying hT, goInt]
  | sl nl e xs ad len cap f h hs' hl => exact absurd rfl h

/-- append(nil, make([]T, n)...) with n > 0. -/
theorem vo_appendMade {x y : Operand} {T U el e by' : Nat} {d : PV} {f1 f2 : Bool} {e1 : Nat} {k1 k2 : IntKind} {n : Int} (hI : ElInfo P T el e by' d) (hU : P.underlying U = some (.int k2)) (ht : Nat.blt t s.n = true)
    (hx : getO s.env x = .pv f1 (.sl (some true) e1 [])) (hy : getO s.env y = .pv f2 (.int k1 n)) (h0 : 0 < n) (hby : by' * n.toNat ≤ 281474976710656) (hmx : n ≤ 1000000000000)
    (next : VO P C ops rest Q ⟨s.n, (t, .ref s.rows.length) :: s.env, s.rows ++ [.own el e (some false) true (List.replicate n.toNat d)]⟩) :
    VO P C ops (⟨some t, .call ⟨.builtin .append, #[x, y], #[T, U]⟩, ty, pos, af, none⟩ :: rest) Q s := by
  obtain ⟨hT, ⟨inf, z, hinf, hsz, hbytes, hz, hzs, hzr⟩, hdf, he⟩ := hI
  refine vo_value (s1 := { s with rows := s.rows ++ [.own el e (some false) true (List.replicate n.toNat d)] }) (sv := .ref s.rows.length) ht (fun m a w hs => ?_) next
  obtain ⟨k, rfl⟩ := Int.eq_ofNat_of_zero_le (Int.le_of_lt h0)
  simp only [Int.toNat_natCast] at *
  have e2 := hs.int hy
  have e1 : a.eval x = .slice none 0 0 := by
    have hv := hs.get x
    rw [hx] at hv
    have hv := hv.pv_inv
    generalize a.eval x = v at hv
    cases hv with
    | nilsl => rfl
    | sl nl e xs ad len cap f h hs' hl => exact absurd rfl h
  have hrun := Lib.run_append_nil_zeros (P := P) w T U ty el inf z k1 k2 hT hU hinf hz k (by omega) (by rw [hsz]; exact he) (by omega) (by rw [hbytes, Nat.mul_comm]; exact hby)
  have hge := grownCap_ge w k 0 el
  have hcm : grownCap w k 0 el ≤ maxLen := grownCap_le_maxLen w k 0 el (by simp only [maxLen]; omega)
  have hzc : ∀ q, (Builtin.zeroCells z.cells q).size = q * e := fun q => by rw [size_zeroCells, hzs]
  generalize hgc : grownCap w k 0 el = gc at hrun hge hcm
  let w' := w.drew.alloc (.cells (Builtin.zeroCells z.cells k ++ Builtin.zeroCells z.cells (gc - k)) el)
  have hg : w.grownBy w' none := ⟨rfl, rfl, rfl, by simp [w'], fun b hb _ => heap_alloc_old w.drew _ hb⟩
  have hown : w'.ownsRow 0 el e (.slice (some ⟨w.heap.size, 0, none⟩) k gc) k (Builtin.zeroCells z.cells k).toList := by
    refine ⟨by simp [hzc], .inr ⟨w.heap.size, gc, _, rfl, Nat.zero_le _, heap_alloc_new w.drew _, hge, hcm, ?_, ?_⟩⟩
    · simp only [Array.size_append, hzc, ← Nat.add_mul]
      congr 1; omega
    · simp only [Array.toList_append]
      rw [show k * e = (Builtin.zeroCells z.cells k).toList.length by simp [hzc]]
      exact List.take_left
  have hadd := hs.addRow (w' := w') hg (.own el e (some false) true (List.replicate k d)) (.of <| .slice (some ⟨w.heap.size, 0, none⟩) k gc)
    (fun b hb => by simp [MV.of, blk] at hb; omega) (fun hG => ?_)
  · refine ⟨.slice (some ⟨w.heap.size, 0, none⟩) k gc, w', _, by simp [execOp, resolve, invoke, builtin, e1, e2, hrun, w'], hadd.1, ?_⟩
    have := RS.ref (w := w') (G := Gd C (s.rows ++ [.own el e (some false) true (List.replicate k d)]) (updM m s.rows.length (.of <| .slice (some ⟨w.heap.size, 0, none⟩) k gc)) w')
      (m := updM m s.rows.length (.of <| .slice (some ⟨w.heap.size, 0, none⟩) k gc)) (N := (s.rows ++ [Row.own el e (some false) true (List.replicate k d)]).length) s.rows.length (by simp)
    rw [updM_same] at this
    exact this
  · refine .own _ el e _ true _ (Builtin.zeroCells z.cells k).toList (by simpa using hown) (fun h => by cases h) (fun _ h => by cases h) (fun i x hx => ?_) (fun i x j c hx hc => ?_)
    · rw [List.getElem?_replicate] at hx
      split at hx
      · cases hx; exact hdf
      · cases hx
    · rw [List.getElem?_replicate] at hx
      split at hx
      · rename_i hi
        cases hx
        have hj : j < e := by rw [← hdf.1]; exact (List.getElem?_eq_some_iff.1 hc).1
        have hlt : i * e + j < k * e := by
          have := Nat.mul_le_mul_right e (show i + 1 ≤ k by omega)
          rw [Nat.add_mul] at this
          omega
        have e2 : (i * e + j) % e = j := by rw [Nat.add_comm, Nat.add_mul_mod_self_right]; exact Nat.mod_eq_of_lt hj
        obtain ⟨u, hu, hp⟩ := (hzr w' (Gd C (s.rows ++ [.own el e (some false) true (List.replicate k d)]) (updM m s.rows.length (.of <| .slice (some ⟨w.heap.size, 0, none⟩) k gc)) w' true)).cells.2 j c hc
        refine ⟨u, ?_, hp⟩
        simp only [Builtin.zeroCells, Array.getElem?_toList, Array.getElem?_map, Array.getElem?_range, hlt, if_true, Option.map_some, hzs, e2]
        rw [← hu]
        have hjs : j < z.cells.size := by rw [hzs]; exact hj
        simp [hjs]
      · cases hx

def goneL (xs : List PV) : List PV := xs.map fun _ => .gone
theorem SimM.togone {m : Nat → MV} {a : Act} {w : World} (hs : SimM C s m a w) (id : Nat) {el : Nat} {nl : Option Bool} {f : Bool} {xs : List PV} (hrow : s.rows[id]? = some (.own el 1 nl f xs)) :
    SimM C ⟨s.n, s.env, s.rows.set id (.tree el 1 nl none (goneL xs))⟩ m a w := by
  have hR := hs.rows id _ hrow
  refine hs.storeRow (id := id) ⟨_, hrow, rfl⟩ (bo := none) (fun b hb => by cases hb) ⟨rfl, rfl, rfl, Nat.le_refl _, fun _ _ _ => rfl⟩ _ (fun hG => ?_)
  generalize m id = mv at *
  cases hR with
  | own v t e nl fr xs vs hown h1 h2 hw hr =>
    have hl : (goneL xs).length = xs.length := by simp [goneL]
    have hS : ∀ b, (MV.of v).S b ↔ blk v = some b ∨ ∃ q : Nat, (fun _ _ => False : Nat → Nat → Prop) q b := fun b => ⟨.inl, fun h => h.elim (fun h => h) (fun ⟨_, h⟩ => h.elim)⟩
    refine .tree (MV.of v) el 1 nl none (goneL xs) vs (fun _ _ => False) (by rw [hl]; exact hown) h1 h2 (fun i x hx => ?_) (fun i x j c u hx hc hu => ?_) (fun _ _ _ h => h.elim) (fun _ _ h => h.elim) (fun _ _ _ h => h) hS (fun _ _ h => by cases h)
    · simp only [goneL, List.getElem?_map, Option.map_eq_some_iff] at hx
      obtain ⟨y, _, rfl⟩ := hx
      exact fits_of rfl
    · simp only [goneL, List.getElem?_map, Option.map_eq_some_iff] at hx
      obtain ⟨y, hy, rfl⟩ := hx
      match j, hc with
      | 0, hc =>
        simp [PV.cells] at hc
        subst hc
        have hlen := (hw i y hy).1
        have hy0 : y.cells[0]? = some y.cells[0] := List.getElem?_eq_getElem (by omega)
        obtain ⟨u2, hu2, hp⟩ := hr i y 0 _ hy hy0
        rw [hu] at hu2
        cases hu2
        exact .inl (.gone u _ (hp.oneCell ((hw i y hy).2 0 _ hy0)) (fun _ h => h))
theorem vo_togone {l : List Oper} (id : Nat) {el : Nat} {nl : Option Bool} {f : Bool} {xs : List PV} (hrow : s.rows[id]? = some (.own el 1 nl f xs))
    (next : VO P C ops l Q ⟨s.n, s.env, s.rows.set id (.tree el 1 nl none (goneL xs))⟩) : VO P C ops l Q s := fun a w ⟨m, hs⟩ => next a w ⟨m, hs.togone id hrow⟩
end
end Go.Vl

namespace Go.Vl
set_option linter.unusedVariables false
set_option linter.unusedSimpArgs false
open Go.Proofs

structure WorksM where
  bases : List (List Int)
  abs : List (List Int)
  real : List (List Int)
  deriving Inhabited, DecidableEq
abbrev worksP (w : WorksM) : PV := .agg [.sl none 1 (w.bases.map ints), .sl none 1 (w.abs.map ints), .sl none 1 (w.real.map ints)]
def GK63 (w : WorksM) : Prop := (w.bases.length ≤ 9223372036854775807 ∧ ∀ l ∈ w.bases, l.length ≤ 9223372036854775807) ∧ (w.abs.length ≤ 9223372036854775807 ∧ ∀ l ∈ w.abs, l.length ≤ 9223372036854775807) ∧ (w.real.length ≤ 9223372036854775807 ∧ ∀ l ∈ w.real, l.length ≤ 9223372036854775807)
def SK (w : WorksM) : Prop := (w.bases.length ≤ 2000000 ∧ ∀ l ∈ w.bases, l.length ≤ 2000000) ∧ (w.abs.length ≤ 2000000 ∧ ∀ l ∈ w.abs, l.length ≤ 2000000) ∧ (w.real.length ≤ 2000000 ∧ ∀ l ∈ w.real, l.length ≤ 2000000)
theorem opn_lworks : Opens Try.prog 32 3 worksP GK63 := by
  have h := opens_struct (P := Try.prog) (t := 32) Try.underlying32 (by kernel_rfl) (openF_cons opn_intss rfl (show Try.prog.cellsOf 23 = 1 by kernel_rfl) (openF_cons opn_intss rfl (show Try.prog.cellsOf 23 = 1 by kernel_rfl) (openF_cons opn_intss rfl (show Try.prog.cellsOf 23 = 1 by kernel_rfl) openF_nil)))
  exact opens_map h (fun a => ⟨a.1, a.2.1, a.2.2.1⟩) (fun _ => rfl) (fun _ h => ⟨⟨h.1.1, fun l hl => (h.1.2 l hl).1⟩, ⟨h.2.1.1, fun l hl => (h.2.1.2 l hl).1⟩, h.2.2.1.1, fun l hl => (h.2.2.1.2 l hl).1⟩)
def okWk (a r : List Int) : Prop := (a ++ r).Nodup ∧ ∀ n ∈ a ++ r, 0 ≤ n ∧ n ≤ 9
instance (a r : List Int) : Decidable (okWk a r) := by unfold okWk; exact inferInstance
def VWorks (x : WorksM) : Prop := allOK x.bases ∧ x.abs.length = x.bases.length ∧ x.real.length = x.bases.length ∧ ∀ i, i < x.bases.length → okWk (x.abs.getD i []) (x.real.getD i [])
instance (x : WorksM) : Decidable (VWorks x) := by unfold VWorks; exact inferInstance
theorem nodup_le10 {l : List Int} (h : l.Nodup) (hr : ∀ n ∈ l, 0 ≤ n ∧ n ≤ 9) : l.length ≤ 10 := pig 10 l h fun n hn => by have := hr n hn; omega
theorem flat_succ {L : List (List Int)} {k : Nat} (h : k < L.length) : (L.take (k+1)).flatten = (L.take k).flatten ++ L.getD k [] := by
  have e : L.take (k+1) = L.take k ++ [L.getD k []] := by rw [List.take_add_one, List.getD, List.getElem?_eq_getElem h]; rfl
  rw [e, List.flatten_append]; simp
theorem flat_len {L : List (List Int)} {k : Nat} (h : k < L.length) : (L.take (k+1)).flatten.length = (L.take k).flatten.length + (L.getD k []).length := by rw [flat_succ h, List.length_append]
theorem okWk_len {a r : List Int} (h : okWk a r) : a.length + r.length ≤ 10 := by
  have := nodup_le10 h.1 h.2
  rwa [List.length_append] at this

theorem Grow_nil_sat {f : Bool} {n : Int} (h0 : 0 ≤ n) (h1 : n ≤ 1000000) : SatAt Try.prog 132 [.pv f (.sl (some true) 1 []), i64 n] [] (fun res rows => res = [.ref 0] ∧ ∃ nl, rows = [Row.own 3 1 nl true []]) := by
 refine sat_entry_G (rs := [(4, none)]) Try.func132 rfl rfl (Nat.le_of_ble_eq_true rfl) (Nat.le_of_ble_eq_true rfl) (resTs1 trivial) fun C hC => ?_
 rw [Try.ntmps132]
 replace hC : C.nb = 0 := hC
 refine vc_seq fun K1 hK1 => ?_
 refine vc_region ?_
 refine vo_assign_pv rfl rfl ?_
 refine vo_nil ?_
 refine hK1 _ ?_
 refine vc_seq fun K2 hK2 => ?_
 refine vc_seq fun K3 hK3 => ?_
 refine vc_region ?_
 refine vo_move_pv rfl rfl ?_
 refine vo_binI rfl rfl rfl rfl trivial ?_
 refine vo_nil ?_
 refine hK3 _ ?_
 refine vc_cond rfl (fun hc1 => ?_) (fun hc1 => ?_)
 ·try simp only [zq0, zq1, zq2, zq3, zq4, zq5, zq6, zq7, zq8, zq9, zqa, zqb, zqc, zqd, zqe, zqf] at hc1
  omega
 ·try simp only [zq0, zq1, zq2, zq3, zq4, zq5, zq6, zq7, zq8, zq9, zqa, zqb, zqc, zqd, zqe, zqf] at hc1
  refine vc_skip ?_
  refine hK2 _ ?_
  refine vc_seq fun K4 hK4 => ?_
  refine vc_seq fun K5 hK5 => ?_
  refine vc_region ?_
  refine vo_move_pv rfl rfl ?_
  refine vo_move_pv rfl rfl ?_
  refine vo_cap_nil rfl rfl Try.underlying28 ?_
  refine vo_move_pv rfl rfl ?_
  refine vo_len_pv rfl rfl Try.underlying28 ?_
  refine vo_stM ?_
  refine vo_binI rfl rfl rfl rfl sd ?_
  refine vo_binI rfl rfl rfl rfl sd ?_
  refine vo_assign_pv rfl rfl ?_
  refine vo_nil ?_
  refine hK5 _ ?_
  refine vc_seq fun K6 hK6 => ?_
  refine vc_region ?_
  refine vo_move_pv rfl rfl ?_
  refine vo_binI rfl rfl rfl rfl trivial ?_
  refine vo_nil ?_
  refine hK6 _ ?_
  refine vc_cond rfl (fun hc2 => ?_) (fun hc2 => ?_)
  ·try simp only [zq0, zq1, zq2, zq3, zq4, zq5, zq6, zq7, zq8, zq9, zqa, zqb, zqc, zqd, zqe, zqf] at hc2
   refine vc_region ?_
   refine vo_move_pv rfl rfl ?_
   refine vo_move_pv rfl rfl ?_
   refine vo_cap_nil rfl rfl Try.underlying28 ?_
   refine vo_slice_pv rfl rfl rfl rfl E28.und inf3 sz3 sd sd sd ?_
   simp only [Int.toNat_natCast, Int.toNat_zero, List.drop_zero, Nat.sub_zero, ← List.map_drop, ← List.map_take]
   refine vo_stM ?_
   refine vo_move_pv rfl rfl ?_
   refine vo_appendMade E28 Try.underlying3 rfl rfl rfl (by omega) sd (by omega) ?_
   refine vo_stM ?_
   refine vo_move_pv rfl rfl ?_
   refine vo_len_pv rfl rfl Try.underlying28 ?_
   refine vo_slice_ref rfl rfl rfl rfl rfl E28.und inf3 sz3 sd sd sd ?_
   try simp only [Int.toNat_natCast, Int.toNat_zero]
   refine vo_cut 25 rfl rfl (by omega) sd ?_
   refine vo_stM ?_
   refine vo_stM ?_
   refine vo_assign_ref rfl rfl ?_
   refine vo_nil ?_
   refine hK4 _ ?_
   refine vc_seq fun K7 hK7 => ?_
   refine vc_region ?_
   refine vo_move_ref rfl rfl ?_
   refine vo_assign_ref rfl rfl ?_
   refine vo_nil ?_
   refine hK7 _ ?_
   refine vc_ret ?_
   change retQ _ _ _ _ _
   refine retQ_sel [0] (srows := [_]) (.inr rfl) hC rfl rfl rfl rfl rfl rfl rfl ?_
   refine ⟨rfl, ?_⟩
   exact ⟨_, rfl⟩
  ·try simp only [zq0, zq1, zq2, zq3, zq4, zq5, zq6, zq7, zq8, zq9, zqa, zqb, zqc, zqd, zqe, zqf] at hc2
   refine vc_skip ?_
   refine hK4 _ ?_
   refine vc_seq fun K8 hK8 => ?_
   refine vc_region ?_
   refine vo_move_pv rfl rfl ?_
   refine vo_assign_pv rfl rfl ?_
   refine vo_nil ?_
   refine hK8 _ ?_
   refine vc_own_nil 4 E28 rfl ?_
   refine vc_ret ?_
   change retQ _ _ _ _ _
   refine retQ_sel [0] (srows := [_]) (.inr rfl) hC rfl rfl rfl rfl rfl rfl rfl ?_
   refine ⟨rfl, ?_⟩
   exact ⟨_, rfl⟩


theorem Concat_sat {L : List (List Int)} {nl : Option Bool} (h1 : L.length ≤ 10) (h2 : ∀ l ∈ L, l.length ≤ 10000) {f : Bool} : SatAt Try.prog 99 [.pv f (.sl nl 1 (L.map ints))] [] (fun res rows => ∃ nl, res = [.ref 0] ∧ rows = [Row.own 3 1 nl true (L.flatten.map intP)]) := by
 refine sat_entry_G (rs := [(2, none)]) Try.func99 rfl rfl (Nat.le_of_ble_eq_true rfl) (Nat.le_of_ble_eq_true rfl) (resTs1 trivial) fun C hC => ?_
 rw [Try.ntmps99]
 replace hC : C.nb = 0 := hC
 refine vc_seq fun K1 hK1 => ?_
 refine vc_region ?_
 refine vo_assign_pv rfl rfl ?_
 refine vo_nil ?_
 refine hK1 _ ?_
 refine vc_seq fun K2 hK2 => ?_
 refine vc_region ?_
 refine vo_assign_pv rfl rfl ?_
 refine vo_nil ?_
 refine hK2 _ ?_
 refine vc_seq fun K3 hK3 => ?_
 refine vc_seq fun K4 hK4 => ?_
 refine vc_region ?_
 refine vo_move_pv rfl rfl ?_
 refine vo_len_pv rfl rfl Try.underlying23 ?_
 refine vo_move_pv rfl rfl ?_
 refine vo_nil ?_
 refine hK4 _ ?_
 refine vc_block ?_
 refine vc_stM ?_
 refine vc_loopE [0, 9, 10] [3, 11] [] _ _ (fun mz vs rs => ∃ (k : Nat) (z : Int), mz = L.length - k ∧ (k ≤ L.length) ∧ (z = ((L.take k).flatten.length : Nat)) ∧ (z ≤ 10000 * k) ∧ vs = [i64 z, i64 k] ∧ rs = []) (L.length) rfl rfl (le_len hC rfl) ⟨rfl, rfl, rfl⟩ rfl ⟨0, 0, rfl, (Nat.zero_le _), rfl, (by omega), rfl, rfl⟩ ?_
 rintro mz vs rs - - ⟨k, z, rfl, hk, hz, hz2, rfl, rfl⟩
 refine vc_stM ?_
 have hlk := getD_all (p := fun l : List Int => l.length ≤ 10000) h2 [] (by simp) k
 have hml : (List.map intP (L.getD k [])).length = (L.getD k []).length := List.length_map ..
 refine vc_seq fun K5 hK5 => ?_
 refine vc_region ?_
 refine vo_binI rfl rfl rfl rfl trivial ?_
 refine vo_nil ?_
 refine hK5 _ ?_
 refine vc_seq fun K6 hK6 => ?_
 refine vc_cond rfl (fun hc1 => ?_) (fun hc1 => ?_)
 ·try simp only [zq0, zq1, zq2, zq3, zq4, zq5, zq6, zq7, zq8, zq9, zqa, zqb, zqc, zqd, zqe, zqf] at hc1
  refine vc_skip ?_
  refine hK6 _ ?_
  refine vc_seq fun K7 hK7 => ?_
  refine vc_block ?_
  refine vc_seq fun K8 hK8 => ?_
  refine vc_region ?_
  refine vo_index_pv (.sl none 1 []) rfl rfl rfl E23.und inf28 sz28 sd sd ?_
  simp only [Int.toNat_natCast, Int.toNat_zero, getD_ints, getD_intss, getD_bools, getD_bytes, PV.cells, getD_ops, getD_pairs, getD_insts, getD_attrs, getD_attrss, getD_objs]
  refine vo_load_adr rfl rfl Try.underlying28 rfl ?_
  refine vo_assign_pv rfl rfl ?_
  refine vo_nil ?_
  refine hK8 _ ?_
  refine vc_seq fun K9 hK9 => ?_
  refine vc_region ?_
  refine vo_move_pv rfl rfl ?_
  refine vo_move_pv rfl rfl ?_
  refine vo_len_pv rfl rfl Try.underlying28 ?_
  refine vo_binI rfl rfl rfl rfl sd ?_
  refine vo_assign_pv rfl rfl ?_
  refine vo_nil ?_
  refine hK9 _ ?_
  refine vc_seq fun K10 hK10 => ?_
  refine vc_region ?_
  refine vo_move_pv rfl rfl ?_
  refine vo_binI rfl rfl rfl rfl trivial ?_
  refine vo_nil ?_
  refine hK10 _ ?_
  refine vc_cond rfl (fun hc2 => ?_) (fun hc2 => ?_)
  ·try simp only [zq0, zq1, zq2, zq3, zq4, zq5, zq6, zq7, zq8, zq9, zqa, zqb, zqc, zqd, zqe, zqf] at hc2
   omega
  ·try simp only [zq0, zq1, zq2, zq3, zq4, zq5, zq6, zq7, zq8, zq9, zqa, zqb, zqc, zqd, zqe, zqf] at hc2
   refine vc_skip ?_
   refine hK7 _ ?_
   refine vc_region ?_
   refine vo_binI rfl rfl rfl rfl sd ?_
   refine vo_move_pv rfl rfl ?_
   refine vo_nil ?_
   change againE _ _ _ _ _ _ _ _ _ _
   refine againE_mk rfl rfl rfl rfl rfl rfl ⟨_, ?_, k + 1, _, rfl, ?_, ?_, ?_, rfl, rfl⟩
   ·omega
   ·omega
   ·rw [flat_len (by omega), hz]; omega
   ·omega
 ·try simp only [zq0, zq1, zq2, zq3, zq4, zq5, zq6, zq7, zq8, zq9, zqa, zqb, zqc, zqd, zqe, zqf] at hc1
  refine vc_exit ?_
  refine hK3 _ ?_
  refine vc_seq fun K11 hK11 => ?_
  refine vc_region ?_
  refine vo_move_pv rfl rfl ?_
  refine vo_call [] Try.func132 rfl rfl rfl rfl rfl rfl rfl (SatAt.nil1 (Grow_nil_sat (by omega) (by omega))) ?_
  rintro _ _ ⟨rfl, nl9, rfl⟩
  refine ⟨Nat.le_of_ble_eq_true rfl, ⟨rfl, rfl, rfl, rfl⟩, .inl rfl, ?_⟩
  refine vo_stM ?_
  refine vo_assign_ref rfl rfl ?_
  refine vo_nil ?_
  refine hK11 _ ?_
  refine vc_seq fun K12 hK12 => ?_
  refine vc_seq fun K13 hK13 => ?_
  refine vc_region ?_
  refine vo_move_pv rfl rfl ?_
  refine vo_len_pv rfl rfl Try.underlying23 ?_
  refine vo_move_pv rfl rfl ?_
  refine vo_nil ?_
  refine hK13 _ ?_
  refine vc_block ?_
  refine vc_stM ?_
  refine vc_loopE [25, 26] [6, 27] [0] _ _ (fun mz vs rs => ∃ (k : Nat) (nl5 : Option Bool), mz = L.length - k ∧ (k ≤ L.length) ∧ ((L.take k).flatten.length ≤ 10000 * k) ∧ vs = [.ref 0, i64 k] ∧ rs = [Row.own 3 1 nl5 true ((L.take k).flatten.map intP)]) (L.length) rfl rfl (le_len hC rfl) ⟨rfl, rfl, rfl⟩ rfl ⟨0, nl9, rfl, (Nat.zero_le _), (by simp), rfl, rfl⟩ ?_
  rintro mz vs rs - - ⟨k, nl5, rfl, hk, hz, rfl, rfl⟩
  refine vc_stM ?_
  have hlk := getD_all (p := fun l : List Int => l.length ≤ 10000) h2 [] (by simp) k
  have hml : (List.map intP (L.getD k [])).length = (L.getD k []).length := List.length_map ..
  refine vc_seq fun K14 hK14 => ?_
  refine vc_region ?_
  refine vo_binI rfl rfl rfl rfl trivial ?_
  refine vo_nil ?_
  refine hK14 _ ?_
  refine vc_seq fun K15 hK15 => ?_
  refine vc_cond rfl (fun hc3 => ?_) (fun hc3 => ?_)
  ·try simp only [zq0, zq1, zq2, zq3, zq4, zq5, zq6, zq7, zq8, zq9, zqa, zqb, zqc, zqd, zqe, zqf] at hc3
   refine vc_skip ?_
   refine hK15 _ ?_
   refine vc_seq fun K16 hK16 => ?_
   refine vc_block ?_
   refine vc_seq fun K17 hK17 => ?_
   refine vc_region ?_
   refine vo_index_pv (.sl none 1 []) rfl rfl rfl E23.und inf28 sz28 sd sd ?_
   simp only [Int.toNat_natCast, Int.toNat_zero, getD_ints, getD_intss, getD_bools, getD_bytes, PV.cells, getD_ops, getD_pairs, getD_insts, getD_attrs, getD_attrss, getD_objs]
   refine vo_load_adr rfl rfl Try.underlying28 rfl ?_
   refine vo_assign_pv rfl rfl ?_
   refine vo_nil ?_
   refine hK17 _ ?_
   refine vc_region ?_
   refine vo_move_ref rfl rfl ?_
   refine vo_move_pv rfl rfl ?_
   refine vo_append E28 rfl (by omega) rfl rfl rfl sd sd ?_
   refine vo_stM ?_
   try simp only [app_ints, app_intss, app_bools, ← List.map_append]
   refine vo_clean 0 rfl (scal_ints _) ?_
   refine vo_stM ?_
   refine vo_assign_ref rfl rfl ?_
   refine vo_nil ?_
   refine hK16 _ ?_
   refine vc_region ?_
   refine vo_binI rfl rfl rfl rfl sd ?_
   refine vo_move_pv rfl rfl ?_
   refine vo_nil ?_
   change againE _ _ _ _ _ _ _ _ _ _
   refine againE_mk rfl rfl rfl rfl rfl rfl ⟨_, ?_, k + 1, _, rfl, ?_, ?_, rfl, (rowI_eq (by rw [flat_succ (by omega)]))⟩
   ·omega
   ·omega
   ·rw [flat_len (by omega)]; omega
  ·try simp only [zq0, zq1, zq2, zq3, zq4, zq5, zq6, zq7, zq8, zq9, zqa, zqb, zqc, zqd, zqe, zqf] at hc3
   refine vc_exit ?_
   refine hK12 _ ?_
   refine vc_seq fun K18 hK18 => ?_
   refine vc_region ?_
   refine vo_move_ref rfl rfl ?_
   refine vo_assign_ref rfl rfl ?_
   refine vo_nil ?_
   refine hK18 _ ?_
   refine vc_ret ?_
   change retQ _ _ _ _ _
   refine retQ_sel [0] (srows := [_]) (.inr rfl) hC rfl rfl rfl rfl rfl rfl rfl ?_
   rw [take_all (by omega)]; exact ⟨_, rfl, rfl⟩


theorem szWorks_sat {a : WorksM} {left : Int}  (ha : GK63 a) (h0 : 0 ≤ left) (h1 : left ≤ 1048576) : SatAt Try.prog 20 [.pv false (worksP a), i64 left] [] (fun res rows => ∃ v : Int, (v < 0 ∨ (0 ≤ v ∧ v ≤ left ∧ SK a)) ∧ res = [i64 v] ∧ rows = []) := by
 obtain ⟨⟨b1, b2⟩, ⟨a1, a2⟩, r1, r2⟩ := ha
 refine sat_entry_G (rs := [(4, none)]) Try.func20 rfl rfl (Nat.le_of_ble_eq_true rfl) (Nat.le_of_ble_eq_true rfl) (resTs1 trivial) fun C hC => ?_
 rw [Try.ntmps20]
 replace hC : C.nb = 0 := hC
 refine vc_seq fun K1 hK1 => ?_
 refine vc_region ?_
 refine vo_box rfl rfl ?_
 refine vo_stM ?_
 refine vo_assign_pv rfl rfl ?_
 refine vo_nil ?_
 refine hK1 _ ?_
 refine vc_seq fun K2 hK2 => ?_
 refine vc_region ?_
 refine vo_fieldAddr_ptr rfl rfl Try.underlying32 rfl inf23 (by rw [sz23]; decide) ?_
 try simp only [Nat.zero_add]
 refine vo_load_var rfl rfl rfl Try.underlying23 rfl rfl ?_
 refine vo_move_pv rfl rfl ?_
 refine vo_call0 Try.func43 rfl rfl rfl rfl (szIntSS_sat b1 b2 (by omega) (by omega)) ?_
 rintro _ _ ⟨v0, hv0, rfl, rfl⟩
 refine ⟨rfl, rfl, .inl rfl, ?_⟩
 refine vo_stM ?_
 refine vo_assign_pv rfl rfl ?_
 refine vo_nil ?_
 refine hK2 _ ?_
 refine vc_seq fun K3 hK3 => ?_
 refine vc_seq fun K4 hK4 => ?_
 refine vc_region ?_
 refine vo_move_pv rfl rfl ?_
 refine vo_binI rfl rfl rfl rfl trivial ?_
 refine vo_nil ?_
 refine hK4 _ ?_
 refine vc_cond rfl (fun hc1 => ?_) (fun hc1 => ?_)
 ·try simp only [zq0, zq1, zq2, zq3, zq4, zq5, zq6, zq7, zq8, zq9, zqa, zqb, zqc, zqd, zqe, zqf] at hc1
  refine vc_seq fun K5 hK5 => ?_
  refine vc_region ?_
  refine vo_assign_pv rfl rfl ?_
  refine vo_nil ?_
  refine hK5 _ ?_
  refine vc_ret ?_
  change retQ _ _ _ _ _
  refine retQ_sel [] (srows := []) (.inr rfl) hC rfl rfl rfl rfl rfl rfl rfl ?_
  exact ⟨_, .inl (by omega), rfl, rfl⟩
 ·try simp only [zq0, zq1, zq2, zq3, zq4, zq5, zq6, zq7, zq8, zq9, zqa, zqb, zqc, zqd, zqe, zqf] at hc1
  have hb0 := hv0.resolve_left (by omega)
  refine vc_skip ?_
  refine hK3 _ ?_
  refine vc_seq fun K6 hK6 => ?_
  refine vc_region ?_
  refine vo_fieldAddr_ptr rfl rfl Try.underlying32 rfl inf23 (by rw [sz23]; decide) ?_
  try simp only [Nat.zero_add]
  refine vo_load_var rfl rfl rfl Try.underlying23 rfl rfl ?_
  refine vo_move_pv rfl rfl ?_
  refine vo_call0 Try.func43 rfl rfl rfl rfl (szIntSS_sat a1 a2 (by omega) (by omega)) ?_
  rintro _ _ ⟨v1, hv1, rfl, rfl⟩
  refine ⟨rfl, rfl, .inl rfl, ?_⟩
  refine vo_stM ?_
  refine vo_assign_pv rfl rfl ?_
  refine vo_nil ?_
  refine hK6 _ ?_
  refine vc_seq fun K7 hK7 => ?_
  refine vc_seq fun K8 hK8 => ?_
  refine vc_region ?_
  refine vo_move_pv rfl rfl ?_
  refine vo_binI rfl rfl rfl rfl trivial ?_
  refine vo_nil ?_
  refine hK8 _ ?_
  refine vc_cond rfl (fun hc2 => ?_) (fun hc2 => ?_)
  ·try simp only [zq0, zq1, zq2, zq3, zq4, zq5, zq6, zq7, zq8, zq9, zqa, zqb, zqc, zqd, zqe, zqf] at hc2
   refine vc_seq fun K9 hK9 => ?_
   refine vc_region ?_
   refine vo_assign_pv rfl rfl ?_
   refine vo_nil ?_
   refine hK9 _ ?_
   refine vc_ret ?_
   change retQ _ _ _ _ _
   refine retQ_sel [] (srows := []) (.inr rfl) hC rfl rfl rfl rfl rfl rfl rfl ?_
   exact ⟨_, .inl (by omega), rfl, rfl⟩
  ·try simp only [zq0, zq1, zq2, zq3, zq4, zq5, zq6, zq7, zq8, zq9, zqa, zqb, zqc, zqd, zqe, zqf] at hc2
   have hb1 := hv1.resolve_left (by omega)
   refine vc_skip ?_
   refine hK7 _ ?_
   refine vc_seq fun K10 hK10 => ?_
   refine vc_region ?_
   refine vo_fieldAddr_ptr rfl rfl Try.underlying32 rfl inf23 (by rw [sz23]; decide) ?_
   try simp only [Nat.zero_add]
   refine vo_load_var rfl rfl rfl Try.underlying23 rfl rfl ?_
   refine vo_move_pv rfl rfl ?_
   refine vo_call0 Try.func43 rfl rfl rfl rfl (szIntSS_sat r1 r2 (by omega) (by omega)) ?_
   rintro _ _ ⟨v2, hv2, rfl, rfl⟩
   refine ⟨rfl, rfl, .inl rfl, ?_⟩
   refine vo_stM ?_
   refine vo_assign_pv rfl rfl ?_
   refine vo_nil ?_
   refine hK10 _ ?_
   refine vc_seq fun K11 hK11 => ?_
   refine vc_seq fun K12 hK12 => ?_
   refine vc_region ?_
   refine vo_move_pv rfl rfl ?_
   refine vo_binI rfl rfl rfl rfl trivial ?_
   refine vo_nil ?_
   refine hK12 _ ?_
   refine vc_cond rfl (fun hc3 => ?_) (fun hc3 => ?_)
   ·try simp only [zq0, zq1, zq2, zq3, zq4, zq5, zq6, zq7, zq8, zq9, zqa, zqb, zqc, zqd, zqe, zqf] at hc3
    refine vc_seq fun K13 hK13 => ?_
    refine vc_region ?_
    refine vo_assign_pv rfl rfl ?_
    refine vo_nil ?_
    refine hK13 _ ?_
    refine vc_ret ?_
    change retQ _ _ _ _ _
    refine retQ_sel [] (srows := []) (.inr rfl) hC rfl rfl rfl rfl rfl rfl rfl ?_
    exact ⟨_, .inl (by omega), rfl, rfl⟩
   ·try simp only [zq0, zq1, zq2, zq3, zq4, zq5, zq6, zq7, zq8, zq9, zqa, zqb, zqc, zqd, zqe, zqf] at hc3
    have hb2 := hv2.resolve_left (by omega)
    refine vc_skip ?_
    refine hK11 _ ?_
    refine vc_seq fun K14 hK14 => ?_
    refine vc_region ?_
    refine vo_move_pv rfl rfl ?_
    refine vo_assign_pv rfl rfl ?_
    refine vo_nil ?_
    refine hK14 _ ?_
    refine vc_ret ?_
    change retQ _ _ _ _ _
    refine retQ_sel [] (srows := []) (.inr rfl) hC rfl rfl rfl rfl rfl rfl rfl ?_
    exact ⟨_, .inr ⟨by omega, by omega, ⟨by omega, fun l hl => by have := hb0.2.2 l hl; omega⟩, ⟨by omega, fun l hl => by have := hb1.2.2 l hl; omega⟩, by omega, fun l hl => by have := hb2.2.2 l hl; omega⟩, rfl, rfl⟩


theorem toWorksT_sat {a : WorksM}  (ha : SK a) : SatAt Try.prog 21 [.pv false (worksP a)] [] (fun res rows => res = [.ag [.ref 0, .ref 1, .ref 2]] ∧ rows = [Row.tree 28 1 none none (a.bases.map ints), Row.tree 28 1 none none (a.abs.map ints), Row.tree 28 1 none none (a.real.map ints)]) := by
 obtain ⟨⟨b1, b2⟩, ⟨a1, a2⟩, r1, r2⟩ := ha
 refine sat_entry_G (rs := [(2, some (25, 3))]) Try.func21 rfl rfl (Nat.le_of_ble_eq_true rfl) (Nat.le_of_ble_eq_true rfl) (resTs1 ⟨_, _, Try.underlying25, rfl, inf25, sz25⟩) fun C hC => ?_
 rw [Try.ntmps21]
 replace hC : C.nb = 0 := hC
 refine vc_seq fun K1 hK1 => ?_
 refine vc_region ?_
 refine vo_box rfl rfl ?_
 refine vo_stM ?_
 refine vo_alloc Z25 rfl ?_
 refine vo_stM ?_
 refine vo_nil ?_
 refine hK1 _ ?_
 refine vc_seq fun K2 hK2 => ?_
 refine vc_region ?_
 refine vo_alloc Z25 rfl ?_
 refine vo_stM ?_
 refine vo_nil ?_
 refine hK2 _ ?_
 refine vc_seq fun K3 hK3 => ?_
 refine vc_region ?_
 refine vo_fieldAddr_ptr rfl rfl Try.underlying32 rfl inf23 (by rw [sz23]; decide) ?_
 try simp only [Nat.zero_add]
 refine vo_load_var rfl rfl rfl Try.underlying23 rfl rfl ?_
 refine vo_call [] Try.func45 rfl rfl rfl rfl rfl rfl rfl (toIntSST_sat (by omega) (fun l hl => by have := b2 l hl; omega)) ?_
 rintro _ _ ⟨rfl, rfl⟩
 refine ⟨Nat.le_of_ble_eq_true rfl, ⟨rfl, rfl, rfl, rfl⟩, .inl rfl, ?_⟩
 refine vo_stM ?_
 refine vo_weaktree 3 rfl ?_
 refine vo_stM ?_
 refine vo_fieldAddr_ptr rfl rfl Try.underlying25 rfl inf23 (by rw [sz23]; decide) ?_
 try simp only [Nat.zero_add]
 refine vo_store_varG rfl rfl rfl rfl inf23 sz23 rfl ?_
 refine vo_stM ?_
 refine vo_nil ?_
 refine hK3 _ ?_
 refine vc_seq fun K4 hK4 => ?_
 refine vc_region ?_
 refine vo_fieldAddr_ptr rfl rfl Try.underlying32 rfl inf23 (by rw [sz23]; decide) ?_
 try simp only [Nat.zero_add]
 refine vo_load_var rfl rfl rfl Try.underlying23 rfl rfl ?_
 refine vo_call [] Try.func45 rfl rfl rfl rfl rfl rfl rfl (toIntSST_sat (by omega) (fun l hl => by have := a2 l hl; omega)) ?_
 rintro _ _ ⟨rfl, rfl⟩
 refine ⟨Nat.le_of_ble_eq_true rfl, ⟨rfl, rfl, rfl, rfl⟩, .inl rfl, ?_⟩
 refine vo_stM ?_
 refine vo_weaktree 4 rfl ?_
 refine vo_stM ?_
 refine vo_fieldAddr_ptr rfl rfl Try.underlying25 rfl inf23 (by rw [sz23]; decide) ?_
 try simp only [Nat.zero_add]
 refine vo_store_varG rfl rfl rfl rfl inf23 sz23 rfl ?_
 refine vo_stM ?_
 refine vo_nil ?_
 refine hK4 _ ?_
 refine vc_seq fun K5 hK5 => ?_
 refine vc_region ?_
 refine vo_fieldAddr_ptr rfl rfl Try.underlying32 rfl inf23 (by rw [sz23]; decide) ?_
 try simp only [Nat.zero_add]
 refine vo_load_var rfl rfl rfl Try.underlying23 rfl rfl ?_
 refine vo_call [] Try.func45 rfl rfl rfl rfl rfl rfl rfl (toIntSST_sat (by omega) (fun l hl => by have := r2 l hl; omega)) ?_
 rintro _ _ ⟨rfl, rfl⟩
 refine ⟨Nat.le_of_ble_eq_true rfl, ⟨rfl, rfl, rfl, rfl⟩, .inl rfl, ?_⟩
 refine vo_stM ?_
 refine vo_weaktree 5 rfl ?_
 refine vo_stM ?_
 refine vo_fieldAddr_ptr rfl rfl Try.underlying25 rfl inf23 (by rw [sz23]; decide) ?_
 try simp only [Nat.zero_add]
 refine vo_store_varG rfl rfl rfl rfl inf23 sz23 rfl ?_
 refine vo_stM ?_
 refine vo_nil ?_
 refine hK5 _ ?_
 refine vc_seq fun K6 hK6 => ?_
 refine vc_region ?_
 refine vo_load_varG rfl rfl rfl Try.underlying25 rfl inf25 sz25 rfl ?_
 refine vo_stM ?_
 refine vo_store_varG rfl rfl rfl rfl inf25 sz25 rfl ?_
 refine vo_stM ?_
 refine vo_nil ?_
 refine hK6 _ ?_
 refine vc_ret ?_
 change retQ _ _ _ _ _
 refine retQ_sel [3, 4, 5] (srows := [_, _, _]) (.inr rfl) hC rfl rfl rfl rfl rfl rfl rfl ?_
 exact ⟨rfl, rfl⟩


theorem eqWorks_sat {a : WorksM} {b : WorksM}  (ha : SK a) (hb : SK b) : SatAt Try.prog 22 [.pv false (worksP a), .pv false (worksP b)] [] (fun res rows => res = [bo (decide (a = b))] ∧ rows = []) := by
 obtain ⟨⟨b1, b2⟩, ⟨a1, a2⟩, r1, r2⟩ := ha
 obtain ⟨⟨b3, b4⟩, ⟨a3, a4⟩, r3, r4⟩ := hb
 refine sat_entry_G (rs := [(4, none)]) Try.func22 rfl rfl (Nat.le_of_ble_eq_true rfl) (Nat.le_of_ble_eq_true rfl) (resTs1 trivial) fun C hC => ?_
 rw [Try.ntmps22]
 replace hC : C.nb = 0 := hC
 refine vc_seq fun K1 hK1 => ?_
 refine vc_region ?_
 refine vo_box rfl rfl ?_
 refine vo_stM ?_
 refine vo_box rfl rfl ?_
 refine vo_stM ?_
 refine vo_assign_pv rfl rfl ?_
 refine vo_nil ?_
 refine hK1 _ ?_
 refine vc_seq fun K2 hK2 => ?_
 refine vc_seq fun K3 hK3 => ?_
 refine vc_region ?_
 refine vo_fieldAddr_ptr rfl rfl Try.underlying25 rfl inf23 (by rw [sz23]; decide) ?_
 try simp only [Nat.zero_add]
 refine vo_load_var rfl rfl rfl Try.underlying23 rfl rfl ?_
 refine vo_fieldAddr_ptr rfl rfl Try.underlying25 rfl inf23 (by rw [sz23]; decide) ?_
 try simp only [Nat.zero_add]
 refine vo_load_var rfl rfl rfl Try.underlying23 rfl rfl ?_
 refine vo_call0 Try.func47 rfl rfl rfl rfl (eqIntSS_sat (by omega) (fun l hl => by have := b2 l hl; omega) (by omega) (fun l hl => by have := b4 l hl; omega)) ?_
 rintro _ _ ⟨rfl, rfl⟩
 refine ⟨rfl, rfl, .inl rfl, ?_⟩
 refine vo_stM ?_
 refine vo_not rfl rfl ?_
 refine vo_nil ?_
 refine hK3 _ ?_
 refine vc_cond rfl (fun hc1 => ?_) (fun hc1 => ?_)
 ·try simp only [zq0, zq1, zq2, zq3, zq4, zq5, zq6, zq7, zq8, zq9, zqa, zqb, zqc, zqd, zqe, zqf] at hc1
  refine vc_seq fun K4 hK4 => ?_
  refine vc_region ?_
  refine vo_assign_pv rfl rfl ?_
  refine vo_nil ?_
  refine hK4 _ ?_
  refine vc_ret ?_
  change retQ _ _ _ _ _
  refine retQ_sel [] (srows := []) (.inr rfl) hC rfl rfl rfl rfl rfl rfl rfl ?_
  refine ⟨?_, rfl⟩
  refine (congrArg (fun b => [bo b]) (?_ : _ = _) : [bo _] = [bo _])
  cases a; cases b; simp_all
 ·try simp only [zq0, zq1, zq2, zq3, zq4, zq5, zq6, zq7, zq8, zq9, zqa, zqb, zqc, zqd, zqe, zqf] at hc1
  refine vc_skip ?_
  refine hK2 _ ?_
  refine vc_seq fun K5 hK5 => ?_
  refine vc_seq fun K6 hK6 => ?_
  refine vc_region ?_
  refine vo_fieldAddr_ptr rfl rfl Try.underlying25 rfl inf23 (by rw [sz23]; decide) ?_
  try simp only [Nat.zero_add]
  refine vo_load_var rfl rfl rfl Try.underlying23 rfl rfl ?_
  refine vo_fieldAddr_ptr rfl rfl Try.underlying25 rfl inf23 (by rw [sz23]; decide) ?_
  try simp only [Nat.zero_add]
  refine vo_load_var rfl rfl rfl Try.underlying23 rfl rfl ?_
  refine vo_call0 Try.func47 rfl rfl rfl rfl (eqIntSS_sat (by omega) (fun l hl => by have := a2 l hl; omega) (by omega) (fun l hl => by have := a4 l hl; omega)) ?_
  rintro _ _ ⟨rfl, rfl⟩
  refine ⟨rfl, rfl, .inl rfl, ?_⟩
  refine vo_stM ?_
  refine vo_not rfl rfl ?_
  refine vo_nil ?_
  refine hK6 _ ?_
  refine vc_cond rfl (fun hc2 => ?_) (fun hc2 => ?_)
  ·try simp only [zq0, zq1, zq2, zq3, zq4, zq5, zq6, zq7, zq8, zq9, zqa, zqb, zqc, zqd, zqe, zqf] at hc2
   refine vc_seq fun K7 hK7 => ?_
   refine vc_region ?_
   refine vo_assign_pv rfl rfl ?_
   refine vo_nil ?_
   refine hK7 _ ?_
   refine vc_ret ?_
   change retQ _ _ _ _ _
   refine retQ_sel [] (srows := []) (.inr rfl) hC rfl rfl rfl rfl rfl rfl rfl ?_
   refine ⟨?_, rfl⟩
   refine (congrArg (fun b => [bo b]) (?_ : _ = _) : [bo _] = [bo _])
   cases a; cases b; simp_all
  ·try simp only [zq0, zq1, zq2, zq3, zq4, zq5, zq6, zq7, zq8, zq9, zqa, zqb, zqc, zqd, zqe, zqf] at hc2
   refine vc_skip ?_
   refine hK5 _ ?_
   refine vc_seq fun K8 hK8 => ?_
   refine vc_seq fun K9 hK9 => ?_
   refine vc_region ?_
   refine vo_fieldAddr_ptr rfl rfl Try.underlying25 rfl inf23 (by rw [sz23]; decide) ?_
   try simp only [Nat.zero_add]
   refine vo_load_var rfl rfl rfl Try.underlying23 rfl rfl ?_
   refine vo_fieldAddr_ptr rfl rfl Try.underlying25 rfl inf23 (by rw [sz23]; decide) ?_
   try simp only [Nat.zero_add]
   refine vo_load_var rfl rfl rfl Try.underlying23 rfl rfl ?_
   refine vo_call0 Try.func47 rfl rfl rfl rfl (eqIntSS_sat (by omega) (fun l hl => by have := r2 l hl; omega) (by omega) (fun l hl => by have := r4 l hl; omega)) ?_
   rintro _ _ ⟨rfl, rfl⟩
   refine ⟨rfl, rfl, .inl rfl, ?_⟩
   refine vo_stM ?_
   refine vo_not rfl rfl ?_
   refine vo_nil ?_
   refine hK9 _ ?_
   refine vc_cond rfl (fun hc3 => ?_) (fun hc3 => ?_)
   ·try simp only [zq0, zq1, zq2, zq3, zq4, zq5, zq6, zq7, zq8, zq9, zqa, zqb, zqc, zqd, zqe, zqf] at hc3
    refine vc_seq fun K10 hK10 => ?_
    refine vc_region ?_
    refine vo_assign_pv rfl rfl ?_
    refine vo_nil ?_
    refine hK10 _ ?_
    refine vc_ret ?_
    change retQ _ _ _ _ _
    refine retQ_sel [] (srows := []) (.inr rfl) hC rfl rfl rfl rfl rfl rfl rfl ?_
    refine ⟨?_, rfl⟩
    refine (congrArg (fun b => [bo b]) (?_ : _ = _) : [bo _] = [bo _])
    cases a; cases b; simp_all
   ·try simp only [zq0, zq1, zq2, zq3, zq4, zq5, zq6, zq7, zq8, zq9, zqa, zqb, zqc, zqd, zqe, zqf] at hc3
    refine vc_skip ?_
    refine hK8 _ ?_
    refine vc_seq fun K11 hK11 => ?_
    refine vc_region ?_
    refine vo_assign_pv rfl rfl ?_
    refine vo_nil ?_
    refine hK11 _ ?_
    refine vc_ret ?_
    change retQ _ _ _ _ _
    refine retQ_sel [] (srows := []) (.inr rfl) hC rfl rfl rfl rfl rfl rfl rfl ?_
    refine ⟨?_, rfl⟩
    refine (congrArg (fun b => [bo b]) (?_ : _ = _) : [bo _] = [bo _])
    cases a; cases b; simp_all


theorem specValidWork_sat {x : WorksM}  (hx : SK x) : SatAt Try.prog 59 [.pv false (worksP x)] [] (fun res rows => res = [bo (decide (VWorks x))] ∧ rows = []) := by
  obtain ⟨⟨b1, b2⟩, ⟨a1, a2⟩, r1, r2⟩ := hx
  refine sat_entry_G (rs := [(2, none)]) Try.func59 rfl rfl (Nat.le_of_ble_eq_true rfl) (Nat.le_of_ble_eq_true rfl) (resTs1 trivial) fun C hC => ?_
  rw [Try.ntmps59]
  replace hC : C.nb = 0 := hC
  refine vc_seq fun K1 hK1 => ?_
  refine vc_region ?_
  refine vo_box rfl rfl ?_
  refine vo_stM ?_
  refine vo_assign_pv rfl rfl ?_
  refine vo_nil ?_
  refine hK1 _ ?_
  refine vc_seq fun K2 hK2 => ?_
  refine vc_seq fun K3 hK3 => ?_
  refine vc_region ?_
  refine vo_fieldAddr_ptr rfl rfl Try.underlying25 rfl inf23 (by rw [sz23]; decide) ?_
  try simp only [Nat.zero_add]
  refine vo_load_var rfl rfl rfl Try.underlying23 rfl rfl ?_
  refine vo_call0 Try.func101 rfl rfl rfl rfl (specValidBases0_sat (by omega) (fun l hl => by have := b2 l hl; omega)) ?_
  rintro _ _ ⟨rfl, rfl⟩
  refine ⟨rfl, rfl, .inl rfl, ?_⟩
  refine vo_stM ?_
  refine vo_not rfl rfl ?_
  refine vo_move_pv rfl rfl ?_
  refine vo_split 9 rfl (fun hg1 => ?_) (fun hg1 => ?_)
  · try simp only [zq0, zq1, zq2, zq3, zq4, zq5, zq6, zq7, zq8, zq9, zqa, zqb, zqc, zqd, zqe, zqf] at hg1
    refine vo_guard_off rfl rfl rfl rfl rfl ?_
    refine vo_guard_off rfl rfl rfl rfl rfl ?_
    refine vo_guard_off rfl rfl rfl rfl rfl ?_
    refine vo_guard_off rfl rfl rfl rfl rfl ?_
    refine vo_pick_t rfl rfl ?_
    refine vo_move_pv rfl rfl ?_
    refine vo_guard_off rfl rfl rfl rfl rfl ?_
    refine vo_guard_off rfl rfl rfl rfl rfl ?_
    refine vo_guard_off rfl rfl rfl rfl rfl ?_
    refine vo_guard_off rfl rfl rfl rfl rfl ?_
    refine vo_guard_off rfl rfl rfl rfl rfl ?_
    refine vo_guard_off rfl rfl rfl rfl rfl ?_
    refine vo_guard_off rfl rfl rfl rfl rfl ?_
    refine vo_pick_t rfl rfl ?_
    refine vo_move_pv rfl rfl ?_
    refine vo_guard_off rfl rfl rfl rfl rfl ?_
    refine vo_guard_off rfl rfl rfl rfl rfl ?_
    refine vo_guard_off rfl rfl rfl rfl rfl ?_
    refine vo_guard_off rfl rfl rfl rfl rfl ?_
    refine vo_guard_off rfl rfl rfl rfl rfl ?_
    refine vo_guard_off rfl rfl rfl rfl rfl ?_
    refine vo_guard_off rfl rfl rfl rfl rfl ?_
    refine vo_pick_t rfl rfl ?_
    refine vo_nil ?_
    refine hK3 _ ?_
    refine vc_cond_t rfl ?_
    refine vc_seq fun K4 hK4 => ?_
    refine vc_region ?_
    refine vo_assign_pv rfl rfl ?_
    refine vo_nil ?_
    refine hK4 _ ?_
    refine vc_ret ?_
    change retQ _ _ _ _ _
    refine retQ_sel [] (srows := []) (.inr rfl) hC rfl rfl rfl rfl rfl rfl rfl ?_
    refine ⟨?_, rfl⟩
    refine (congrArg (fun b => [bo b]) (?_ : _ = _) : [bo _] = [bo _])
    first
      | (refine bF fun h0 => ?_
         have h1 := h0.2.1; have h2 := h0.2.2.1
         first
           | omega
           | exact absurd h0.1 (by assumption)
           | exact absurd h0.1.1 (by assumption)
           | exact absurd h0.1.2 (by assumption)
           | exact absurd (h0.2.2.2 k (by omega)) (by assumption)
           | exact absurd (h0.2.2.2 k (by omega)).1 (by assumption)
           | exact absurd (h0.2.2.2 k (by omega)).2 (by assumption))
      | exact bT ⟨by first | assumption | exact ⟨hg1, hg2⟩, by omega, by omega, fun i hi => hf i (by omega)⟩
  · try simp only [zq0, zq1, zq2, zq3, zq4, zq5, zq6, zq7, zq8, zq9, zqa, zqb, zqc, zqd, zqe, zqf] at hg1
    refine vo_guard_on rfl rfl rfl ?_
    refine vo_fieldAddr_ptr rfl rfl Try.underlying25 rfl inf23 (by rw [sz23]; decide) ?_
    try simp only [Nat.zero_add]
    refine vo_guard_on rfl rfl rfl ?_
    refine vo_load_var rfl rfl rfl Try.underlying23 rfl rfl ?_
    refine vo_guard_on rfl rfl rfl ?_
    refine vo_call0 Try.func102 rfl rfl rfl rfl (allOrders_sat (by omega) (fun l hl => by have := b2 l hl; omega) hg1) ?_
    rintro _ _ ⟨rfl, rfl⟩
    refine ⟨rfl, rfl, .inl rfl, ?_⟩
    refine vo_stM ?_
    refine vo_guard_on rfl rfl rfl ?_
    refine vo_not rfl rfl ?_
    refine vo_pick_f rfl rfl ?_
    refine vo_move_pv rfl rfl ?_
    refine vo_split 15 rfl (fun hg2 => ?_) (fun hg2 => ?_)
    · try simp only [zq0, zq1, zq2, zq3, zq4, zq5, zq6, zq7, zq8, zq9, zqa, zqb, zqc, zqd, zqe, zqf] at hg2
      refine vo_guard_off rfl rfl rfl rfl rfl ?_
      refine vo_guard_off rfl rfl rfl rfl rfl ?_
      refine vo_guard_off rfl rfl rfl rfl rfl ?_
      refine vo_guard_off rfl rfl rfl rfl rfl ?_
      refine vo_guard_off rfl rfl rfl rfl rfl ?_
      refine vo_guard_off rfl rfl rfl rfl rfl ?_
      refine vo_guard_off rfl rfl rfl rfl rfl ?_
      refine vo_pick_t rfl rfl ?_
      refine vo_move_pv rfl rfl ?_
      refine vo_guard_off rfl rfl rfl rfl rfl ?_
      refine vo_guard_off rfl rfl rfl rfl rfl ?_
      refine vo_guard_off rfl rfl rfl rfl rfl ?_
      refine vo_guard_off rfl rfl rfl rfl rfl ?_
      refine vo_guard_off rfl rfl rfl rfl rfl ?_
      refine vo_guard_off rfl rfl rfl rfl rfl ?_
      refine vo_guard_off rfl rfl rfl rfl rfl ?_
      refine vo_pick_t rfl rfl ?_
      refine vo_nil ?_
      refine hK3 _ ?_
      refine vc_cond_t rfl ?_
      refine vc_seq fun K5 hK5 => ?_
      refine vc_region ?_
      refine vo_assign_pv rfl rfl ?_
      refine vo_nil ?_
      refine hK5 _ ?_
      refine vc_ret ?_
      change retQ _ _ _ _ _
      refine retQ_sel [] (srows := []) (.inr rfl) hC rfl rfl rfl rfl rfl rfl rfl ?_
      refine ⟨?_, rfl⟩
      refine (congrArg (fun b => [bo b]) (?_ : _ = _) : [bo _] = [bo _])
      first
        | (refine bF fun h0 => ?_
           have h1 := h0.2.1; have h2 := h0.2.2.1
           first
             | omega
             | exact absurd h0.1 (by assumption)
             | exact absurd h0.1.1 (by assumption)
             | exact absurd h0.1.2 (by assumption)
             | exact absurd (h0.2.2.2 k (by omega)) (by assumption)
             | exact absurd (h0.2.2.2 k (by omega)).1 (by assumption)
             | exact absurd (h0.2.2.2 k (by omega)).2 (by assumption))
        | exact bT ⟨by first | assumption | exact ⟨hg1, hg2⟩, by omega, by omega, fun i hi => hf i (by omega)⟩
    · try simp only [zq0, zq1, zq2, zq3, zq4, zq5, zq6, zq7, zq8, zq9, zqa, zqb, zqc, zqd, zqe, zqf] at hg2
      refine vo_guard_on rfl rfl rfl ?_
      refine vo_fieldAddr_ptr rfl rfl Try.underlying25 rfl inf23 (by rw [sz23]; decide) ?_
      try simp only [Nat.zero_add]
      refine vo_guard_on rfl rfl rfl ?_
      refine vo_load_var rfl rfl rfl Try.underlying23 rfl rfl ?_
      refine vo_guard_on rfl rfl rfl ?_
      refine vo_len_pv rfl rfl Try.underlying23 ?_
      refine vo_guard_on rfl rfl rfl ?_
      refine vo_fieldAddr_ptr rfl rfl Try.underlying25 rfl inf23 (by rw [sz23]; decide) ?_
      try simp only [Nat.zero_add]
      refine vo_guard_on rfl rfl rfl ?_
      refine vo_load_var rfl rfl rfl Try.underlying23 rfl rfl ?_
      refine vo_guard_on rfl rfl rfl ?_
      refine vo_len_pv rfl rfl Try.underlying23 ?_
      refine vo_guard_on rfl rfl rfl ?_
      refine vo_binI rfl rfl rfl rfl trivial ?_
      refine vo_pick_f rfl rfl ?_
      refine vo_move_pv rfl rfl ?_
      refine vo_split 24 rfl (fun hg3 => ?_) (fun hg3 => ?_)
      · try simp only [zq0, zq1, zq2, zq3, zq4, zq5, zq6, zq7, zq8, zq9, zqa, zqb, zqc, zqd, zqe, zqf] at hg3
        refine vo_guard_off rfl rfl rfl rfl rfl ?_
        refine vo_guard_off rfl rfl rfl rfl rfl ?_
        refine vo_guard_off rfl rfl rfl rfl rfl ?_
        refine vo_guard_off rfl rfl rfl rfl rfl ?_
        refine vo_guard_off rfl rfl rfl rfl rfl ?_
        refine vo_guard_off rfl rfl rfl rfl rfl ?_
        refine vo_guard_off rfl rfl rfl rfl rfl ?_
        refine vo_pick_t rfl rfl ?_
        refine vo_nil ?_
        refine hK3 _ ?_
        refine vc_cond_t rfl ?_
        refine vc_seq fun K6 hK6 => ?_
        refine vc_region ?_
        refine vo_assign_pv rfl rfl ?_
        refine vo_nil ?_
        refine hK6 _ ?_
        refine vc_ret ?_
        change retQ _ _ _ _ _
        refine retQ_sel [] (srows := []) (.inr rfl) hC rfl rfl rfl rfl rfl rfl rfl ?_
        refine ⟨?_, rfl⟩
        refine (congrArg (fun b => [bo b]) (?_ : _ = _) : [bo _] = [bo _])
        first
          | (refine bF fun h0 => ?_
             have h1 := h0.2.1; have h2 := h0.2.2.1
             first
               | omega
               | exact absurd h0.1 (by assumption)
               | exact absurd h0.1.1 (by assumption)
               | exact absurd h0.1.2 (by assumption)
               | exact absurd (h0.2.2.2 k (by omega)) (by assumption)
               | exact absurd (h0.2.2.2 k (by omega)).1 (by assumption)
               | exact absurd (h0.2.2.2 k (by omega)).2 (by assumption))
          | exact bT ⟨by first | assumption | exact ⟨hg1, hg2⟩, by omega, by omega, fun i hi => hf i (by omega)⟩
      · try simp only [zq0, zq1, zq2, zq3, zq4, zq5, zq6, zq7, zq8, zq9, zqa, zqb, zqc, zqd, zqe, zqf] at hg3
        refine vo_guard_on rfl rfl rfl ?_
        refine vo_fieldAddr_ptr rfl rfl Try.underlying25 rfl inf23 (by rw [sz23]; decide) ?_
        try simp only [Nat.zero_add]
        refine vo_guard_on rfl rfl rfl ?_
        refine vo_load_var rfl rfl rfl Try.underlying23 rfl rfl ?_
        refine vo_guard_on rfl rfl rfl ?_
        refine vo_len_pv rfl rfl Try.underlying23 ?_
        refine vo_guard_on rfl rfl rfl ?_
        refine vo_fieldAddr_ptr rfl rfl Try.underlying25 rfl inf23 (by rw [sz23]; decide) ?_
        try simp only [Nat.zero_add]
        refine vo_guard_on rfl rfl rfl ?_
        refine vo_load_var rfl rfl rfl Try.underlying23 rfl rfl ?_
        refine vo_guard_on rfl rfl rfl ?_
        refine vo_len_pv rfl rfl Try.underlying23 ?_
        refine vo_guard_on rfl rfl rfl ?_
        refine vo_binI rfl rfl rfl rfl trivial ?_
        refine vo_pick_f rfl rfl ?_
        refine vo_nil ?_
        refine hK3 _ ?_
        refine vc_cond rfl (fun hc4 => ?_) (fun hc4 => ?_)
        · try simp only [zq0, zq1, zq2, zq3, zq4, zq5, zq6, zq7, zq8, zq9, zqa, zqb, zqc, zqd, zqe, zqf] at hc4
          refine vc_seq fun K7 hK7 => ?_
          refine vc_region ?_
          refine vo_assign_pv rfl rfl ?_
          refine vo_nil ?_
          refine hK7 _ ?_
          refine vc_ret ?_
          change retQ _ _ _ _ _
          refine retQ_sel [] (srows := []) (.inr rfl) hC rfl rfl rfl rfl rfl rfl rfl ?_
          refine ⟨?_, rfl⟩
          refine (congrArg (fun b => [bo b]) (?_ : _ = _) : [bo _] = [bo _])
          first
            | (refine bF fun h0 => ?_
               have h1 := h0.2.1; have h2 := h0.2.2.1
               first
                 | omega
                 | exact absurd h0.1 (by assumption)
                 | exact absurd h0.1.1 (by assumption)
                 | exact absurd h0.1.2 (by assumption)
                 | exact absurd (h0.2.2.2 k (by omega)) (by assumption)
                 | exact absurd (h0.2.2.2 k (by omega)).1 (by assumption)
                 | exact absurd (h0.2.2.2 k (by omega)).2 (by assumption))
            | exact bT ⟨by first | assumption | exact ⟨hg1, hg2⟩, by omega, by omega, fun i hi => hf i (by omega)⟩
        · try simp only [zq0, zq1, zq2, zq3, zq4, zq5, zq6, zq7, zq8, zq9, zqa, zqb, zqc, zqd, zqe, zqf] at hc4
          refine vc_skip ?_
          refine hK2 _ ?_
          refine vc_seq fun K8 hK8 => ?_
          refine vc_seq fun K9 hK9 => ?_
          refine vc_region ?_
          refine vo_assign_pv rfl rfl ?_
          refine vo_nil ?_
          refine hK9 _ ?_
          refine vc_block ?_
          refine vc_stM ?_
          refine vc_loopE [1] [3] [] _ _ (fun mz vs rs => ∃ (k : Nat), mz = x.bases.length - k ∧ (k ≤ x.bases.length) ∧ (∀ i, i < k → okWk (x.abs.getD i []) (x.real.getD i [])) ∧ vs = [i64 k] ∧ rs = []) (x.bases.length) rfl rfl (le_len hC rfl) ⟨rfl, rfl, rfl⟩ rfl ⟨0, rfl, Nat.zero_le _, (fun i h => by omega), rfl, rfl⟩ ?_
          rintro mz vs rs - - ⟨k, rfl, hk, hf, rfl, rfl⟩
          refine vc_stM ?_
          have hal := getD_all (p := fun l : List Int => l.length ≤ 2000000) a2 [] (by simp) k
          have hrl := getD_all (p := fun l : List Int => l.length ≤ 2000000) r2 [] (by simp) k
          refine vc_seq fun K10 hK10 => ?_
          refine vc_seq fun K11 hK11 => ?_
          refine vc_region ?_
          refine vo_move_pv rfl rfl ?_
          refine vo_fieldAddr_ptr rfl rfl Try.underlying25 rfl inf23 (by rw [sz23]; decide) ?_
          try simp only [Nat.zero_add]
          refine vo_load_var rfl rfl rfl Try.underlying23 rfl rfl ?_
          refine vo_len_pv rfl rfl Try.underlying23 ?_
          refine vo_binI rfl rfl rfl rfl trivial ?_
          refine vo_nil ?_
          refine hK11 _ ?_
          refine vc_cond rfl (fun hc5 => ?_) (fun hc5 => ?_)
          · try simp only [zq0, zq1, zq2, zq3, zq4, zq5, zq6, zq7, zq8, zq9, zqa, zqb, zqc, zqd, zqe, zqf] at hc5
            refine vc_skip ?_
            refine hK10 _ ?_
            refine vc_seq fun K12 hK12 => ?_
            refine vc_block ?_
            refine vc_seq fun K13 hK13 => ?_
            refine vc_drawL [11, 12] (by kernel_rfl) ?_
            change VL [11, 12] _ _ _ 13 _ _ _
            refine vl_light 0 [2, 6, 7, 8, 9, 10] rfl rfl rfl (by kernel_rfl) (by kernel_rfl) (by kernel_rfl) (by kernel_rfl) (by kernel_rfl) (wnt_none rfl) (lt_fieldAddr_ptr rfl Try.underlying25 rfl inf23 (by rw [sz23]; decide)) ?_
            try simp only [Nat.zero_add]
            refine vl_light 1 [0, 2, 6, 7, 8, 9, 10] rfl rfl rfl (by kernel_rfl) (by kernel_rfl) (by kernel_rfl) (by kernel_rfl) (by kernel_rfl) (wnt_none rfl) (lt_load_var rfl rfl Try.underlying23 rfl rfl) ?_
            refine vl_light 2 [0, 1, 6, 7, 8, 9, 10] rfl rfl rfl (by kernel_rfl) (by kernel_rfl) (by kernel_rfl) (by kernel_rfl) (by kernel_rfl) (wnt_none rfl) (lt_move_pv rfl) ?_
            refine vl_light 3 [0, 1, 2, 6, 7, 8, 9, 10] rfl rfl rfl (by kernel_rfl) (by kernel_rfl) (by kernel_rfl) (by kernel_rfl) (by kernel_rfl) (wnt_none rfl) (lt_index_pv (.sl none 1 []) rfl rfl E23.und inf28 sz28 sd sd) ?_
            simp only [Int.toNat_natCast, Int.toNat_zero, getD_ints, getD_intss, getD_bools, getD_bytes, PV.cells, getD_ops, getD_pairs, getD_insts, getD_attrs, getD_attrss, getD_objs]
            refine vl_light 4 [0, 1, 2, 3, 6, 7, 8, 9, 10] rfl rfl rfl (by kernel_rfl) (by kernel_rfl) (by kernel_rfl) (by kernel_rfl) (by kernel_rfl) (wnt_none rfl) (lt_load_adr rfl Try.underlying28 rfl) ?_
            refine vl_light 6 [0, 1, 2, 3, 4, 5, 8] rfl rfl rfl (by kernel_rfl) (by kernel_rfl) (by kernel_rfl) (by kernel_rfl) (by kernel_rfl) (wnt_none rfl) (lt_fieldAddr_ptr rfl Try.underlying25 rfl inf23 (by rw [sz23]; decide)) ?_
            try simp only [Nat.zero_add]
            refine vl_light 7 [0, 1, 2, 3, 4, 5, 6, 8] rfl rfl rfl (by kernel_rfl) (by kernel_rfl) (by kernel_rfl) (by kernel_rfl) (by kernel_rfl) (wnt_none rfl) (lt_load_var rfl rfl Try.underlying23 rfl rfl) ?_
            refine vl_light 8 [0, 1, 2, 3, 4, 5, 6, 7] rfl rfl rfl (by kernel_rfl) (by kernel_rfl) (by kernel_rfl) (by kernel_rfl) (by kernel_rfl) (wnt_none rfl) (lt_move_pv rfl) ?_
            refine vl_light 9 [0, 1, 2, 3, 4, 5, 6, 7, 8] rfl rfl rfl (by kernel_rfl) (by kernel_rfl) (by kernel_rfl) (by kernel_rfl) (by kernel_rfl) (wnt_none rfl) (lt_index_pv (.sl none 1 []) rfl rfl E23.und inf28 sz28 sd sd) ?_
            simp only [Int.toNat_natCast, Int.toNat_zero, getD_ints, getD_intss, getD_bools, getD_bytes, PV.cells, getD_ops, getD_pairs, getD_insts, getD_attrs, getD_attrss, getD_objs]
            refine vl_light 10 [0, 1, 2, 3, 4, 5, 6, 7, 8, 9] rfl rfl rfl (by kernel_rfl) (by kernel_rfl) (by kernel_rfl) (by kernel_rfl) (by kernel_rfl) (wnt_none rfl) (lt_load_adr rfl Try.underlying28 rfl) ?_
            refine vl_callR 5 [] rfl rfl (by kernel_rfl) (wnt_none rfl) Try.func103 rfl rfl rfl rfl (copyInts_sat (list := x.abs.getD k []) (by omega)) rfl rfl rfl ?_
            rintro _ _ ⟨nl9, rfl, rfl⟩
            refine ⟨Nat.le_of_ble_eq_true rfl, ⟨rfl, rfl, rfl, rfl⟩, .inl rfl, ?_⟩
            refine vl_stM ?_
            refine vl_one 11 rfl (by kernel_rfl) rfl ?_
            refine vo_append E28 rfl (by omega) rfl rfl rfl sd sd ?_
            refine vo_stM ?_
            try simp only [app_ints, app_intss, app_bools, ← List.map_append]
            refine vo_done ⟨rfl, ?_⟩
            refine vl_one 12 rfl (by kernel_rfl) rfl ?_
            refine vo_assign_ref rfl rfl ?_
            refine vo_done ⟨rfl, ?_⟩
            refine vl_nil (by kernel_rfl) ?_
            refine hK13 _ ?_
            refine vc_seq fun K14 hK14 => ?_
            refine vc_region ?_
            refine vo_move_ref rfl rfl ?_
            refine vo_expose 1 (by omega) rfl ?_
            refine vo_stM ?_
            refine vo_weaken 52 rfl ?_
            refine vo_stM ?_
            refine vo_call0 Try.func104 rfl rfl rfl rfl (different_sat (list := (x.abs.getD k [] ++ x.real.getD k [])) (by rw [List.length_append]; omega)) ?_
            rintro _ _ ⟨rfl, rfl⟩
            refine ⟨rfl, rfl, .inl rfl, ?_⟩
            refine vo_stM ?_
            refine vo_not rfl rfl ?_
            refine vo_move_pv rfl rfl ?_
            refine vo_split 55 rfl (fun hg6 => ?_) (fun hg6 => ?_)
            · try simp only [zq0, zq1, zq2, zq3, zq4, zq5, zq6, zq7, zq8, zq9, zqa, zqb, zqc, zqd, zqe, zqf] at hg6
              refine vo_guard_off rfl rfl rfl rfl rfl ?_
              refine vo_guard_off rfl rfl rfl rfl rfl ?_
              refine vo_guard_off rfl rfl rfl rfl rfl ?_
              refine vo_pick_t rfl rfl ?_
              refine vo_nil ?_
              refine hK14 _ ?_
              refine vc_cond_t rfl ?_
              refine vc_seq fun K15 hK15 => ?_
              refine vc_region ?_
              refine vo_assign_pv rfl rfl ?_
              refine vo_nil ?_
              refine hK15 _ ?_
              refine vc_ret ?_
              change retQ _ _ _ _ _
              refine retQ_sel [] (srows := []) (.inr rfl) hC rfl rfl rfl rfl rfl rfl rfl ?_
              refine ⟨?_, rfl⟩
              refine (congrArg (fun b => [bo b]) (?_ : _ = _) : [bo _] = [bo _])
              first
                | (refine bF fun h0 => ?_
                   have h1 := h0.2.1; have h2 := h0.2.2.1
                   first
                     | omega
                     | exact absurd h0.1 (by assumption)
                     | exact absurd h0.1.1 (by assumption)
                     | exact absurd h0.1.2 (by assumption)
                     | exact absurd (h0.2.2.2 k (by omega)) (by assumption)
                     | exact absurd (h0.2.2.2 k (by omega)).1 (by assumption)
                     | exact absurd (h0.2.2.2 k (by omega)).2 (by assumption))
                | exact bT ⟨by first | assumption | exact ⟨hg1, hg2⟩, by omega, by omega, fun i hi => hf i (by omega)⟩
            · try simp only [zq0, zq1, zq2, zq3, zq4, zq5, zq6, zq7, zq8, zq9, zqa, zqb, zqc, zqd, zqe, zqf] at hg6
              refine vo_guard_on rfl rfl rfl ?_
              refine vo_move_pv rfl rfl ?_
              refine vo_guard_on rfl rfl rfl ?_
              refine vo_call0 Try.func105 rfl rfl rfl rfl (allIn_sat (list := (x.abs.getD k [] ++ x.real.getD k [])) (by rw [List.length_append]; omega)) ?_
              rintro _ _ ⟨rfl, rfl⟩
              refine ⟨rfl, rfl, .inl rfl, ?_⟩
              refine vo_stM ?_
              refine vo_guard_on rfl rfl rfl ?_
              refine vo_not rfl rfl ?_
              refine vo_pick_f rfl rfl ?_
              refine vo_nil ?_
              refine hK14 _ ?_
              refine vc_cond rfl (fun hc7 => ?_) (fun hc7 => ?_)
              · try simp only [zq0, zq1, zq2, zq3, zq4, zq5, zq6, zq7, zq8, zq9, zqa, zqb, zqc, zqd, zqe, zqf] at hc7
                refine vc_seq fun K16 hK16 => ?_
                refine vc_region ?_
                refine vo_assign_pv rfl rfl ?_
                refine vo_nil ?_
                refine hK16 _ ?_
                refine vc_ret ?_
                change retQ _ _ _ _ _
                refine retQ_sel [] (srows := []) (.inr rfl) hC rfl rfl rfl rfl rfl rfl rfl ?_
                refine ⟨?_, rfl⟩
                refine (congrArg (fun b => [bo b]) (?_ : _ = _) : [bo _] = [bo _])
                first
                  | (refine bF fun h0 => ?_
                     have h1 := h0.2.1; have h2 := h0.2.2.1
                     first
                       | omega
                       | exact absurd h0.1 (by assumption)
                       | exact absurd h0.1.1 (by assumption)
                       | exact absurd h0.1.2 (by assumption)
                       | exact absurd (h0.2.2.2 k (by omega)) (by assumption)
                       | exact absurd (h0.2.2.2 k (by omega)).1 (by assumption)
                       | exact absurd (h0.2.2.2 k (by omega)).2 (by assumption))
                  | exact bT ⟨by first | assumption | exact ⟨hg1, hg2⟩, by omega, by omega, fun i hi => hf i (by omega)⟩
              · try simp only [zq0, zq1, zq2, zq3, zq4, zq5, zq6, zq7, zq8, zq9, zqa, zqb, zqc, zqd, zqe, zqf] at hc7
                refine vc_skip ?_
                refine hK12 _ ?_
                refine vc_region ?_
                refine vo_move_pv rfl rfl ?_
                refine vo_binI rfl rfl rfl rfl sd ?_
                refine vo_assign_pv rfl rfl ?_
                refine vo_nil ?_
                change againE _ _ _ _ _ _ _ _ _ _
                refine againE_mk rfl rfl rfl rfl rfl rfl ⟨_, ?_, k + 1, rfl, ?_, ?_, rfl, rfl⟩
                · omega
                · omega
                · intro i hi; rcases Nat.lt_or_ge i k with h1 | h1; exact hf i h1; rw [show i = k by omega]; first | assumption | exact ⟨by assumption, by assumption⟩
          · try simp only [zq0, zq1, zq2, zq3, zq4, zq5, zq6, zq7, zq8, zq9, zqa, zqb, zqc, zqd, zqe, zqf] at hc5
            refine vc_exit ?_
            refine hK8 _ ?_
            refine vc_seq fun K17 hK17 => ?_
            refine vc_region ?_
            refine vo_assign_pv rfl rfl ?_
            refine vo_nil ?_
            refine hK17 _ ?_
            refine vc_ret ?_
            change retQ _ _ _ _ _
            refine retQ_sel [] (srows := []) (.inr rfl) hC rfl rfl rfl rfl rfl rfl rfl ?_
            refine ⟨?_, rfl⟩
            refine (congrArg (fun b => [bo b]) (?_ : _ = _) : [bo _] = [bo _])
            first
              | (refine bF fun h0 => ?_
                 have h1 := h0.2.1; have h2 := h0.2.2.1
                 first
                   | omega
                   | exact absurd h0.1 (by assumption)
                   | exact absurd h0.1.1 (by assumption)
                   | exact absurd h0.1.2 (by assumption)
                   | exact absurd (h0.2.2.2 k (by omega)) (by assumption)
                   | exact absurd (h0.2.2.2 k (by omega)).1 (by assumption)
                   | exact absurd (h0.2.2.2 k (by omega)).2 (by assumption))
              | exact bT ⟨by first | assumption | exact ⟨hg1, hg2⟩, by omega, by omega, fun i hi => hf i (by omega)⟩


end Go.Vl

namespace Go.Vl
set_option linter.unusedVariables false
set_option linter.unusedSimpArgs false
open Go.Proofs

end Go.Vl

namespace Go.Vl
set_option linter.unusedVariables false
set_option linter.unusedSimpArgs false
open Go.Proofs

/-- A reader that has given p numbers. -/
abbrev rdr (nl : Option Bool) (c : List (Fin 256)) (p : Nat) : Row := .var 118 [.pv false (.sl nl 1 (c.map byteP)), i64 p]
/-- Bases as the readers make them. -/
def SB (B : List (List Int)) : Prop := 1 ≤ B.length ∧ B.getD 0 [] = [] ∧ ∀ i, i < B.length → 0 < i → B.getD i [] ≠ [] ∧ (B.getD i []).length ≤ 3 ∧ (B.getD i []).Nodup ∧ ∀ x ∈ B.getD i [], 0 ≤ x ∧ x < i
theorem SB.lens {B : List (List Int)} (h : SB B) : ∀ l ∈ B, l.length ≤ 3 := by
  intro l hl
  obtain ⟨i, hi, rfl⟩ := List.getElem_of_mem hl
  have e : B[i] = B.getD i [] := by simp [List.getD, List.getElem?_eq_getElem hi]
  rw [e]
  rcases Nat.eq_zero_or_pos i with rfl | h0
  · rw [h.2.1]; simp
  · exact (h.2.2 i hi h0).2.1

end Go.Vl

namespace Go.Vl
set_option linter.unusedVariables false
set_option linter.unusedSimpArgs false
open Go.Proofs

end Go.Vl

namespace Go.Vl
set_option linter.unusedVariables false
set_option linter.unusedSimpArgs false
open Go.Proofs

end Go.Vl

namespace Go.Vl
set_option linter.unusedVariables false
set_option linter.unusedSimpArgs false
open Go.Proofs
end Go.Vl

namespace Go.Vl
set_option linter.unusedVariables false
set_option linter.unusedSimpArgs false
open Go.Proofs
theorem merge_sub : ∀ (n : Nat) (ls : List (List Int)), hds (mergeF n ls).2 = [] → ∀ l ∈ ls, l.Sublist (mergeF n ls).1
  | 0, ls, h, l, hl => by rw [hds_nil.1 h l hl]; exact List.nil_sublist _
  | n+1, ls, h, l, hl => by
    unfold mergeF at h ⊢
    split at h
    · rename_i e
      simp only [e]
      rw [hds_nil.1 h l hl]; exact List.nil_sublist _
    · rename_i x e
      simp only [e]
      have h1 := merge_sub n (ls.map (tk x)) h (tk x l) (List.mem_map_of_mem hl)
      by_cases h2 : 0 < l.length ∧ l.getD 0 0 = x
      · rw [tk_t h2.1 h2.2] at h1
        cases l with
        | nil => exact List.nil_sublist _
        | cons y l =>
          have : y = x := h2.2
          rw [this]
          exact List.Sublist.cons_cons x h1
      · rw [tk_f h2] at h1
        exact List.Sublist.cons x h1
theorem ordM_ne {b : List (List Int)} {c : Nat} (h : ordM b c ≠ []) : (∀ x ∈ b.getD c [], (ordT b c).getD x.toNat [] ≠ []) ∧ hds (mergeM (ordL (ordT b c) (b.getD c []) ++ [b.getD c []])).2 = [] ∧ ordM b c = (c : Int) :: (mergeM (ordL (ordT b c) (b.getD c []) ++ [b.getD c []])).1 := by
  have h1 : ∀ x ∈ b.getD c [], (ordT b c).getD x.toNat [] ≠ [] := by
    intro x hx e
    apply h
    unfold ordM ordS
    rw [if_pos ⟨x, hx, e⟩]
  by_cases h2 : hds (mergeM (ordL (ordT b c) (b.getD c []) ++ [b.getD c []])).2 = []
  · exact ⟨h1, h2, by rw [ordM_go h1, if_pos h2]⟩
  · exact (h (by rw [ordM_go h1, if_neg h2])).elim
theorem ordM_sub {b : List (List Int)} (hv : VB b) : ∀ c, c < b.length → ∀ y ∈ ordM b c, ordM b y.toNat ≠ [] ∧ (ordM b y.toNat).Sublist (ordM b c) ∧ (b.getD y.toNat []).Sublist (ordM b c) := by
  intro c
  induction c using Nat.strongRecOn with
  | ind c ih =>
    intro hc y hy
    have hne : ordM b c ≠ [] := fun e => by rw [e] at hy; cases hy
    obtain ⟨h1, h2, h3⟩ := ordM_ne hne
    have hsub := merge_sub _ _ h2
    have hbase : ∀ x ∈ b.getD c [], ordM b x.toNat ≠ [] ∧ (ordM b x.toNat).Sublist (ordM b c) ∧ x.toNat < c := by
      intro x hx
      have hb := (hv.at hc).2.2 x hx
      have e := ordT_at hv hc hx
      refine ⟨by rw [← e]; exact h1 x hx, ?_, by omega⟩
      rw [h3]
      refine .cons _ (hsub _ (List.mem_append_left _ (List.mem_map.2 ⟨x, hx, e⟩)))
    have hin : ∀ x ∈ b.getD c [], y ∈ ordM b x.toNat → ordM b y.toNat ≠ [] ∧ (ordM b y.toNat).Sublist (ordM b c) ∧ (b.getD y.toNat []).Sublist (ordM b c) := by
      intro x hx hm
      obtain ⟨g1, g2, g3⟩ := hbase x hx
      obtain ⟨k1, k2, k3⟩ := ih x.toNat g3 (by omega) y hm
      exact ⟨k1, k2.trans g2, k3.trans g2⟩
    rw [h3] at hy
    rcases List.mem_cons.1 hy with e | hm
    · subst e
      refine ⟨hne, List.Sublist.refl _, ?_⟩
      show (b.getD c []).Sublist _
      rw [h3]
      exact .cons _ (hsub _ (List.mem_append_right _ (List.mem_singleton.2 rfl)))
    · obtain ⟨l, hl, hyl⟩ := mergeF_mem _ _ _ hm
      rcases List.mem_append.1 hl with h4 | h4
      · obtain ⟨x, hx, rfl⟩ := List.mem_map.1 h4
        rw [ordT_at hv hc hx] at hyl
        exact hin x hx hyl
      · rw [List.mem_singleton.1 h4] at hyl
        obtain ⟨g1, g2, g3⟩ := hbase y hyl
        have hb := (hv.at hc).2.2 y hyl
        refine hin y hyl ?_
        rw [(ordM_ne g1).2.2]
        rw [show ((y.toNat : Nat) : Int) = y by omega]
        exact List.mem_cons_self
end Go.Vl

namespace Go.Vl
set_option linter.unusedVariables false
set_option linter.unusedSimpArgs false
open Go.Proofs

theorem ord_head {b : List (List Int)} {c : Nat} (h : ordM b c ≠ []) : (c : Int) ∈ ordM b c := by rw [(ordM_ne h).2.2]; exact List.mem_cons_self
theorem abv_ord {b : List (List Int)} (hv : VB b) {c x : Nat} (h : Abv b c x) : c < b.length → ordM b c ≠ [] → (x : Int) ∈ ordM b c := by
  induction h with
  | refl c => exact fun _ h => ord_head h
  | @step c d x h1 h2 ih =>
    intro hc hne
    have h3 := (ordM_sub hv c hc c (ord_head hne)).2.2
    have h4 : (d : Int) ∈ ordM b c := h3.subset h1
    have h5 := ordM_sub hv c hc d h4
    have hb := (hv.at hc).2.2 d h1
    exact h5.2.1.subset (ih (by omega) h5.1)
def srtL (l : List Int) (n : Nat) : List Int := ((List.range n).filter (fun (i : Nat) => decide ((i : Int) ∈ l))).map (fun (i : Nat) => (i : Int))
end Go.Vl

namespace Go.Vl
set_option linter.unusedVariables false
set_option linter.unusedSimpArgs false
open Go.Proofs
/-- Is a name abstract, as the first class of an order that has it tells? -/
def isAbs (A R : List (List Int)) (n : Int) : List Int → Bool
  | [] => false
  | x :: r => if n ∈ A.getD x.toNat [] then true else if n ∈ R.getD x.toNat [] then false else isAbs A R n r
theorem isAbs_drop {A R : List (List Int)} {n : Int} {o : List Int} {k : Nat} (h : k < o.length) : isAbs A R n (o.drop k) = if n ∈ A.getD (o.getD k 0).toNat [] then true else if n ∈ R.getD (o.getD k 0).toNat [] then false else isAbs A R n (o.drop (k+1)) := by
  have e : o.getD k 0 = o[k] := by simp [List.getD, List.getElem?_eq_getElem h]
  rw [List.drop_eq_getElem_cons h, e]; rfl
theorem isAbs_iff {A R : List (List Int)} {n : Int} : ∀ {o : List Int}, isAbs A R n o = true ↔ ∃ p d q, o = p ++ d :: q ∧ n ∈ A.getD d.toNat [] ∧ ∀ x ∈ p, n ∉ A.getD x.toNat [] ∧ n ∉ R.getD x.toNat []
  | [] => by
    constructor
    · intro h; cases h
    · rintro ⟨p, d, q, h, _⟩; simp at h
  | x :: r => by
    unfold isAbs
    by_cases h1 : n ∈ A.getD x.toNat []
    · rw [if_pos h1]
      exact ⟨fun _ => ⟨[], x, r, rfl, h1, fun y hy => by cases hy⟩, fun _ => rfl⟩
    · rw [if_neg h1]
      by_cases h2 : n ∈ R.getD x.toNat []
      · rw [if_pos h2]
        constructor
        · intro h; cases h
        · rintro ⟨p, d, q, h, h3, h4⟩
          cases p with
          | nil => simp at h; rw [h.1] at h1; exact absurd h3 h1
          | cons y p => simp at h; rw [h.1] at h2; exact absurd h2 (h4 y (by simp)).2
      · rw [if_neg h2, isAbs_iff]
        constructor
        · rintro ⟨p, d, q, h, h3, h4⟩
          refine ⟨x :: p, d, q, by rw [h]; rfl, h3, fun y hy => ?_⟩
          rcases List.mem_cons.1 hy with rfl | hy
          · exact ⟨h1, h2⟩
          · exact h4 y hy
        · rintro ⟨p, d, q, h, h3, h4⟩
          cases p with
          | nil => simp at h; rw [h.1] at h1; exact absurd h3 h1
          | cons y p => simp at h; exact ⟨p, d, q, h.2, h3, fun z hz => h4 z (by simp [hz])⟩
/-- What stands before a number in a part of a list stands before it in the list. -/
theorem sub_before {d : Int} {q2 q : List Int} : ∀ {p p2 : List Int}, (p2 ++ d :: q2).Sublist (p ++ d :: q) → (p ++ d :: q).Nodup → ∀ x ∈ p2, x ∈ p
  | p, [], _, _, x, hx => by cases hx
  | [], y :: p2, h, hn, x, hx => by
    exfalso
    have hd : d ∉ q := (List.nodup_cons.1 hn).1
    cases h with
    | cons _ h => exact hd (h.subset (by simp))
    | cons_cons _ h => exact hd (h.subset (by simp))
  | a :: p, y :: p2, h, hn, x, hx => by
    have hn2 : (p ++ d :: q).Nodup := (List.nodup_cons.1 hn).2
    cases h with
    | cons _ h =>
      have := sub_before (p := p) (p2 := y :: p2) h hn2 x hx
      exact List.mem_cons_of_mem _ this
    | cons_cons _ h =>
      rcases List.mem_cons.1 hx with rfl | hx
      · exact List.mem_cons_self
      · exact List.mem_cons_of_mem _ (sub_before h hn2 x hx)
theorem mem_split {x : Int} {l : List Int} (h : x ∈ l) : ∃ p q, l = p ++ x :: q := List.append_of_mem h
theorem abs_bases {x : WorksM} (hv : VWorks x) {c : Nat} (hc : c < x.bases.length) (n : Int) : isAbs x.abs x.real n (ordM x.bases c) = true ↔ n ∈ x.abs.getD c [] ∨ ((∃ b ∈ x.bases.getD c [], isAbs x.abs x.real n (ordM x.bases b.toNat) = true) ∧ isAbs x.abs x.real n (ordM x.bases c) = true) := by
  have hne := hv.1.2 c hc
  obtain ⟨h1, h2, h3⟩ := ordM_ne hne
  constructor
  · intro h
    by_cases hA : n ∈ x.abs.getD c []
    · exact .inl hA
    refine .inr ⟨?_, h⟩
    obtain ⟨p, d, q, ho, hd, hp⟩ := isAbs_iff.1 h
    have hnd := (ordM_ok hv.1.1 c hc).1
    have hpc : p ≠ [] := by
      rintro rfl
      rw [h3] at ho
      simp at ho
      rw [← ho.1] at hd
      exact hA (by simpa using hd)
    have hdm : d ∈ (mergeM (ordL (ordT x.bases c) (x.bases.getD c []) ++ [x.bases.getD c []])).1 := by
      cases p with
      | nil => exact absurd rfl hpc
      | cons y p =>
        have ho2 : (c : Int) :: _ = y :: (p ++ d :: q) := h3.symm.trans ho
        rw [(List.cons.inj ho2).2]; simp
    have key : ∃ b ∈ x.bases.getD c [], d ∈ ordM x.bases b.toNat := by
      obtain ⟨l, hl, hyl⟩ := mergeF_mem _ _ _ hdm
      rcases List.mem_append.1 hl with h4 | h4
      · obtain ⟨b, hb, rfl⟩ := List.mem_map.1 h4
        rw [ordT_at hv.1.1 hc hb] at hyl
        exact ⟨b, hb, hyl⟩
      · rw [List.mem_singleton.1 h4] at hyl
        refine ⟨d, hyl, ?_⟩
        have hb := (hv.1.1.at hc).2.2 d hyl
        have := ord_head (hv.1.2 d.toNat (by omega))
        rwa [show ((d.toNat : Nat) : Int) = d by omega] at this
    obtain ⟨b, hb, hdb⟩ := key
    have hbm : b ∈ ordM x.bases c := by
      have hbb := (hv.1.1.at hc).2.2 b hb
      have := abv_ord hv.1.1 (c := c) (x := b.toNat) (.step (d := b.toNat) (by rw [show ((b.toNat : Nat) : Int) = b by omega]; exact hb) (.refl _)) hc hne
      rwa [show ((b.toNat : Nat) : Int) = b by omega] at this
    obtain ⟨_, hsub, _⟩ := ordM_sub hv.1.1 c hc b hbm
    refine ⟨b, hb, isAbs_iff.2 ?_⟩
    obtain ⟨p2, q2, e2⟩ := mem_split hdb
    refine ⟨p2, d, q2, e2, hd, fun y hy => hp y ?_⟩
    rw [e2, ho] at hsub
    exact sub_before hsub (by rw [← ho]; exact hnd) y hy
  · rintro (h | h)
    · rw [h3]
      unfold isAbs
      rw [if_pos (by simpa using h)]
    · exact h.2
def absP (x : WorksM) (c : Nat) (n : Int) : Bool := isAbs x.abs x.real n (ordM x.bases c)
def selI (p : Int → Bool) (k : Nat) : List Int := ((List.range k).map fun i : Nat => (i : Int)).filter p
theorem selI_yes {p : Int → Bool} {k : Nat} (h : p k = true) : selI p (k + 1) = selI p k ++ [(k : Int)] := by
  unfold selI; rw [List.range_succ, List.map_append, List.filter_append]; simp [h]
theorem selI_no {p : Int → Bool} {k : Nat} (h : ¬ p k = true) : selI p (k + 1) = selI p k := by
  unfold selI; rw [List.range_succ, List.map_append, List.filter_append]; simp [h]
theorem selI_len (p : Int → Bool) (k : Nat) : (selI p k).length ≤ k := by
  unfold selI; refine Nat.le_trans (List.length_filter_le _ _) (by simp)
theorem selI_mem {p : Int → Bool} {k : Nat} {n : Int} : n ∈ selI p k ↔ p n = true ∧ 0 ≤ n ∧ n < k := by
  unfold selI
  rw [List.mem_filter, List.mem_map]
  constructor
  · rintro ⟨⟨i, hi, rfl⟩, h⟩; have := List.mem_range.1 hi; exact ⟨h, by omega, by omega⟩
  · rintro ⟨h, h0, h1⟩; exact ⟨⟨n.toNat, List.mem_range.2 (by omega), by omega⟩, h⟩
theorem selI_asc (p : Int → Bool) (k : Nat) : (selI p k).Pairwise (· < ·) := by
  unfold selI
  refine List.Pairwise.filter _ ?_
  rw [List.pairwise_map]
  exact List.pairwise_lt_range.imp fun h => by omega
/-- Ascending lists with the same numbers are equal. -/
theorem asc_ext : ∀ {a b : List Int}, a.Pairwise (· < ·) → b.Pairwise (· < ·) → (∀ n, n ∈ a ↔ n ∈ b) → a = b
  | [], [], _, _, _ => rfl
  | [], y :: b, _, _, h => by have := (h y).2 (by simp); cases this
  | x :: a, [], _, _, h => by have := (h x).1 (by simp); cases this
  | x :: a, y :: b, ha, hb, h => by
    have ha1 := List.pairwise_cons.1 ha
    have hb1 := List.pairwise_cons.1 hb
    have hxy : x = y := by
      rcases List.mem_cons.1 ((h x).1 (by simp)) with e | hx
      · exact e
      · rcases List.mem_cons.1 ((h y).2 (by simp)) with e | hy
        · exact e.symm
        · have := ha1.1 y hy; have := hb1.1 x hx; omega
    subst hxy
    have : a = b := asc_ext ha1.2 hb1.2 fun n => by
      constructor
      · intro hn
        rcases List.mem_cons.1 ((h n).1 (by simp [hn])) with e | hn2
        · have := ha1.1 n hn; omega
        · exact hn2
      · intro hn
        rcases List.mem_cons.1 ((h n).2 (by simp [hn])) with e | hn2
        · have := hb1.1 n hn; omega
        · exact hn2
    rw [this]
def absM (x : WorksM) (c : Int) : List Int := if VWorks x ∧ 0 ≤ c ∧ c ≤ (x.bases.length : Int) - 1 then selI (absP x c.toNat) 10 else []
theorem absM_yes {x : WorksM} {c : Int} (h : VWorks x ∧ 0 ≤ c ∧ c ≤ (x.bases.length : Int) - 1) : absM x c = selI (absP x c.toNat) 10 := by unfold absM; rw [if_pos h]
theorem absM_no {x : WorksM} {c : Int} (h : ¬ (VWorks x ∧ 0 ≤ c ∧ c ≤ (x.bases.length : Int) - 1)) : absM x c = [] := by unfold absM; rw [if_neg h]
theorem absM_len {x : WorksM} {c : Int} : (absM x c).length ≤ 10 := by
  unfold absM; split
  · exact selI_len _ _
  · simp
/-- Classes of an order are classes. -/
def OrdIx (n : Nat) (o : List Int) : Prop := o.length < 1000000000 ∧ ∀ x ∈ o, 0 ≤ x ∧ x < n
theorem ordIx_of {b : List (List Int)} (hv : allOK b) {c : Nat} (hc : c < b.length) : OrdIx b.length (ordM b c) := by
  have hl := ordM_len hv.1 hc
  refine ⟨by omega, fun x hx => ?_⟩
  have := (ordM_ok hv.1 _ hc).2 x hx
  omega

theorem areWorks_sat {nl0 : Option Bool} {a : List Int} {nl1 : Option Bool} {r : List Int} (ha : a.length < 1000000000) (hr : r.length < 1000000000)  : SatAt Try.prog 58 [.pv false (.sl nl0 1 (a.map intP)), .pv false (.sl nl1 1 (r.map intP))] [] (fun res rows => res = [bo (decide (okWk a r))] ∧ rows = []) := by
  refine sat_entry_G (rs := [(4, none)]) Try.func58 rfl rfl (Nat.le_of_ble_eq_true rfl) (Nat.le_of_ble_eq_true rfl) (resTs1 trivial) fun C hC => ?_
  rw [Try.ntmps58]
  replace hC : C.nb = 0 := hC
  refine vc_seq fun K1 hK1 => ?_
  refine vc_region ?_
  refine vo_assign_pv rfl rfl ?_
  refine vo_nil ?_
  refine hK1 _ ?_
  refine vc_seq fun K2 hK2 => ?_
  refine vc_seq fun K3 hK3 => ?_
  refine vc_region ?_
  refine vo_move_pv rfl rfl ?_
  refine vo_len_pv rfl rfl Try.underlying28 ?_
  refine vo_binI rfl rfl rfl rfl trivial ?_
  refine vo_move_pv rfl rfl ?_
  refine vo_split 9 rfl (fun hg1 => ?_) (fun hg1 => ?_)
  · try simp only [zq0, zq1, zq2, zq3, zq4, zq5, zq6, zq7, zq8, zq9, zqa, zqb, zqc, zqd, zqe, zqf] at hg1
    refine vo_guard_off rfl rfl rfl rfl rfl ?_
    refine vo_guard_off rfl rfl rfl rfl rfl ?_
    refine vo_guard_off rfl rfl rfl rfl rfl ?_
    refine vo_pick_t rfl rfl ?_
    refine vo_nil ?_
    refine hK3 _ ?_
    refine vc_cond_t rfl ?_
    refine vc_seq fun K4 hK4 => ?_
    refine vc_region ?_
    refine vo_assign_pv rfl rfl ?_
    refine vo_nil ?_
    refine hK4 _ ?_
    refine vc_ret ?_
    change retQ _ _ _ _ _
    refine retQ_sel [] (srows := []) (.inr rfl) hC rfl rfl rfl rfl rfl rfl rfl ?_
    refine ⟨?_, rfl⟩
    refine (congrArg (fun b => [bo b]) (?_ : _ = _) : [bo _] = [bo _])
    have hk : okWk a r ↔ [a, r].flatten.Nodup ∧ ∀ n ∈ [a, r].flatten, 0 ≤ n ∧ n ≤ 9 := by rw [show [a, r].flatten = a ++ r by simp]; exact Iff.rfl
    first
      | exact bF fun h => by have := okWk_len h; omega
      | (refine bF fun h => ?_
         have h9 := nodup_le10 (hk.1 h).1 (hk.1 h).2
         first | exact absurd ⟨by omega, (hk.1 h).1⟩ ‹¬ OKL [a, r].flatten 10› | exact absurd (hk.1 h).2 (by assumption))
      | exact decide_eq_decide.2 ⟨fun h => hk.2 ⟨(‹OKL [a, r].flatten 10›).2, h⟩, fun h => (hk.1 h).2⟩
  · try simp only [zq0, zq1, zq2, zq3, zq4, zq5, zq6, zq7, zq8, zq9, zqa, zqb, zqc, zqd, zqe, zqf] at hg1
    refine vo_guard_on rfl rfl rfl ?_
    refine vo_move_pv rfl rfl ?_
    refine vo_guard_on rfl rfl rfl ?_
    refine vo_len_pv rfl rfl Try.underlying28 ?_
    refine vo_guard_on rfl rfl rfl ?_
    refine vo_binI rfl rfl rfl rfl trivial ?_
    refine vo_pick_f rfl rfl ?_
    refine vo_nil ?_
    refine hK3 _ ?_
    refine vc_cond rfl (fun hc2 => ?_) (fun hc2 => ?_)
    · try simp only [zq0, zq1, zq2, zq3, zq4, zq5, zq6, zq7, zq8, zq9, zqa, zqb, zqc, zqd, zqe, zqf] at hc2
      refine vc_seq fun K5 hK5 => ?_
      refine vc_region ?_
      refine vo_assign_pv rfl rfl ?_
      refine vo_nil ?_
      refine hK5 _ ?_
      refine vc_ret ?_
      change retQ _ _ _ _ _
      refine retQ_sel [] (srows := []) (.inr rfl) hC rfl rfl rfl rfl rfl rfl rfl ?_
      refine ⟨?_, rfl⟩
      refine (congrArg (fun b => [bo b]) (?_ : _ = _) : [bo _] = [bo _])
      have hk : okWk a r ↔ [a, r].flatten.Nodup ∧ ∀ n ∈ [a, r].flatten, 0 ≤ n ∧ n ≤ 9 := by rw [show [a, r].flatten = a ++ r by simp]; exact Iff.rfl
      first
        | exact bF fun h => by have := okWk_len h; omega
        | (refine bF fun h => ?_
           have h9 := nodup_le10 (hk.1 h).1 (hk.1 h).2
           first | exact absurd ⟨by omega, (hk.1 h).1⟩ ‹¬ OKL [a, r].flatten 10› | exact absurd (hk.1 h).2 (by assumption))
        | exact decide_eq_decide.2 ⟨fun h => hk.2 ⟨(‹OKL [a, r].flatten 10›).2, h⟩, fun h => (hk.1 h).2⟩
    · try simp only [zq0, zq1, zq2, zq3, zq4, zq5, zq6, zq7, zq8, zq9, zqa, zqb, zqc, zqd, zqe, zqf] at hc2
      refine vc_skip ?_
      refine hK2 _ ?_
      refine vc_seq fun K6 hK6 => ?_
      refine vc_region ?_
      refine vo_move_pv rfl rfl ?_
      refine vo_move_pv rfl rfl ?_
      refine vo_weaken 14 rfl ?_
      refine vo_stM ?_
      refine vo_weaken 15 rfl ?_
      refine vo_stM ?_
      refine vo_buildSlice E23 rfl rfl rfl rfl rfl ?_
      refine vo_stM ?_
      refine vo_call [] Try.func99 rfl rfl rfl rfl rfl rfl rfl (Concat_sat (L := [a, r]) (by simp) (by intro l hl; simp at hl; rcases hl with rfl | rfl <;> omega)) ?_
      rintro _ _ ⟨nl9, rfl, rfl⟩
      refine ⟨Nat.le_of_ble_eq_true rfl, ⟨rfl, rfl, rfl, rfl⟩, .inr ⟨rfl, rfl⟩, ?_⟩
      refine vo_stM ?_
      refine vo_expose 1 (by omega) rfl ?_
      refine vo_stM ?_
      refine vo_weaken 17 rfl ?_
      refine vo_stM ?_
      refine vo_assign_pv rfl rfl ?_
      refine vo_nil ?_
      refine hK6 _ ?_
      refine vc_seq fun K7 hK7 => ?_
      refine vc_region ?_
      refine vo_move_pv rfl rfl ?_
      refine vo_call0 Try.func100 rfl rfl rfl rfl (isList_sat (list := [a, r].flatten) (by simp; omega)) ?_
      rintro _ _ ⟨rfl, rfl⟩
      refine ⟨rfl, rfl, .inl rfl, ?_⟩
      refine vo_stM ?_
      refine vo_move_pv rfl rfl ?_
      refine vo_split 20 rfl (fun hg3 => ?_) (fun hg3 => ?_)
      · try simp only [zq0, zq1, zq2, zq3, zq4, zq5, zq6, zq7, zq8, zq9, zqa, zqb, zqc, zqd, zqe, zqf] at hg3
        refine vo_guard_on rfl rfl rfl ?_
        refine vo_move_pv rfl rfl ?_
        refine vo_guard_on rfl rfl rfl ?_
        refine vo_call0 Try.func78 rfl rfl rfl rfl (areUpTo_sat (list := [a, r].flatten) (by simp; omega)) ?_
        rintro _ _ ⟨rfl, rfl⟩
        refine ⟨rfl, rfl, .inl rfl, ?_⟩
        refine vo_stM ?_
        refine vo_pick_t rfl rfl ?_
        refine vo_assign_pv rfl rfl ?_
        refine vo_nil ?_
        refine hK7 _ ?_
        refine vc_ret ?_
        change retQ _ _ _ _ _
        refine retQ_sel [] (srows := []) (.inr rfl) hC rfl rfl rfl rfl rfl rfl rfl ?_
        refine ⟨?_, rfl⟩
        refine (congrArg (fun b => [bo b]) (?_ : _ = _) : [bo _] = [bo _])
        have hk : okWk a r ↔ [a, r].flatten.Nodup ∧ ∀ n ∈ [a, r].flatten, 0 ≤ n ∧ n ≤ 9 := by rw [show [a, r].flatten = a ++ r by simp]; exact Iff.rfl
        first
          | exact bF fun h => by have := okWk_len h; omega
          | (refine bF fun h => ?_
             have h9 := nodup_le10 (hk.1 h).1 (hk.1 h).2
             first | exact absurd ⟨by omega, (hk.1 h).1⟩ ‹¬ OKL [a, r].flatten 10› | exact absurd (hk.1 h).2 (by assumption))
          | exact decide_eq_decide.2 ⟨fun h => hk.2 ⟨(‹OKL [a, r].flatten 10›).2, h⟩, fun h => (hk.1 h).2⟩
      · try simp only [zq0, zq1, zq2, zq3, zq4, zq5, zq6, zq7, zq8, zq9, zqa, zqb, zqc, zqd, zqe, zqf] at hg3
        refine vo_guard_off rfl rfl rfl rfl rfl ?_
        refine vo_guard_off rfl rfl rfl rfl rfl ?_
        refine vo_pick_f rfl rfl ?_
        refine vo_assign_pv rfl rfl ?_
        refine vo_nil ?_
        refine hK7 _ ?_
        refine vc_ret ?_
        change retQ _ _ _ _ _
        refine retQ_sel [] (srows := []) (.inr rfl) hC rfl rfl rfl rfl rfl rfl rfl ?_
        refine ⟨?_, rfl⟩
        refine (congrArg (fun b => [bo b]) (?_ : _ = _) : [bo _] = [bo _])
        have hk : okWk a r ↔ [a, r].flatten.Nodup ∧ ∀ n ∈ [a, r].flatten, 0 ≤ n ∧ n ≤ 9 := by rw [show [a, r].flatten = a ++ r by simp]; exact Iff.rfl
        first
          | exact bF fun h => by have := okWk_len h; omega
          | (refine bF fun h => ?_
             have h9 := nodup_le10 (hk.1 h).1 (hk.1 h).2
             first | exact absurd ⟨by omega, (hk.1 h).1⟩ ‹¬ OKL [a, r].flatten 10› | exact absurd (hk.1 h).2 (by assumption))
          | exact decide_eq_decide.2 ⟨fun h => hk.2 ⟨(‹OKL [a, r].flatten 10›).2, h⟩, fun h => (hk.1 h).2⟩

theorem implValidWorks_sat {x : WorksM}  (hx : SK x) : SatAt Try.prog 16 [.pv false (worksP x)] [] (fun res rows => res = [bo (decide (VWorks x))] ∧ rows = []) := by
  obtain ⟨⟨b1, b2⟩, ⟨a1, a2⟩, r1, r2⟩ := hx
  refine sat_entry_G (rs := [(2, none)]) Try.func16 rfl rfl (Nat.le_of_ble_eq_true rfl) (Nat.le_of_ble_eq_true rfl) (resTs1 trivial) fun C hC => ?_
  rw [Try.ntmps16]
  replace hC : C.nb = 0 := hC
  refine vc_seq fun K1 hK1 => ?_
  refine vc_region ?_
  refine vo_box rfl rfl ?_
  refine vo_stM ?_
  refine vo_assign_pv rfl rfl ?_
  refine vo_nil ?_
  refine hK1 _ ?_
  refine vc_seq fun K2 hK2 => ?_
  refine vc_seq fun K3 hK3 => ?_
  refine vc_region ?_
  refine vo_fieldAddr_ptr rfl rfl Try.underlying25 rfl inf23 (by rw [sz23]; decide) ?_
  try simp only [Nat.zero_add]
  refine vo_load_var rfl rfl rfl Try.underlying23 rfl rfl ?_
  refine vo_call0 Try.func57 rfl rfl rfl rfl (implAllOrders_sat (by omega) (fun l hl => by have := b2 l hl; omega)) ?_
  rintro _ _ ⟨rfl, rfl⟩
  refine ⟨rfl, rfl, .inl rfl, ?_⟩
  refine vo_stM ?_
  refine vo_not rfl rfl ?_
  refine vo_move_pv rfl rfl ?_
  refine vo_split 9 rfl (fun hg1 => ?_) (fun hg1 => ?_)
  · try simp only [zq0, zq1, zq2, zq3, zq4, zq5, zq6, zq7, zq8, zq9, zqa, zqb, zqc, zqd, zqe, zqf] at hg1
    refine vo_guard_off rfl rfl rfl rfl rfl ?_
    refine vo_guard_off rfl rfl rfl rfl rfl ?_
    refine vo_guard_off rfl rfl rfl rfl rfl ?_
    refine vo_guard_off rfl rfl rfl rfl rfl ?_
    refine vo_guard_off rfl rfl rfl rfl rfl ?_
    refine vo_guard_off rfl rfl rfl rfl rfl ?_
    refine vo_guard_off rfl rfl rfl rfl rfl ?_
    refine vo_pick_t rfl rfl ?_
    refine vo_move_pv rfl rfl ?_
    refine vo_guard_off rfl rfl rfl rfl rfl ?_
    refine vo_guard_off rfl rfl rfl rfl rfl ?_
    refine vo_guard_off rfl rfl rfl rfl rfl ?_
    refine vo_guard_off rfl rfl rfl rfl rfl ?_
    refine vo_guard_off rfl rfl rfl rfl rfl ?_
    refine vo_guard_off rfl rfl rfl rfl rfl ?_
    refine vo_guard_off rfl rfl rfl rfl rfl ?_
    refine vo_pick_t rfl rfl ?_
    refine vo_nil ?_
    refine hK3 _ ?_
    refine vc_cond_t rfl ?_
    refine vc_seq fun K4 hK4 => ?_
    refine vc_region ?_
    refine vo_assign_pv rfl rfl ?_
    refine vo_nil ?_
    refine hK4 _ ?_
    refine vc_ret ?_
    change retQ _ _ _ _ _
    refine retQ_sel [] (srows := []) (.inr rfl) hC rfl rfl rfl rfl rfl rfl rfl ?_
    refine ⟨?_, rfl⟩
    refine (congrArg (fun b => [bo b]) (?_ : _ = _) : [bo _] = [bo _])
    first
      | (refine bF fun h0 => ?_
         have h1 := h0.2.1; have h2 := h0.2.2.1
         first
           | omega
           | exact absurd h0.1 (by assumption)
           | exact absurd h0.1.1 (by assumption)
           | exact absurd h0.1.2 (by assumption)
           | exact absurd (h0.2.2.2 k (by omega)) (by assumption)
           | exact absurd (h0.2.2.2 k (by omega)).1 (by assumption)
           | exact absurd (h0.2.2.2 k (by omega)).2 (by assumption))
      | exact bT ⟨by first | assumption | exact ⟨hg1, hg2⟩, by omega, by omega, fun i hi => hf i (by omega)⟩
  · try simp only [zq0, zq1, zq2, zq3, zq4, zq5, zq6, zq7, zq8, zq9, zqa, zqb, zqc, zqd, zqe, zqf] at hg1
    refine vo_guard_on rfl rfl rfl ?_
    refine vo_fieldAddr_ptr rfl rfl Try.underlying25 rfl inf23 (by rw [sz23]; decide) ?_
    try simp only [Nat.zero_add]
    refine vo_guard_on rfl rfl rfl ?_
    refine vo_load_var rfl rfl rfl Try.underlying23 rfl rfl ?_
    refine vo_guard_on rfl rfl rfl ?_
    refine vo_len_pv rfl rfl Try.underlying23 ?_
    refine vo_guard_on rfl rfl rfl ?_
    refine vo_fieldAddr_ptr rfl rfl Try.underlying25 rfl inf23 (by rw [sz23]; decide) ?_
    try simp only [Nat.zero_add]
    refine vo_guard_on rfl rfl rfl ?_
    refine vo_load_var rfl rfl rfl Try.underlying23 rfl rfl ?_
    refine vo_guard_on rfl rfl rfl ?_
    refine vo_len_pv rfl rfl Try.underlying23 ?_
    refine vo_guard_on rfl rfl rfl ?_
    refine vo_binI rfl rfl rfl rfl trivial ?_
    refine vo_pick_f rfl rfl ?_
    refine vo_move_pv rfl rfl ?_
    refine vo_split 18 rfl (fun hg2 => ?_) (fun hg2 => ?_)
    · try simp only [zq0, zq1, zq2, zq3, zq4, zq5, zq6, zq7, zq8, zq9, zqa, zqb, zqc, zqd, zqe, zqf] at hg2
      refine vo_guard_off rfl rfl rfl rfl rfl ?_
      refine vo_guard_off rfl rfl rfl rfl rfl ?_
      refine vo_guard_off rfl rfl rfl rfl rfl ?_
      refine vo_guard_off rfl rfl rfl rfl rfl ?_
      refine vo_guard_off rfl rfl rfl rfl rfl ?_
      refine vo_guard_off rfl rfl rfl rfl rfl ?_
      refine vo_guard_off rfl rfl rfl rfl rfl ?_
      refine vo_pick_t rfl rfl ?_
      refine vo_nil ?_
      refine hK3 _ ?_
      refine vc_cond_t rfl ?_
      refine vc_seq fun K5 hK5 => ?_
      refine vc_region ?_
      refine vo_assign_pv rfl rfl ?_
      refine vo_nil ?_
      refine hK5 _ ?_
      refine vc_ret ?_
      change retQ _ _ _ _ _
      refine retQ_sel [] (srows := []) (.inr rfl) hC rfl rfl rfl rfl rfl rfl rfl ?_
      refine ⟨?_, rfl⟩
      refine (congrArg (fun b => [bo b]) (?_ : _ = _) : [bo _] = [bo _])
      first
        | (refine bF fun h0 => ?_
           have h1 := h0.2.1; have h2 := h0.2.2.1
           first
             | omega
             | exact absurd h0.1 (by assumption)
             | exact absurd h0.1.1 (by assumption)
             | exact absurd h0.1.2 (by assumption)
             | exact absurd (h0.2.2.2 k (by omega)) (by assumption)
             | exact absurd (h0.2.2.2 k (by omega)).1 (by assumption)
             | exact absurd (h0.2.2.2 k (by omega)).2 (by assumption))
        | exact bT ⟨by first | assumption | exact ⟨hg1, hg2⟩, by omega, by omega, fun i hi => hf i (by omega)⟩
    · try simp only [zq0, zq1, zq2, zq3, zq4, zq5, zq6, zq7, zq8, zq9, zqa, zqb, zqc, zqd, zqe, zqf] at hg2
      refine vo_guard_on rfl rfl rfl ?_
      refine vo_fieldAddr_ptr rfl rfl Try.underlying25 rfl inf23 (by rw [sz23]; decide) ?_
      try simp only [Nat.zero_add]
      refine vo_guard_on rfl rfl rfl ?_
      refine vo_load_var rfl rfl rfl Try.underlying23 rfl rfl ?_
      refine vo_guard_on rfl rfl rfl ?_
      refine vo_len_pv rfl rfl Try.underlying23 ?_
      refine vo_guard_on rfl rfl rfl ?_
      refine vo_fieldAddr_ptr rfl rfl Try.underlying25 rfl inf23 (by rw [sz23]; decide) ?_
      try simp only [Nat.zero_add]
      refine vo_guard_on rfl rfl rfl ?_
      refine vo_load_var rfl rfl rfl Try.underlying23 rfl rfl ?_
      refine vo_guard_on rfl rfl rfl ?_
      refine vo_len_pv rfl rfl Try.underlying23 ?_
      refine vo_guard_on rfl rfl rfl ?_
      refine vo_binI rfl rfl rfl rfl trivial ?_
      refine vo_pick_f rfl rfl ?_
      refine vo_nil ?_
      refine hK3 _ ?_
      refine vc_cond rfl (fun hc3 => ?_) (fun hc3 => ?_)
      · try simp only [zq0, zq1, zq2, zq3, zq4, zq5, zq6, zq7, zq8, zq9, zqa, zqb, zqc, zqd, zqe, zqf] at hc3
        refine vc_seq fun K6 hK6 => ?_
        refine vc_region ?_
        refine vo_assign_pv rfl rfl ?_
        refine vo_nil ?_
        refine hK6 _ ?_
        refine vc_ret ?_
        change retQ _ _ _ _ _
        refine retQ_sel [] (srows := []) (.inr rfl) hC rfl rfl rfl rfl rfl rfl rfl ?_
        refine ⟨?_, rfl⟩
        refine (congrArg (fun b => [bo b]) (?_ : _ = _) : [bo _] = [bo _])
        first
          | (refine bF fun h0 => ?_
             have h1 := h0.2.1; have h2 := h0.2.2.1
             first
               | omega
               | exact absurd h0.1 (by assumption)
               | exact absurd h0.1.1 (by assumption)
               | exact absurd h0.1.2 (by assumption)
               | exact absurd (h0.2.2.2 k (by omega)) (by assumption)
               | exact absurd (h0.2.2.2 k (by omega)).1 (by assumption)
               | exact absurd (h0.2.2.2 k (by omega)).2 (by assumption))
          | exact bT ⟨by first | assumption | exact ⟨hg1, hg2⟩, by omega, by omega, fun i hi => hf i (by omega)⟩
      · try simp only [zq0, zq1, zq2, zq3, zq4, zq5, zq6, zq7, zq8, zq9, zqa, zqb, zqc, zqd, zqe, zqf] at hc3
        refine vc_skip ?_
        refine hK2 _ ?_
        refine vc_seq fun K7 hK7 => ?_
        refine vc_seq fun K8 hK8 => ?_
        refine vc_region ?_
        refine vo_fieldAddr_ptr rfl rfl Try.underlying25 rfl inf23 (by rw [sz23]; decide) ?_
        try simp only [Nat.zero_add]
        refine vo_load_var rfl rfl rfl Try.underlying23 rfl rfl ?_
        refine vo_len_pv rfl rfl Try.underlying23 ?_
        refine vo_move_pv rfl rfl ?_
        refine vo_nil ?_
        refine hK8 _ ?_
        refine vc_block ?_
        refine vc_stM ?_
        refine vc_loopE [1, 28, 29] [30] [] _ _ (fun mz vs rs => ∃ (k : Nat), mz = x.abs.length - k ∧ (k ≤ x.abs.length) ∧ (∀ i, i < k → okWk (x.abs.getD i []) (x.real.getD i [])) ∧ vs = [i64 k] ∧ rs = []) (x.abs.length) rfl rfl (le_len hC rfl) ⟨rfl, rfl, rfl⟩ rfl ⟨0, rfl, Nat.zero_le _, (fun i h => by omega), rfl, rfl⟩ ?_
        rintro mz vs rs - - ⟨k, rfl, hk, hf, rfl, rfl⟩
        refine vc_stM ?_
        have hal := getD_all (p := fun l : List Int => l.length ≤ 2000000) a2 [] (by simp) k
        have hrl := getD_all (p := fun l : List Int => l.length ≤ 2000000) r2 [] (by simp) k
        refine vc_seq fun K9 hK9 => ?_
        refine vc_region ?_
        refine vo_binI rfl rfl rfl rfl trivial ?_
        refine vo_nil ?_
        refine hK9 _ ?_
        refine vc_seq fun K10 hK10 => ?_
        refine vc_cond rfl (fun hc4 => ?_) (fun hc4 => ?_)
        · try simp only [zq0, zq1, zq2, zq3, zq4, zq5, zq6, zq7, zq8, zq9, zqa, zqb, zqc, zqd, zqe, zqf] at hc4
          refine vc_skip ?_
          refine hK10 _ ?_
          refine vc_seq fun K11 hK11 => ?_
          refine vc_block ?_
          refine vc_seq fun K12 hK12 => ?_
          refine vc_region ?_
          refine vo_move_pv rfl rfl ?_
          refine vo_index_pv (.sl none 1 []) rfl rfl rfl E23.und inf28 sz28 sd sd ?_
          simp only [Int.toNat_natCast, Int.toNat_zero, getD_ints, getD_intss, getD_bools, getD_bytes, PV.cells, getD_ops, getD_pairs, getD_insts, getD_attrs, getD_attrss, getD_objs, getD_ordP]
          refine vo_load_adr rfl rfl Try.underlying28 rfl ?_
          refine vo_assign_pv rfl rfl ?_
          refine vo_assign_pv rfl rfl ?_
          refine vo_nil ?_
          refine hK12 _ ?_
          refine vc_seq fun K13 hK13 => ?_
          refine vc_region ?_
          refine vo_move_pv rfl rfl ?_
          refine vo_fieldAddr_ptr rfl rfl Try.underlying25 rfl inf23 (by rw [sz23]; decide) ?_
          try simp only [Nat.zero_add]
          refine vo_load_var rfl rfl rfl Try.underlying23 rfl rfl ?_
          refine vo_move_pv rfl rfl ?_
          refine vo_index_pv (.sl none 1 []) rfl rfl rfl E23.und inf28 sz28 sd sd ?_
          simp only [Int.toNat_natCast, Int.toNat_zero, getD_ints, getD_intss, getD_bools, getD_bytes, PV.cells, getD_ops, getD_pairs, getD_insts, getD_attrs, getD_attrss, getD_objs, getD_ordP]
          refine vo_load_adr rfl rfl Try.underlying28 rfl ?_
          refine vo_call0 Try.func58 rfl rfl rfl rfl (areWorks_sat (by omega) (by omega)) ?_
          rintro _ _ ⟨rfl, rfl⟩
          refine ⟨rfl, rfl, .inl rfl, ?_⟩
          refine vo_stM ?_
          refine vo_not rfl rfl ?_
          refine vo_nil ?_
          refine hK13 _ ?_
          refine vc_cond rfl (fun hc5 => ?_) (fun hc5 => ?_)
          · try simp only [zq0, zq1, zq2, zq3, zq4, zq5, zq6, zq7, zq8, zq9, zqa, zqb, zqc, zqd, zqe, zqf] at hc5
            refine vc_seq fun K14 hK14 => ?_
            refine vc_region ?_
            refine vo_assign_pv rfl rfl ?_
            refine vo_nil ?_
            refine hK14 _ ?_
            refine vc_ret ?_
            change retQ _ _ _ _ _
            refine retQ_sel [] (srows := []) (.inr rfl) hC rfl rfl rfl rfl rfl rfl rfl ?_
            refine ⟨?_, rfl⟩
            refine (congrArg (fun b => [bo b]) (?_ : _ = _) : [bo _] = [bo _])
            first
              | (refine bF fun h0 => ?_
                 have h1 := h0.2.1; have h2 := h0.2.2.1
                 first
                   | omega
                   | exact absurd h0.1 (by assumption)
                   | exact absurd h0.1.1 (by assumption)
                   | exact absurd h0.1.2 (by assumption)
                   | exact absurd (h0.2.2.2 k (by omega)) (by assumption)
                   | exact absurd (h0.2.2.2 k (by omega)).1 (by assumption)
                   | exact absurd (h0.2.2.2 k (by omega)).2 (by assumption))
              | exact bT ⟨by first | assumption | exact ⟨hg1, hg2⟩, by omega, by omega, fun i hi => hf i (by omega)⟩
          · try simp only [zq0, zq1, zq2, zq3, zq4, zq5, zq6, zq7, zq8, zq9, zqa, zqb, zqc, zqd, zqe, zqf] at hc5
            refine vc_skip ?_
            refine hK11 _ ?_
            refine vc_region ?_
            refine vo_binI rfl rfl rfl rfl sd ?_
            refine vo_move_pv rfl rfl ?_
            refine vo_nil ?_
            change againE _ _ _ _ _ _ _ _ _ _
            refine againE_mk rfl rfl rfl rfl rfl rfl ⟨_, ?_, k + 1, rfl, ?_, ?_, rfl, rfl⟩
            · omega
            · omega
            · intro i hi; rcases Nat.lt_or_ge i k with h1 | h1; exact hf i h1; rw [show i = k by omega]; assumption
        · try simp only [zq0, zq1, zq2, zq3, zq4, zq5, zq6, zq7, zq8, zq9, zqa, zqb, zqc, zqd, zqe, zqf] at hc4
          refine vc_exit ?_
          refine hK7 _ ?_
          refine vc_seq fun K15 hK15 => ?_
          refine vc_region ?_
          refine vo_assign_pv rfl rfl ?_
          refine vo_nil ?_
          refine hK15 _ ?_
          refine vc_ret ?_
          change retQ _ _ _ _ _
          refine retQ_sel [] (srows := []) (.inr rfl) hC rfl rfl rfl rfl rfl rfl rfl ?_
          refine ⟨?_, rfl⟩
          refine (congrArg (fun b => [bo b]) (?_ : _ = _) : [bo _] = [bo _])
          first
            | (refine bF fun h0 => ?_
               have h1 := h0.2.1; have h2 := h0.2.2.1
               first
                 | omega
                 | exact absurd h0.1 (by assumption)
                 | exact absurd h0.1.1 (by assumption)
                 | exact absurd h0.1.2 (by assumption)
                 | exact absurd (h0.2.2.2 k (by omega)) (by assumption)
                 | exact absurd (h0.2.2.2 k (by omega)).1 (by assumption)
                 | exact absurd (h0.2.2.2 k (by omega)).2 (by assumption))
            | exact bT ⟨by first | assumption | exact ⟨hg1, hg2⟩, by omega, by omega, fun i hi => hf i (by omega)⟩


theorem hasWorks_sat {x : WorksM} {c : Int}  (hx : SK x) : SatAt Try.prog 60 [.pv false (worksP x), i64 c] [] (fun res rows => res = [bo (decide (VWorks x ∧ 0 ≤ c ∧ c ≤ (x.bases.length : Int) - 1))] ∧ rows = []) := by
 have hx0 := hx
 obtain ⟨⟨b1, b2⟩, ⟨a1, a2⟩, r1, r2⟩ := hx
 refine sat_entry_G (rs := [(4, none)]) Try.func60 rfl rfl (Nat.le_of_ble_eq_true rfl) (Nat.le_of_ble_eq_true rfl) (resTs1 trivial) fun C hC => ?_
 rw [Try.ntmps60]
 replace hC : C.nb = 0 := hC
 refine vc_seq fun K1 hK1 => ?_
 refine vc_region ?_
 refine vo_box rfl rfl ?_
 refine vo_stM ?_
 refine vo_assign_pv rfl rfl ?_
 refine vo_nil ?_
 refine hK1 _ ?_
 refine vc_seq fun K2 hK2 => ?_
 refine vc_region ?_
 refine vo_load_varS rfl rfl rfl Try.underlying25 rfl inf25 sz25 rfl rfl ?_
 refine vo_call0 Try.func16 rfl rfl rfl rfl (implValidWorks_sat hx0) ?_
 rintro _ _ ⟨rfl, rfl⟩
 refine ⟨rfl, rfl, .inl rfl, ?_⟩
 refine vo_stM ?_
 refine vo_move_pv rfl rfl ?_
 refine vo_split 7 rfl (fun hg1 => ?_) (fun hg1 => ?_)
 ·try simp only [zq0, zq1, zq2, zq3, zq4, zq5, zq6, zq7, zq8, zq9, zqa, zqb, zqc, zqd, zqe, zqf] at hg1
  refine vo_guard_on rfl rfl rfl ?_
  refine vo_move_pv rfl rfl ?_
  refine vo_guard_on rfl rfl rfl ?_
  refine vo_fieldAddr_ptr rfl rfl Try.underlying25 rfl inf23 (by rw [sz23]; decide) ?_
  try simp only [Nat.zero_add]
  refine vo_guard_on rfl rfl rfl ?_
  refine vo_load_var rfl rfl rfl Try.underlying23 rfl rfl ?_
  refine vo_guard_on rfl rfl rfl ?_
  refine vo_len_pv rfl rfl Try.underlying23 ?_
  refine vo_guard_on rfl rfl rfl ?_
  refine vo_binI rfl rfl rfl rfl sd ?_
  refine vo_guard_on rfl rfl rfl ?_
  refine vo_call0 Try.func106 rfl rfl rfl rfl isUpTo_sat ?_
  rintro _ _ ⟨rfl, rfl⟩
  refine ⟨rfl, rfl, .inl rfl, ?_⟩
  refine vo_stM ?_
  refine vo_pick_t rfl rfl ?_
  refine vo_assign_pv rfl rfl ?_
  refine vo_nil ?_
  refine hK2 _ ?_
  refine vc_ret ?_
  change retQ _ _ _ _ _
  refine retQ_sel [] (srows := []) (.inr rfl) hC rfl rfl rfl rfl rfl rfl rfl ?_
  refine ⟨?_, rfl⟩
  refine (congrArg (fun b => [bo b]) (?_ : _ = _) : [bo _] = [bo _])
  first
   | exact bF fun h0 => absurd h0.1 (by assumption)
   | exact decide_eq_decide.2 ⟨fun h0 => ⟨by assumption, by omega, by simp only [List.length_map] at h0; omega⟩, fun h0 => by simp only [List.length_map]; omega⟩
 ·try simp only [zq0, zq1, zq2, zq3, zq4, zq5, zq6, zq7, zq8, zq9, zqa, zqb, zqc, zqd, zqe, zqf] at hg1
  refine vo_guard_off rfl rfl rfl rfl rfl ?_
  refine vo_guard_off rfl rfl rfl rfl rfl ?_
  refine vo_guard_off rfl rfl rfl rfl rfl ?_
  refine vo_guard_off rfl rfl rfl rfl rfl ?_
  refine vo_guard_off rfl rfl rfl rfl rfl ?_
  refine vo_guard_off rfl rfl rfl rfl rfl ?_
  refine vo_pick_f rfl rfl ?_
  refine vo_assign_pv rfl rfl ?_
  refine vo_nil ?_
  refine hK2 _ ?_
  refine vc_ret ?_
  change retQ _ _ _ _ _
  refine retQ_sel [] (srows := []) (.inr rfl) hC rfl rfl rfl rfl rfl rfl rfl ?_
  refine ⟨?_, rfl⟩
  refine (congrArg (fun b => [bo b]) (?_ : _ = _) : [bo _] = [bo _])
  first
   | exact bF fun h0 => absurd h0.1 (by assumption)
   | exact decide_eq_decide.2 ⟨fun h0 => ⟨by assumption, by omega, by simp only [List.length_map] at h0; omega⟩, fun h0 => by simp only [List.length_map]; omega⟩


theorem isAbstract_sat {x : WorksM} {nl1 : Option Bool} {order : List Int} {name : Int}  (hx : SK x) (ho : OrdIx x.abs.length order) (hq : OrdIx x.real.length order) : SatAt Try.prog 63 [.pv false (worksP x), .pv false (.sl nl1 1 (order.map intP)), i64 name] [] (fun res rows => res = [bo (decide (isAbs x.abs x.real name order = true))] ∧ rows = []) := by
 obtain ⟨⟨b1, b2⟩, ⟨a1, a2⟩, r1, r2⟩ := hx
 obtain ⟨ho1, ho2⟩ := ho
 obtain ⟨ho3, ho4⟩ := hq
 refine sat_entry_G (rs := [(6, none)]) Try.func63 rfl rfl (Nat.le_of_ble_eq_true rfl) (Nat.le_of_ble_eq_true rfl) (resTs1 trivial) fun C hC => ?_
 rw [Try.ntmps63]
 replace hC : C.nb = 0 := hC
 refine vc_seq fun K1 hK1 => ?_
 refine vc_region ?_
 refine vo_box rfl rfl ?_
 refine vo_stM ?_
 refine vo_assign_pv rfl rfl ?_
 refine vo_nil ?_
 refine hK1 _ ?_
 refine vc_seq fun K2 hK2 => ?_
 refine vc_seq fun K3 hK3 => ?_
 refine vc_region ?_
 refine vo_move_pv rfl rfl ?_
 refine vo_len_pv rfl rfl Try.underlying28 ?_
 refine vo_move_pv rfl rfl ?_
 refine vo_nil ?_
 refine hK3 _ ?_
 refine vc_block ?_
 refine vc_stM ?_
 refine vc_loopE [2, 3, 9, 10] [11] [] _ _ (fun mz vs rs => ∃ (k : Nat), mz = order.length - k ∧ (k ≤ order.length) ∧ (isAbs x.abs x.real name order = isAbs x.abs x.real name (order.drop k)) ∧ vs = [i64 k] ∧ rs = []) (order.length) rfl rfl (le_len hC rfl) ⟨rfl, rfl, rfl⟩ rfl ⟨0, rfl, Nat.zero_le _, rfl, rfl, rfl⟩ ?_
 rintro mz vs rs - - ⟨k, rfl, hk, hf, rfl, rfl⟩
 refine vc_stM ?_
 refine vc_seq fun K4 hK4 => ?_
 refine vc_region ?_
 refine vo_binI rfl rfl rfl rfl trivial ?_
 refine vo_nil ?_
 refine hK4 _ ?_
 refine vc_seq fun K5 hK5 => ?_
 refine vc_cond rfl (fun hc1 => ?_) (fun hc1 => ?_)
 ·try simp only [zq0, zq1, zq2, zq3, zq4, zq5, zq6, zq7, zq8, zq9, zqa, zqb, zqc, zqd, zqe, zqf] at hc1
  have hak := (getD_all (p := fun l : List Int => l.length ≤ 2000000) a2 [] (by simp) (order.getD k 0).toNat)
  have hrk := (getD_all (p := fun l : List Int => l.length ≤ 2000000) r2 [] (by simp) (order.getD k 0).toNat)
  have hin := ho2 _ (getD_mem (show k < order.length by omega) 0)
  have hin2 := ho4 _ (getD_mem (show k < order.length by omega) 0)
  refine vc_skip ?_
  refine hK5 _ ?_
  refine vc_seq fun K6 hK6 => ?_
  refine vc_block ?_
  refine vc_seq fun K7 hK7 => ?_
  refine vc_region ?_
  refine vo_index_pv (.int .i64 0) rfl rfl rfl E28.und inf3 sz3 sd sd ?_
  simp only [Int.toNat_natCast, Int.toNat_zero, getD_ints, getD_intss, getD_bools, getD_bytes, PV.cells, getD_ops, getD_pairs, getD_insts, getD_attrs, getD_attrss, getD_objs, getD_ordP]
  refine vo_load_adr rfl rfl Try.underlying3 rfl ?_
  refine vo_assign_pv rfl rfl ?_
  refine vo_nil ?_
  refine hK7 _ ?_
  refine vc_seq fun K8 hK8 => ?_
  refine vc_seq fun K9 hK9 => ?_
  refine vc_region ?_
  refine vo_fieldAddr_ptr rfl rfl Try.underlying25 rfl inf23 (by rw [sz23]; decide) ?_
  try simp only [Nat.zero_add]
  refine vo_load_var rfl rfl rfl Try.underlying23 rfl rfl ?_
  refine vo_move_pv rfl rfl ?_
  refine vo_index_pv (.sl none 1 []) rfl rfl rfl E23.und inf28 sz28 sd sd ?_
  simp only [Int.toNat_natCast, Int.toNat_zero, getD_ints, getD_intss, getD_bools, getD_bytes, PV.cells, getD_ops, getD_pairs, getD_insts, getD_attrs, getD_attrss, getD_objs, getD_ordP]
  refine vo_load_adr rfl rfl Try.underlying28 rfl ?_
  refine vo_move_pv rfl rfl ?_
  refine vo_call0 Try.func108 rfl rfl rfl rfl (Contains_sat (by omega)) ?_
  rintro _ _ ⟨rfl, rfl⟩
  refine ⟨rfl, rfl, .inl rfl, ?_⟩
  refine vo_stM ?_
  refine vo_nil ?_
  refine hK9 _ ?_
  refine vc_cond rfl (fun hc2 => ?_) (fun hc2 => ?_)
  ·try simp only [zq0, zq1, zq2, zq3, zq4, zq5, zq6, zq7, zq8, zq9, zqa, zqb, zqc, zqd, zqe, zqf] at hc2
   refine vc_seq fun K10 hK10 => ?_
   refine vc_region ?_
   refine vo_assign_pv rfl rfl ?_
   refine vo_nil ?_
   refine hK10 _ ?_
   refine vc_ret ?_
   change retQ _ _ _ _ _
   refine retQ_sel [] (srows := []) (.inr rfl) hC rfl rfl rfl rfl rfl rfl rfl ?_
   refine ⟨?_, rfl⟩
   refine (congrArg (fun b => [bo b]) (?_ : _ = _) : [bo _] = [bo _])
   rw [hf, isAbs_drop (by omega), if_pos (by first | assumption | exact (findM_mem _ _ 0 (by omega)).1 (by omega))]; exact bT rfl
  ·try simp only [zq0, zq1, zq2, zq3, zq4, zq5, zq6, zq7, zq8, zq9, zqa, zqb, zqc, zqd, zqe, zqf] at hc2
   refine vc_skip ?_
   refine hK8 _ ?_
   refine vc_seq fun K11 hK11 => ?_
   refine vc_region ?_
   refine vo_fieldAddr_ptr rfl rfl Try.underlying25 rfl inf23 (by rw [sz23]; decide) ?_
   try simp only [Nat.zero_add]
   refine vo_load_var rfl rfl rfl Try.underlying23 rfl rfl ?_
   refine vo_move_pv rfl rfl ?_
   refine vo_index_pv (.sl none 1 []) rfl rfl rfl E23.und inf28 sz28 sd sd ?_
   simp only [Int.toNat_natCast, Int.toNat_zero, getD_ints, getD_intss, getD_bools, getD_bytes, PV.cells, getD_ops, getD_pairs, getD_insts, getD_attrs, getD_attrss, getD_objs, getD_ordP]
   refine vo_load_adr rfl rfl Try.underlying28 rfl ?_
   refine vo_move_pv rfl rfl ?_
   refine vo_call0 Try.func108 rfl rfl rfl rfl (Contains_sat (by omega)) ?_
   rintro _ _ ⟨rfl, rfl⟩
   refine ⟨rfl, rfl, .inl rfl, ?_⟩
   refine vo_stM ?_
   refine vo_nil ?_
   refine hK11 _ ?_
   refine vc_cond rfl (fun hc3 => ?_) (fun hc3 => ?_)
   ·try simp only [zq0, zq1, zq2, zq3, zq4, zq5, zq6, zq7, zq8, zq9, zqa, zqb, zqc, zqd, zqe, zqf] at hc3
    refine vc_seq fun K12 hK12 => ?_
    refine vc_region ?_
    refine vo_assign_pv rfl rfl ?_
    refine vo_nil ?_
    refine hK12 _ ?_
    refine vc_ret ?_
    change retQ _ _ _ _ _
    refine retQ_sel [] (srows := []) (.inr rfl) hC rfl rfl rfl rfl rfl rfl rfl ?_
    refine ⟨?_, rfl⟩
    refine (congrArg (fun b => [bo b]) (?_ : _ = _) : [bo _] = [bo _])
    rw [hf, isAbs_drop (by omega), if_neg (by first | assumption | (intro h; have := (findM_mem _ _ 0 (by omega)).2 h; omega)), if_pos (by first | assumption | exact (findM_mem _ _ 0 (by omega)).1 (by omega))]; exact bF (by simp)
   ·try simp only [zq0, zq1, zq2, zq3, zq4, zq5, zq6, zq7, zq8, zq9, zqa, zqb, zqc, zqd, zqe, zqf] at hc3
    refine vc_skip ?_
    refine hK6 _ ?_
    refine vc_region ?_
    refine vo_binI rfl rfl rfl rfl sd ?_
    refine vo_move_pv rfl rfl ?_
    refine vo_nil ?_
    change againE _ _ _ _ _ _ _ _ _ _
    refine againE_mk rfl rfl rfl rfl rfl rfl ⟨_, ?_, k + 1, rfl, ?_, ?_, rfl, rfl⟩
    ·omega
    ·omega
    ·rw [hf, isAbs_drop (by omega), if_neg (by first | assumption | (intro h; have := (findM_mem _ _ 0 (by omega)).2 h; omega)), if_neg (by first | assumption | (intro h; have := (findM_mem _ _ 0 (by omega)).2 h; omega))]
 ·try simp only [zq0, zq1, zq2, zq3, zq4, zq5, zq6, zq7, zq8, zq9, zqa, zqb, zqc, zqd, zqe, zqf] at hc1
  refine vc_exit ?_
  refine hK2 _ ?_
  refine vc_seq fun K13 hK13 => ?_
  refine vc_region ?_
  refine vo_assign_pv rfl rfl ?_
  refine vo_nil ?_
  refine hK13 _ ?_
  refine vc_ret ?_
  change retQ _ _ _ _ _
  refine retQ_sel [] (srows := []) (.inr rfl) hC rfl rfl rfl rfl rfl rfl rfl ?_
  refine ⟨?_, rfl⟩
  refine (congrArg (fun b => [bo b]) (?_ : _ = _) : [bo _] = [bo _])
  rw [hf, show k = order.length by omega, List.drop_length]; exact bF (by simp [isAbs])


theorem abstractIn_sat {x : WorksM} {nl1 : Option Bool} {order : List Int} {name : Int}  (hx : SK x) (ho : OrdIx x.abs.length order) (hq : OrdIx x.real.length order) : SatAt Try.prog 66 [.pv false (worksP x), .pv false (.sl nl1 1 (order.map intP)), i64 name] [] (fun res rows => res = [bo (decide (isAbs x.abs x.real name order = true))] ∧ rows = []) := by
 obtain ⟨⟨b1, b2⟩, ⟨a1, a2⟩, r1, r2⟩ := hx
 obtain ⟨ho1, ho2⟩ := ho
 obtain ⟨ho3, ho4⟩ := hq
 refine sat_entry_G (rs := [(6, none)]) Try.func66 rfl rfl (Nat.le_of_ble_eq_true rfl) (Nat.le_of_ble_eq_true rfl) (resTs1 trivial) fun C hC => ?_
 rw [Try.ntmps66]
 replace hC : C.nb = 0 := hC
 refine vc_seq fun K1 hK1 => ?_
 refine vc_region ?_
 refine vo_box rfl rfl ?_
 refine vo_stM ?_
 refine vo_assign_pv rfl rfl ?_
 refine vo_nil ?_
 refine hK1 _ ?_
 refine vc_seq fun K2 hK2 => ?_
 refine vc_seq fun K3 hK3 => ?_
 refine vc_region ?_
 refine vo_assign_pv rfl rfl ?_
 refine vo_nil ?_
 refine hK3 _ ?_
 refine vc_block ?_
 refine vc_stM ?_
 refine vc_loopE [1, 2, 3] [7] [] _ _ (fun mz vs rs => ∃ (k : Nat), mz = order.length - k ∧ (k ≤ order.length) ∧ (isAbs x.abs x.real name order = isAbs x.abs x.real name (order.drop k)) ∧ vs = [i64 k] ∧ rs = []) (order.length) rfl rfl (le_len hC rfl) ⟨rfl, rfl, rfl⟩ rfl ⟨0, rfl, Nat.zero_le _, rfl, rfl, rfl⟩ ?_
 rintro mz vs rs - - ⟨k, rfl, hk, hf, rfl, rfl⟩
 refine vc_stM ?_
 refine vc_seq fun K4 hK4 => ?_
 refine vc_seq fun K5 hK5 => ?_
 refine vc_region ?_
 refine vo_move_pv rfl rfl ?_
 refine vo_move_pv rfl rfl ?_
 refine vo_len_pv rfl rfl Try.underlying28 ?_
 refine vo_binI rfl rfl rfl rfl trivial ?_
 refine vo_nil ?_
 refine hK5 _ ?_
 refine vc_cond rfl (fun hc1 => ?_) (fun hc1 => ?_)
 ·try simp only [zq0, zq1, zq2, zq3, zq4, zq5, zq6, zq7, zq8, zq9, zqa, zqb, zqc, zqd, zqe, zqf] at hc1
  have hak := (getD_all (p := fun l : List Int => l.length ≤ 2000000) a2 [] (by simp) (order.getD k 0).toNat)
  have hrk := (getD_all (p := fun l : List Int => l.length ≤ 2000000) r2 [] (by simp) (order.getD k 0).toNat)
  have hin := ho2 _ (getD_mem (show k < order.length by omega) 0)
  have hin2 := ho4 _ (getD_mem (show k < order.length by omega) 0)
  refine vc_skip ?_
  refine hK4 _ ?_
  refine vc_seq fun K6 hK6 => ?_
  refine vc_block ?_
  refine vc_seq fun K7 hK7 => ?_
  refine vc_seq fun K8 hK8 => ?_
  refine vc_draw (by kernel_rfl) ?_
  change VD _ _ _ 11 _ _ _
  refine vd_light 0 rfl rfl rfl (by kernel_rfl) (by kernel_rfl) (by kernel_rfl) (wnt_none rfl) (lt_fieldAddr_ptr rfl Try.underlying25 rfl inf23 (by rw [sz23]; decide)) ?_
  try simp only [Nat.zero_add]
  refine vd_light 1 rfl rfl rfl (by kernel_rfl) (by kernel_rfl) (by kernel_rfl) (wnt_none rfl) (lt_load_var rfl rfl Try.underlying23 rfl rfl) ?_
  refine vd_light 2 rfl rfl rfl (by kernel_rfl) (by kernel_rfl) (by kernel_rfl) (wnt_none rfl) (lt_move_pv rfl) ?_
  refine vd_light 3 rfl rfl rfl (by kernel_rfl) (by kernel_rfl) (by kernel_rfl) (wnt_none rfl) (lt_move_pv rfl) ?_
  refine vd_light 4 rfl rfl rfl (by kernel_rfl) (by kernel_rfl) (by kernel_rfl) (wnt_none rfl) (lt_index_pv (.int .i64 0) rfl rfl E28.und inf3 sz3 sd sd) ?_
  simp only [Int.toNat_natCast, Int.toNat_zero, getD_ints, getD_intss, getD_bools, getD_bytes, PV.cells, getD_ops, getD_pairs, getD_insts, getD_attrs, getD_attrss, getD_objs, getD_ordP]
  refine vd_light 5 rfl rfl rfl (by kernel_rfl) (by kernel_rfl) (by kernel_rfl) (wnt_none rfl) (lt_load_adr rfl Try.underlying3 rfl) ?_
  refine vd_light 6 rfl rfl rfl (by kernel_rfl) (by kernel_rfl) (by kernel_rfl) (wnt_none rfl) (lt_index_pv (.sl none 1 []) rfl rfl E23.und inf28 sz28 sd sd) ?_
  simp only [Int.toNat_natCast, Int.toNat_zero, getD_ints, getD_intss, getD_bools, getD_bytes, PV.cells, getD_ops, getD_pairs, getD_insts, getD_attrs, getD_attrss, getD_objs, getD_ordP]
  refine vd_light 7 rfl rfl rfl (by kernel_rfl) (by kernel_rfl) (by kernel_rfl) (wnt_none rfl) (lt_load_adr rfl Try.underlying28 rfl) ?_
  refine vd_light 8 rfl rfl rfl (by kernel_rfl) (by kernel_rfl) (by kernel_rfl) (wnt_none rfl) (lt_move_pv rfl) ?_
  refine vd_call 9 rfl (by kernel_rfl) (wnt_none rfl) Try.func111 rfl rfl rfl rfl (placeIn_sat (by omega)) ?_
  rintro _ _ ⟨rfl, rfl⟩
  refine ⟨rfl, rfl, .inl rfl, ?_⟩
  refine vd_stM ?_
  refine vd_light 10 rfl rfl rfl (by kernel_rfl) (by kernel_rfl) (by kernel_rfl) (wnt_none rfl) (lt_binI rfl rfl rfl trivial) ?_
  refine vd_nil (by kernel_rfl) ?_
  refine hK8 _ ?_
  refine vc_cond rfl (fun hc2 => ?_) (fun hc2 => ?_)
  ·try simp only [zq0, zq1, zq2, zq3, zq4, zq5, zq6, zq7, zq8, zq9, zqa, zqb, zqc, zqd, zqe, zqf] at hc2
   refine vc_seq fun K9 hK9 => ?_
   refine vc_region ?_
   refine vo_assign_pv rfl rfl ?_
   refine vo_nil ?_
   refine hK9 _ ?_
   refine vc_ret ?_
   change retQ _ _ _ _ _
   refine retQ_sel [] (srows := []) (.inr rfl) hC rfl rfl rfl rfl rfl rfl rfl ?_
   refine ⟨?_, rfl⟩
   refine (congrArg (fun b => [bo b]) (?_ : _ = _) : [bo _] = [bo _])
   rw [hf, isAbs_drop (by omega), if_pos (by first | assumption | exact (findM_mem _ _ 0 (by omega)).1 (by omega))]; exact bT rfl
  ·try simp only [zq0, zq1, zq2, zq3, zq4, zq5, zq6, zq7, zq8, zq9, zqa, zqb, zqc, zqd, zqe, zqf] at hc2
   refine vc_skip ?_
   refine hK7 _ ?_
   refine vc_seq fun K10 hK10 => ?_
   refine vc_draw (by kernel_rfl) ?_
   change VD _ _ _ 11 _ _ _
   refine vd_light 0 rfl rfl rfl (by kernel_rfl) (by kernel_rfl) (by kernel_rfl) (wnt_none rfl) (lt_fieldAddr_ptr rfl Try.underlying25 rfl inf23 (by rw [sz23]; decide)) ?_
   try simp only [Nat.zero_add]
   refine vd_light 1 rfl rfl rfl (by kernel_rfl) (by kernel_rfl) (by kernel_rfl) (wnt_none rfl) (lt_load_var rfl rfl Try.underlying23 rfl rfl) ?_
   refine vd_light 2 rfl rfl rfl (by kernel_rfl) (by kernel_rfl) (by kernel_rfl) (wnt_none rfl) (lt_move_pv rfl) ?_
   refine vd_light 3 rfl rfl rfl (by kernel_rfl) (by kernel_rfl) (by kernel_rfl) (wnt_none rfl) (lt_move_pv rfl) ?_
   refine vd_light 4 rfl rfl rfl (by kernel_rfl) (by kernel_rfl) (by kernel_rfl) (wnt_none rfl) (lt_index_pv (.int .i64 0) rfl rfl E28.und inf3 sz3 sd sd) ?_
   simp only [Int.toNat_natCast, Int.toNat_zero, getD_ints, getD_intss, getD_bools, getD_bytes, PV.cells, getD_ops, getD_pairs, getD_insts, getD_attrs, getD_attrss, getD_objs, getD_ordP]
   refine vd_light 5 rfl rfl rfl (by kernel_rfl) (by kernel_rfl) (by kernel_rfl) (wnt_none rfl) (lt_load_adr rfl Try.underlying3 rfl) ?_
   refine vd_light 6 rfl rfl rfl (by kernel_rfl) (by kernel_rfl) (by kernel_rfl) (wnt_none rfl) (lt_index_pv (.sl none 1 []) rfl rfl E23.und inf28 sz28 sd sd) ?_
   simp only [Int.toNat_natCast, Int.toNat_zero, getD_ints, getD_intss, getD_bools, getD_bytes, PV.cells, getD_ops, getD_pairs, getD_insts, getD_attrs, getD_attrss, getD_objs, getD_ordP]
   refine vd_light 7 rfl rfl rfl (by kernel_rfl) (by kernel_rfl) (by kernel_rfl) (wnt_none rfl) (lt_load_adr rfl Try.underlying28 rfl) ?_
   refine vd_light 8 rfl rfl rfl (by kernel_rfl) (by kernel_rfl) (by kernel_rfl) (wnt_none rfl) (lt_move_pv rfl) ?_
   refine vd_call 9 rfl (by kernel_rfl) (wnt_none rfl) Try.func111 rfl rfl rfl rfl (placeIn_sat (by omega)) ?_
   rintro _ _ ⟨rfl, rfl⟩
   refine ⟨rfl, rfl, .inl rfl, ?_⟩
   refine vd_stM ?_
   refine vd_light 10 rfl rfl rfl (by kernel_rfl) (by kernel_rfl) (by kernel_rfl) (wnt_none rfl) (lt_binI rfl rfl rfl trivial) ?_
   refine vd_nil (by kernel_rfl) ?_
   refine hK10 _ ?_
   refine vc_cond rfl (fun hc3 => ?_) (fun hc3 => ?_)
   ·try simp only [zq0, zq1, zq2, zq3, zq4, zq5, zq6, zq7, zq8, zq9, zqa, zqb, zqc, zqd, zqe, zqf] at hc3
    refine vc_seq fun K11 hK11 => ?_
    refine vc_region ?_
    refine vo_assign_pv rfl rfl ?_
    refine vo_nil ?_
    refine hK11 _ ?_
    refine vc_ret ?_
    change retQ _ _ _ _ _
    refine retQ_sel [] (srows := []) (.inr rfl) hC rfl rfl rfl rfl rfl rfl rfl ?_
    refine ⟨?_, rfl⟩
    refine (congrArg (fun b => [bo b]) (?_ : _ = _) : [bo _] = [bo _])
    rw [hf, isAbs_drop (by omega), if_neg (by first | assumption | (intro h; have := (findM_mem _ _ 0 (by omega)).2 h; omega)), if_pos (by first | assumption | exact (findM_mem _ _ 0 (by omega)).1 (by omega))]; exact bF (by simp)
   ·try simp only [zq0, zq1, zq2, zq3, zq4, zq5, zq6, zq7, zq8, zq9, zqa, zqb, zqc, zqd, zqe, zqf] at hc3
    refine vc_skip ?_
    refine hK6 _ ?_
    refine vc_region ?_
    refine vo_move_pv rfl rfl ?_
    refine vo_binI rfl rfl rfl rfl sd ?_
    refine vo_assign_pv rfl rfl ?_
    refine vo_nil ?_
    change againE _ _ _ _ _ _ _ _ _ _
    refine againE_mk rfl rfl rfl rfl rfl rfl ⟨_, ?_, k + 1, rfl, ?_, ?_, rfl, rfl⟩
    ·omega
    ·omega
    ·rw [hf, isAbs_drop (by omega), if_neg (by first | assumption | (intro h; have := (findM_mem _ _ 0 (by omega)).2 h; omega)), if_neg (by first | assumption | (intro h; have := (findM_mem _ _ 0 (by omega)).2 h; omega))]
 ·try simp only [zq0, zq1, zq2, zq3, zq4, zq5, zq6, zq7, zq8, zq9, zqa, zqb, zqc, zqd, zqe, zqf] at hc1
  refine vc_exit ?_
  refine hK2 _ ?_
  refine vc_seq fun K12 hK12 => ?_
  refine vc_region ?_
  refine vo_assign_pv rfl rfl ?_
  refine vo_nil ?_
  refine hK12 _ ?_
  refine vc_ret ?_
  change retQ _ _ _ _ _
  refine retQ_sel [] (srows := []) (.inr rfl) hC rfl rfl rfl rfl rfl rfl rfl ?_
  refine ⟨?_, rfl⟩
  refine (congrArg (fun b => [bo b]) (?_ : _ = _) : [bo _] = [bo _])
  rw [hf, show k = order.length by omega, List.drop_length]; exact bF (by simp [isAbs])


end Go.Vl

/- Rows of numbers sorted and made compact by the library. -/
namespace Go.Vl
set_option linter.unusedVariables false
set_option linter.unusedSimpArgs false
open Go.RowKit Go.Sort Go.Proofs

structure SortC (P : Program) (f : FuncId) : Prop where
  some : ∀ (blk off cap : Nat) (zs : List Int) (w : World), Holds (Value.int .i64) w blk off zs.toArray → blk < w.heap.size → zs.length < 4611686018427387904 →
    Calls P f #[.slice (some ⟨blk, off, none⟩) zs.length cap] w fun e w' => e = .returned (.tuple #[]) ∧ ∃ n os, w' = grow (putRow (Value.int .i64) (Sort.ahead w n) blk off (zs.mergeSort fun x y => decide (x ≤ y)).toArray) os
  none : ∀ (a : Option Addr) (cap : Nat) (w : World), Calls P f #[.slice a 0 cap] w fun e w' => e = .returned (.tuple #[]) ∧ w' = w
structure CompactC (P : Program) (f : FuncId) : Prop where
  some : ∀ (blk off cap : Nat) (zs : List Int) (w : World), Holds (Value.int .i64) w blk off zs.toArray → zs.length ≤ 9223372036854775807 → zs.length ≤ cap →
    Calls P f #[.slice (some ⟨blk, off, none⟩) zs.length cap] w fun e w' => e = .returned (.slice (some ⟨blk, off, none⟩) (Lib.compact zs).length cap) ∧ ∃ q, w' = putRow (Value.int .i64) (Sort.ahead w q) blk off (Lib.compact zs ++ List.replicate (zs.length - (Lib.compact zs).length) 0).toArray
  none : ∀ (a : Option Addr) (cap : Nat) (w : World), Calls P f #[.slice a 0 cap] w fun e w' => e = .returned (.slice a 0 cap) ∧ w' = w

def srt (l : List Int) : List Int := l.mergeSort fun x y => decide (x ≤ y)

theorem own_vals {w : World} {G : Nat → Prop} {l : List Int} {vs : List Value} (hl : vs.length = l.length * 1) (hr : ∀ (i : Nat) (x : PV) (j : Nat) (c : PV), (l.map intP)[i]? = some x → x.cells[j]? = some c → ∃ u, vs[i * 1 + j]? = some u ∧ RP w G c u) : vs = l.map (Value.int .i64) := by
  apply List.ext_getElem?
  intro i
  by_cases hi : i < l.length
  · obtain ⟨u, hu, hp⟩ := hr i (intP l[i]) 0 (intP l[i]) (by simp [hi]) rfl
    simp only [Nat.mul_one, Nat.add_zero] at hu
    cases hp
    rw [hu]; simp [hi]
  · rw [List.getElem?_eq_none (by omega), List.getElem?_eq_none (by simp; omega)]

theorem ints_rows {w : World} {G : Nat → Prop} {l : List Int} : ∀ (i : Nat) (x : PV) (j : Nat) (c : PV), (l.map intP)[i]? = some x → x.cells[j]? = some c → ∃ u, (l.map (Value.int .i64))[i * 1 + j]? = some u ∧ RP w G c u := by
  intro i x j c hx hc
  simp only [List.getElem?_map, Option.map_eq_some_iff] at hx
  obtain ⟨z, hz, rfl⟩ := hx
  match j, hc with
  | 0, hc =>
    simp [PV.cells] at hc
    subst hc
    exact ⟨.int .i64 z, by simp [hz], .int _ _⟩
theorem ints_fits {l : List Int} : ∀ (i : Nat) (x : PV), (l.map intP)[i]? = some x → x.fits 1 := by
  intro i x hx
  simp only [List.getElem?_map, Option.map_eq_some_iff] at hx
  obtain ⟨z, _, rfl⟩ := hx
  exact fits_of rfl

theorem sort_sat {P : Program} {f : FuncId} (h : SortC P f) {t : TypeId} {nl : Option Bool} {fr : Bool} {l : List Int} (hlen : l.length < 1000000000) :
    SatAt P f [.ref 0] [Row.own t 1 nl fr (l.map intP)] (fun res rows => res = [] ∧ rows = [Row.own t 1 nl fr ((srt l).map intP)]) := by
  intro C m vals hnb hA hvl hs
  have hv := hs.env 0
  have hv0 : vals = #[(m 0).v] := by
    have hsz : vals.size = 1 := hvl
    change RS _ _ _ _ (.ref 0) (vals.getD 0 undef) at hv
    generalize hg : vals.getD 0 undef = u at hv
    cases hv
    apply Array.ext (by simp [hsz])
    intro i h1 h2
    have : i = 0 := by omega
    subst this
    simpa [Array.getD, hsz] using hg
  subst hv0
  have hR := hs.rows 0 _ rfl
  have hlive : liveAt [Row.own t 1 nl fr (l.map intP)] 0 := ⟨_, rfl, rfl⟩
  have hsl : (srt l).length = l.length := by simp [srt]
  have fin : ∀ (w' : World) (bo : Option Nat), (∀ b, bo = some b → (m 0).S b) → C.w0.grownBy w' bo → (∀ vs, C.w0.ownsRow 0 t 1 (m 0).v l.length vs → w'.ownsRow 0 t 1 (m 0).v l.length ((srt l).map (Value.int .i64))) →
      ∃ (us : Array Value) (res : List SV) (rows' : List Row) (m' : Nat → MV), Ending.returned (.tuple #[]) = .returned (pack us) ∧ us.size = res.length ∧ SimM C ⟨us.size, enumE 0 res, rows'⟩ m' ⟨us, []⟩ w' ∧ (res = [] ∧ rows' = [Row.own t 1 nl fr ((srt l).map intP)]) := by
    intro w' bo hbo hg hown
    refine ⟨#[], [], [Row.own t 1 nl fr ((srt l).map intP)], m, by simp [pack], rfl, ?_, rfl, rfl⟩
    have h2 := hs.storeRow (id := 0) hlive hbo hg (Row.own t 1 nl fr ((srt l).map intP)) (fun hG => by
      generalize hmv : m 0 = v at *
      cases hR with
      | own v t' e nl fr xs vs hown0 h1 h2 hw hr =>
        refine .own v t 1 nl fr _ ((srt l).map (Value.int .i64)) (by
          have h8 := hown vs (by have h9 := hown0; rw [List.length_map] at h9; exact h9)
          rw [List.length_map, hsl]; exact h8) h1 h2 ints_fits ints_rows)
    exact { h2 with size := rfl, env := fun u => RS.any _ }
  generalize hmv : m 0 = v at *
  have hR2 := hR
  cases hR with
  | own v t' e nl fr xs vs hown0 h1 h2 hw hr =>
    have hvs : vs = l.map (Value.int .i64) := own_vals (by simpa using hown0.1) hr
    subst hvs
    rcases hown0.2 with ⟨rfl, hn⟩ | ⟨g, cap, cur, rfl, h0, hh, hle, hmx, hsz, htk⟩
    · have : l = [] := by simpa using hn
      subst this
      refine (h.none none 0 C.w0).mono ?_
      rintro e w' ⟨rfl, rfl⟩
      exact fin C.w0 none (fun b hb => by cases hb) ⟨rfl, rfl, rfl, Nat.le_refl _, fun _ _ _ => rfl⟩ (fun vs hv => by
        have : vs = [] := List.eq_nil_of_length_eq_zero (by simpa using hv.1)
        subst this
        simpa [srt] using hv)
    · have hH := holds_of_blockI (ss := l) hh (by simpa using htk)
      have hlt : g < C.w0.heap.size := (Array.getElem?_eq_some_iff.1 hh).1
      have hlm : (l.map intP).length = l.length := List.length_map ..
      rw [hlm]
      refine (h.some g 0 cap l C.w0 hH hlt (by omega)).mono ?_
      rintro e w' ⟨rfl, n, os, rfl⟩
      refine fin _ (some g) (fun b hb => by cases hb; rfl) (grownBy_sortedI _) (fun vs hv => ?_)
      have := ownsRow_sortedI (w := C.w0) (base := 0) (g := g) (cap := cap) (n := n) (e := t) (os := os) (cur := cur) (ss := l) (ts := srt l) hsl (Nat.zero_le _) hh (by rw [← hlm]; exact hle) hmx (by simpa using hsz)
      rw [hlm]
      exact this

theorem cu_len (d : Array Int) : ∀ m, (Lib.compactUpTo d m).length ≤ m
  | 0 => by simp [Lib.compactUpTo]
  | m + 1 => by
    rw [Lib.compactUpTo_succ, List.length_append]
    have := cu_len d m
    split <;> simp <;> omega
theorem compact_len (l : List Int) : (Lib.compact l).length ≤ l.length := cu_len _ _

/-- slices.Compact on a row of the call's own. -/
theorem vo_compact {P : Program} {C : Ctx} {Q : Go.Exit → St → Prop} {s : St} {ops : Array Oper} {rest : List Oper} {t : Nat} {ty : TypeId} {pos : String} {af : Array Edge} {f : FuncId} {fn : Func} {x : Operand} {Ts : Array TypeId} {id R : Nat} {nl : Option Bool} {fr : Bool} {l : List Int}
    (h : CompactC P f) (hf : P.funcs[f]? = some fn) (hnm : (fn.name == "runtime.NumGoroutine") = false) (hbd : fn.body.isNone = false) (ht : Nat.blt t s.n = true) (hnb : C.nb ≤ id)
    (hx : getO s.env x = .ref id) (hrow : s.rows[id]? = some (.own R 1 nl fr (l.map intP))) (hlen : l.length < 1000000000)
    (next : VO P C ops rest Q ⟨s.n, (t, .ref id) :: killE id s.env, (s.rows.map (Row.kill id)).set id (.own R 1 nl fr ((Lib.compact l).map intP))⟩) :
    VO P C ops (⟨some t, .call ⟨.value (.func f), #[x], Ts⟩, ty, pos, af, none⟩ :: rest) Q s := by
  intro a w ⟨m, hs⟩
  refine wpList_plain rfl fun K hK => ?_
  unfold Oper.wp
  have hrc : (execOp a.eval ⟨some t, .call ⟨.value (.func f), #[x], Ts⟩, ty, pos, af, none⟩).run P w = .ok (.enter f (#[x].map a.eval)) w := run_call (t := t) (ty := ty) (pos := pos) (af := af) hf hnm hbd (some t)
  rw [hrc, Oper.upon_enter]
  obtain ⟨hv, hid⟩ := hs.row hx
  have hlive : liveAt s.rows id := ⟨_, hrow, rfl⟩
  have hR := hs.rows id _ hrow
  have e0 : #[x].map a.eval = #[(m id).v] := by simp [hv]
  rw [e0]
  have fin : ∀ (v' : Value) (w' : World) (bo : Option Nat), (∀ b, bo = some b → (m id).S b) → w.grownBy w' bo → (∀ b, blk v' = some b → (m id).S b) → (nl = some true → v' = .slice none 0 0) → (nl = some false → v' ≠ .slice none 0 0) →
      w'.ownsRow 0 R 1 v' (Lib.compact l).length ((Lib.compact l).map (Value.int .i64)) → K (a.put (some t) v') w' := by
    intro v' w' bo hbo hg hblk h1 h2 hown
    have hmv := hs.moveRow (id := id) hlive hnb hbo hg (.own R 1 nl fr ((Lib.compact l).map intP)) (.of v') rfl (fun b hb => .inl (hblk b hb)) (fun hG => .own v' R 1 nl fr _ _ (by rw [List.length_map]; exact hown) h1 h2 ints_fits ints_rows)
    refine hK _ _ (next _ _ ⟨_, hmv.put (blt_lt ht) ?_⟩)
    have := RS.ref (w := w') (G := Gd C ((s.rows.map (Row.kill id)).set id (.own R 1 nl fr ((Lib.compact l).map intP))) (updM m id (.of v')) w') (m := updM m id (.of v')) (N := ((s.rows.map (Row.kill id)).set id (.own R 1 nl fr ((Lib.compact l).map intP))).length) id (by simpa using hid)
    rw [updM_same] at this
    exact this
  generalize hmi : m id = mv at *
  cases hR with
  | own v t' e nl fr xs vs hown0 h1 h2 hw hr =>
    have hvs : vs = l.map (Value.int .i64) := own_vals (by simpa using hown0.1) hr
    subst hvs
    rcases hown0.2 with ⟨rfl, hn⟩ | ⟨g, cap, cur, rfl, h0, hh, hle, hmx, hsz, htk⟩
    · have : l = [] := by simpa using hn
      subst this
      refine (h.none none 0 w).mono ?_
      rintro e w' ⟨rfl, hw⟩
      rw [hw]
      exact fin _ w none (fun b hb => by cases hb) ⟨rfl, rfl, rfl, Nat.le_refl _, fun _ _ _ => rfl⟩ (fun b hb => by cases hb) (fun _ => rfl) (fun hq => absurd rfl (h2 hq)) (by simpa [Lib.compact, Lib.compactUpTo] using World.ownsRow_nil w 0 R 1)
    · have hH := holds_of_blockI (ss := l) hh (by simpa using htk)
      have hlm : (l.map intP).length = l.length := List.length_map ..
      rw [hlm] at hle
      have hcl := compact_len l
      show Calls P f #[.slice (some ⟨g, 0, none⟩) (l.map intP).length cap] w _
      rw [hlm]
      refine (h.some g 0 cap l w hH (by omega) hle).mono ?_
      rintro e w' ⟨rfl, q, rfl⟩
      have hall : (Lib.compact l ++ List.replicate (l.length - (Lib.compact l).length) 0).length = l.length := by simp; omega
      have hrow2 := ownsRow_sortedI (w := w) (base := 0) (g := g) (cap := cap) (n := q) (e := R) (os := #[]) (cur := cur) (ss := l) (ts := Lib.compact l ++ List.replicate (l.length - (Lib.compact l).length) 0) hall (Nat.zero_le _) hh hle hmx (by simpa using hsz)
      rw [grow_empty] at hrow2
      have hg := grownBy_sortedI (w := w) (g := g) (n := q) (os := #[]) (Lib.compact l ++ List.replicate (l.length - (Lib.compact l).length) 0).toArray
      rw [grow_empty] at hg
      refine fin _ _ (some g) (fun b hb => by cases hb; rfl) hg (fun b hb => by simp [blk] at hb; subst hb; rfl) (fun hq => by have := h1 hq; cases this) (fun _ hq => by cases hq) ?_
      refine ⟨by simp, ?_⟩
      rcases hrow2.2 with ⟨hx0, _⟩ | ⟨g', cap', cur', he, k0, kh, kle, kmx, ksz, ktk⟩
      · cases hx0
      · cases he
        refine .inr ⟨g, cap, cur', rfl, k0, kh, by omega, kmx, ksz, ?_⟩
        have := congrArg (List.take (Lib.compact l).length) ktk
        rw [List.take_take] at this
        rw [Nat.mul_one, Nat.min_eq_left (by omega)] at this
        rw [Nat.mul_one, this, List.map_append, List.take_append_of_le_length (by simp)]
        exact List.take_of_length_le (by simp)
end Go.Vl

namespace Go.Proofs
open Go.Shelf
def Try.lays189_ren : Go.Shelf.Ren := ⟨fun | 189 => 68 | 125 => 113 | 257 => 112 | 128 => 146 | 129 => 147 | 294 => 137 | 295 => 138 | 296 => 139 | 297 => 140 | 298 => 141 | 299 => 142 | 216 => 143 | 300 => 144 | 301 => 145 | 328 => 162 | 329 => 163 | 330 => 164 | 331 => 165 | 332 => 166 | 215 => 167 | 343 => 175 | n => n, fun | 28 => 28 | 3 => 3 | 46 => 127 | 0 => 0 | 51 => 168 | 53 => 170 | 4 => 4 | 183 => 163 | 182 => 162 | 131 => 159 | 5 => 5 | 9 => 9 | 218 => 182 | 222 => 186 | 228 => 193 | 229 => 194 | n => n, fun | n => n⟩
theorem Try.lays189 : Go.Proofs.Lays.n189 Try.prog Try.lays189_ren := {
  mixed := by kernel_rfl
  f125 := Try.func113.trans (congrArg some (by kernel_rfl))
  f128 := Try.func146.trans (congrArg some (by kernel_rfl))
  f129 := Try.func147.trans (congrArg some (by kernel_rfl))
  f189 := Try.func68.trans (congrArg some (by kernel_rfl))
  f215 := Try.func167.trans (congrArg some (by kernel_rfl))
  f216 := Try.func143.trans (congrArg some (by kernel_rfl))
  f257 := Try.func112.trans (congrArg some (by kernel_rfl))
  f294 := Try.func137.trans (congrArg some (by kernel_rfl))
  f295 := Try.func138.trans (congrArg some (by kernel_rfl))
  f296 := Try.func139.trans (congrArg some (by kernel_rfl))
  f297 := Try.func140.trans (congrArg some (by kernel_rfl))
  f298 := Try.func141.trans (congrArg some (by kernel_rfl))
  f299 := Try.func142.trans (congrArg some (by kernel_rfl))
  f300 := Try.func144.trans (congrArg some (by kernel_rfl))
  f301 := Try.func145.trans (congrArg some (by kernel_rfl))
  f328 := Try.func162.trans (congrArg some (by kernel_rfl))
  f329 := Try.func163.trans (congrArg some (by kernel_rfl))
  f330 := Try.func164.trans (congrArg some (by kernel_rfl))
  f331 := Try.func165.trans (congrArg some (by kernel_rfl))
  f332 := Try.func166.trans (congrArg some (by kernel_rfl))
  f343 := Try.func175.trans (congrArg some (by kernel_rfl))
  t0 := Try.underlying0
  a0 := Try.isAgg0
  z0 := Try.sizeOf0
  v0 := Try.zeroValue0
  t3 := Try.underlying3
  a3 := Try.isAgg3
  z3 := Try.sizeOf3
  v3 := Try.zeroValue3
  t4 := Try.underlying4
  a4 := Try.isAgg4
  z4 := Try.sizeOf4
  v4 := Try.zeroValue4
  t5 := Try.underlying5
  a5 := Try.isAgg5
  z5 := Try.sizeOf5
  v5 := Try.zeroValue5
  t9 := Try.underlying9
  a9 := Try.isAgg9
  z9 := Try.sizeOf9
  v9 := Try.zeroValue9
  t28 := Try.underlying28
  a28 := Try.isAgg28
  z28 := Try.sizeOf28
  v28 := Try.zeroValue28
  t46 := Try.underlying127
  a46 := Try.isAgg127
  z46 := Try.sizeOf127
  v46 := Try.zeroValue127
  t51 := Try.underlying168
  a51 := Try.isAgg168
  z51 := Try.sizeOf168
  v51 := Try.zeroValue168
  t53 := Try.underlying170
  a53 := Try.isAgg170
  z53 := Try.sizeOf170
  v53 := Try.zeroValue170
  t131 := Try.underlying159
  a131 := Try.isAgg159
  z131 := Try.sizeOf159
  v131 := Try.zeroValue159
  t182 := Try.underlying162
  a182 := Try.isAgg162
  z182 := Try.sizeOf162
  v182 := Try.zeroValue162
  t183 := Try.underlying163
  a183 := Try.isAgg163
  z183 := Try.sizeOf163
  v183 := Try.zeroValue163
  t218 := Try.underlying182
  a218 := Try.isAgg182
  z218 := Try.sizeOf182
  v218 := Try.zeroValue182
  t222 := Try.underlying186
  a222 := Try.isAgg186
  z222 := Try.sizeOf186
  v222 := Try.zeroValue186
  t228 := Try.underlying193
  a228 := Try.isAgg193
  z228 := Try.sizeOf193
  v228 := Try.zeroValue193
  t229 := Try.underlying194
  a229 := Try.isAgg194
  z229 := Try.sizeOf194
  v229 := Try.zeroValue194 }
open Go.Sort Go.RowKit in
theorem Try.slices_Sort_int (blk off cap : Nat) (zs : List Int) (w : World) (hH : Holds (Value.int .i64) w blk off zs.toArray) (hblk : blk < w.heap.size) (hsz : zs.length < 4611686018427387904) :
    Calls Try.prog 68 #[.slice (some ⟨blk, off, none⟩) zs.length cap] w fun e w' =>
      e = .returned (.tuple #[]) ∧ ∃ n os, w' = grow (putRow (Value.int .i64) (Sort.ahead w n) blk off (zs.mergeSort fun x y => decide (x ≤ y)).toArray) os := Any.slices_Sort_int Try.lays189 blk off cap zs w hH hblk hsz
def Try.laysNm220_ren : Go.Shelf.Ren := ⟨fun | 20 => 69 | n => n, fun | 22 => 28 | 3 => 3 | 4 => 4 | 0 => 0 | n => n, fun | n => n⟩
theorem Try.laysNm220 : Go.Proofs.Lays2.n20 Try.prog Try.laysNm220_ren := {
  mixed := by kernel_rfl
  f20 := Try.func69.trans (congrArg some (by kernel_rfl))
  t0 := Try.underlying0
  a0 := Try.isAgg0
  z0 := Try.sizeOf0
  v0 := Try.zeroValue0
  t3 := Try.underlying3
  a3 := Try.isAgg3
  z3 := Try.sizeOf3
  v3 := Try.zeroValue3
  t4 := Try.underlying4
  a4 := Try.isAgg4
  z4 := Try.sizeOf4
  v4 := Try.zeroValue4
  t22 := Try.underlying28
  a22 := Try.isAgg28
  z22 := Try.sizeOf28
  v22 := Try.zeroValue28
  i3 := by kernel_rfl }
open Go.RowKit Go.Lib Go.Sort in
theorem Try.slices_Compact_int (blk off cap : Nat) (zs : List Int) (w : World) (hH : Holds (Value.int .i64) w blk off zs.toArray) (hsz : zs.length ≤ 9223372036854775807) (hcap : zs.length ≤ cap) :
    Calls Try.prog 69 #[.slice (some ⟨blk, off, none⟩) zs.length cap] w fun e w' => e = .returned (.slice (some ⟨blk, off, none⟩) (Lib.compact zs).length cap) ∧ ∃ q, w' = putRow (Value.int .i64) (Sort.ahead w q) blk off (Lib.compact zs ++ List.replicate (zs.length - (Lib.compact zs).length) 0).toArray := Any.slices_Compact_int Try.laysNm220 blk off cap zs w hH hsz hcap
open Go.RowKit Go.Lib Go.Sort in
theorem Try.slices_Compact_int_empty (a : Option Addr) (cap : Nat) (w : World) :
    Calls Try.prog 69 #[.slice a 0 cap] w fun e w' => e = .returned (.slice a 0 cap) ∧ w' = w := Any.slices_Compact_int_empty Try.laysNm220 a cap w
open Go.RowKit Go.Sort in
theorem Try.slices_Sort_int_none (p : Option Addr) (cap : Nat) (w : World) :
    Calls Try.prog 68 #[.slice p 0 cap] w fun e w' => e = .returned (.tuple #[]) ∧ w' = w := Any.slices_Sort_int_none Try.lays189 p cap w
end Go.Proofs

namespace Go.Vl
set_option linter.unusedVariables false
set_option linter.unusedSimpArgs false
theorem sortC : SortC Go.Proofs.Try.prog 68 := ⟨fun blk off cap zs w => Go.Proofs.Try.slices_Sort_int blk off cap zs w, fun a cap w => Go.Proofs.Try.slices_Sort_int_none a cap w⟩
theorem compactC : CompactC Go.Proofs.Try.prog 69 := ⟨fun blk off cap zs w => Go.Proofs.Try.slices_Compact_int blk off cap zs w, fun a cap w => Go.Proofs.Try.slices_Compact_int_empty a cap w⟩
end Go.Vl

namespace Go.Vl
set_option linter.unusedVariables false
set_option linter.unusedSimpArgs false
open Go.Proofs
theorem arr_at {l : List Int} {m : Nat} (h : m < l.length) : l.toArray[m]! = l[m] := by
  simp [h]
theorem cu_asc {l : List Int} (h : l.Pairwise (· ≤ ·)) : ∀ m, m ≤ l.length → (Lib.compactUpTo l.toArray m).Pairwise (· < ·) ∧ ∀ x, x ∈ Lib.compactUpTo l.toArray m ↔ x ∈ l.take m
  | 0, _ => by simp [Lib.compactUpTo]
  | m + 1, hm => by
    obtain ⟨h1, h2⟩ := cu_asc h m (by omega)
    have hml : m < l.length := by omega
    have ht : l.take (m + 1) = l.take m ++ [l[m]] := by rw [List.take_succ_eq_append_getElem hml]
    rw [Lib.compactUpTo_succ, ht, arr_at hml]
    by_cases hk : Lib.keeps l.toArray m = true
    · rw [if_pos hk]
      refine ⟨List.pairwise_append.2 ⟨h1, List.pairwise_singleton _ _, fun a ha b hb => ?_⟩, fun x => by rw [List.mem_append, List.mem_append, h2 x]⟩
      rw [List.mem_singleton.1 hb]
      obtain ⟨j, hj, e⟩ := List.getElem_of_mem ((h2 a).1 ha)
      rw [List.length_take] at hj
      rw [List.getElem_take] at e
      have hm0 : 0 < m := by omega
      have hne : l[m] ≠ l[m - 1]'(by omega) := by
        unfold Lib.keeps at hk
        rw [decide_eq_true_iff] at hk
        rcases hk with hk | hk
        · omega
        · rwa [arr_at hml, arr_at (show m - 1 < l.length by omega)] at hk
      have hle : l[m - 1]'(by omega) ≤ l[m] := List.pairwise_iff_getElem.1 h (m - 1) m (by omega) hml (by omega)
      have hle2 : a ≤ l[m - 1]'(by omega) := by
        rw [← e]
        rcases Nat.lt_or_ge j (m - 1) with hj2 | hj2
        · exact List.pairwise_iff_getElem.1 h j (m - 1) (by omega) (by omega) hj2
        · have : j = m - 1 := by omega
          subst this
          exact Int.le_refl _
      omega
    · rw [if_neg hk, List.append_nil]
      refine ⟨h1, fun x => ?_⟩
      rw [h2 x, List.mem_append, List.mem_singleton]
      have hm0 : 0 < m := by
        rcases Nat.eq_zero_or_pos m with h0 | h0
        · subst h0; exact absurd (by simp [Lib.keeps]) hk
        · exact h0
      have he : l[m] = l[m - 1]'(by omega) := by
        unfold Lib.keeps at hk
        rw [decide_eq_true_iff] at hk
        have := fun h9 => hk (.inr h9)
        rw [arr_at hml, arr_at (show m - 1 < l.length by omega)] at this
        exact Classical.byContradiction this
      constructor
      · exact .inl
      · rintro (h3 | rfl)
        · exact h3
        · rw [he]
          exact List.mem_take_iff_getElem.2 ⟨m - 1, by omega, rfl⟩
theorem srt_pair (l : List Int) : (srt l).Pairwise (· ≤ ·) := by
  have := List.pairwise_mergeSort (le := fun x y : Int => decide (x ≤ y)) (fun a b c h1 h2 => by simp only [decide_eq_true_eq] at *; omega) (fun a b => by simp only [Bool.or_eq_true, decide_eq_true_eq]; omega) l
  exact this.imp fun h => by simpa using h
theorem srt_mem (l : List Int) (x : Int) : x ∈ srt l ↔ x ∈ l := (List.mergeSort_perm l _).mem_iff
theorem srtK_len (l : List Int) : (srt l).length = l.length := by simp [srt]
/-- Sorted and made compact: the numbers of a list, each once, ascending. -/
theorem cs_sel {l : List Int} {p : Int → Bool} {k : Nat} (h : ∀ x, x ∈ l ↔ p x = true ∧ 0 ≤ x ∧ x < k) : Lib.compact (srt l) = selI p k := by
  obtain ⟨h1, h2⟩ := cu_asc (srt_pair l) (srt l).length (Nat.le_refl _)
  refine asc_ext h1 (selI_asc p k) fun n => ?_
  show n ∈ Lib.compactUpTo _ _ ↔ _
  rw [h2 n, List.take_length, srt_mem, h n, selI_mem]
def fndK (x : WorksM) (k : Nat) : List (List Int) := (List.range k).map fun j => selI (absP x j) 10
theorem fndK_len (x : WorksM) (k : Nat) : (fndK x k).length = k := by simp [fndK]
theorem fndK_get {x : WorksM} {k j : Nat} (h : j < k) : (fndK x k).getD j [] = selI (absP x j) 10 := by
  simp [fndK, List.getD, h]
theorem fndK_succ (x : WorksM) (k : Nat) : fndK x (k + 1) = fndK x k ++ [selI (absP x k) 10] := by simp [fndK, List.range_succ]
theorem isAbs_rng {x : WorksM} (hv : VWorks x) {c : Nat} (hc : c < x.bases.length) {n : Int} (h : absP x c n = true) : 0 ≤ n ∧ n < 10 := by
  obtain ⟨p, d, q, ho, hd, _⟩ := isAbs_iff.1 h
  have hdm : d ∈ ordM x.bases c := by rw [ho]; simp
  have hdr := (ordIx_of hv.1 hc).2 d hdm
  have := (hv.2.2.2 d.toNat (by omega)).2 n (List.mem_append_left _ hd)
  omega
theorem abs_own {x : WorksM} (hv : VWorks x) {c : Nat} (hc : c < x.bases.length) {n : Int} (h : n ∈ x.abs.getD c []) : absP x c n = true := (abs_bases hv hc n).2 (.inl h)
/-- What is put together for one class. -/
theorem abs_all {x : WorksM} (hv : VWorks x) {c : Nat} (hc : c < x.bases.length) {N : List Int}
    (h : ∀ n, n ∈ N ↔ n ∈ x.abs.getD c [] ∨ ∃ j, j < (x.bases.getD c []).length ∧ n ∈ selI (absP x ((x.bases.getD c []).getD j 0).toNat) 10 ∧ absP x c n = true) : ∀ n, n ∈ N ↔ absP x c n = true ∧ 0 ≤ n ∧ n < ((10 : Nat) : Int) := by
  intro n
  rw [h n]
  constructor
  · rintro (h1 | ⟨j, _, _, h2⟩)
    · have := abs_own hv hc h1; exact ⟨this, isAbs_rng hv hc this⟩
    · exact ⟨h2, isAbs_rng hv hc h2⟩
  · rintro ⟨h1, h2⟩
    rcases (abs_bases hv hc n).1 h1 with h3 | ⟨⟨b, hb, h3⟩, _⟩
    · exact .inl h3
    · obtain ⟨j, hj, e⟩ := List.getElem_of_mem hb
      refine .inr ⟨j, hj, selI_mem.2 ⟨?_, h2⟩, h1⟩
      have e2 : (x.bases.getD c []).getD j 0 = b := by rw [List.getD_eq_getElem?_getD, List.getElem?_eq_getElem hj]; exact e
      rw [e2]; exact h3
theorem get_endG {G : List PV} {n : Nat} {y : PV} (h : G.length = n) : (G ++ [y])[n]? = some y := by subst h; simp

theorem mem_step {A N Y : List Int} {B : Nat → List Int} {P : Int → Prop} {i : Nat} (hN : ∀ n, n ∈ N ↔ n ∈ A ∨ ∃ j, j < i ∧ n ∈ B j ∧ P n) (hY : ∀ n, n ∈ Y ↔ n ∈ N ∨ (n ∈ B i ∧ P n)) : ∀ n, n ∈ Y ↔ n ∈ A ∨ ∃ j, j < i + 1 ∧ n ∈ B j ∧ P n := by
  intro n
  rw [hY n, hN n]
  constructor
  · rintro ((h | ⟨j, hj, h⟩) | h)
    · exact .inl h
    · exact .inr ⟨j, by omega, h⟩
    · exact .inr ⟨i, by omega, h⟩
  · rintro (h | ⟨j, hj, h⟩)
    · exact .inl (.inl h)
    · rcases Nat.lt_or_ge j i with h2 | h2
      · exact .inl (.inr ⟨j, h2, h⟩)
      · rw [show j = i by omega] at h; exact .inr h
theorem mem_yes {N Y F : List Int} {P : Int → Prop} {q : Nat} (hY : ∀ n, n ∈ Y ↔ n ∈ N ∨ (n ∈ F.take q ∧ P n)) (hq : q < F.length) (hp : P (F.getD q 0)) : ∀ n, n ∈ Y ++ [F.getD q 0] ↔ n ∈ N ∨ (n ∈ F.take (q + 1) ∧ P n) := by
  intro n
  have e : F.take (q + 1) = F.take q ++ [F.getD q 0] := by rw [List.take_add_one, List.getD, List.getElem?_eq_getElem hq]; rfl
  rw [List.mem_append, hY n, e, List.mem_append, List.mem_singleton]
  constructor
  · rintro ((h | h) | rfl)
    · exact .inl h
    · exact .inr ⟨.inl h.1, h.2⟩
    · exact .inr ⟨.inr rfl, hp⟩
  · rintro (h | ⟨h | rfl, h2⟩)
    · exact .inl (.inl h)
    · exact .inl (.inr ⟨h, h2⟩)
    · exact .inr rfl
theorem mem_no {N Y F : List Int} {P : Int → Prop} {q : Nat} (hY : ∀ n, n ∈ Y ↔ n ∈ N ∨ (n ∈ F.take q ∧ P n)) (hq : q < F.length) (hp : ¬ P (F.getD q 0)) : ∀ n, n ∈ Y ↔ n ∈ N ∨ (n ∈ F.take (q + 1) ∧ P n) := by
  intro n
  have e : F.take (q + 1) = F.take q ++ [F.getD q 0] := by rw [List.take_add_one, List.getD, List.getElem?_eq_getElem hq]; rfl
  rw [hY n, e, List.mem_append, List.mem_singleton]
  constructor
  · rintro (h | h)
    · exact .inl h
    · exact .inr ⟨.inl h.1, h.2⟩
  · rintro (h | ⟨h | rfl, h2⟩)
    · exact .inl h
    · exact .inr ⟨h, h2⟩
    · exact absurd h2 hp

theorem implByBases_sat {x : WorksM} {c : Int}  (hx : SK x) : SatAt Try.prog 27 [.pv false (worksP x), i64 c] [] (fun res rows => ∃ (Rr : TypeId) (nl : Option Bool), res = [.ref 0] ∧ rows = [Row.own Rr 1 nl true ((absM x c).map intP)]) := by
 have hx0 := hx
 obtain ⟨⟨b1, b2⟩, ⟨a1, a2⟩, r1, r2⟩ := hx
 refine sat_entry_G (rs := [(4, none)]) Try.func27 rfl rfl (Nat.le_of_ble_eq_true rfl) (Nat.le_of_ble_eq_true rfl) (resTs1 trivial) fun C hC => ?_
 rw [Try.ntmps27]
 replace hC : C.nb = 0 := hC
 refine vc_seq fun K1 hK1 => ?_
 refine vc_region ?_
 refine vo_box rfl rfl ?_
 refine vo_stM ?_
 refine vo_assign_pv rfl rfl ?_
 refine vo_own_nil 4 E28 rfl ?_
 refine vo_nil ?_
 refine hK1 _ ?_
 refine vc_seq fun K2 hK2 => ?_
 refine vc_seq fun K3 hK3 => ?_
 refine vc_region ?_
 refine vo_load_varS rfl rfl rfl Try.underlying25 rfl inf25 sz25 rfl rfl ?_
 refine vo_move_pv rfl rfl ?_
 refine vo_call0 Try.func60 rfl rfl rfl rfl (hasWorks_sat hx0) ?_
 rintro _ _ ⟨rfl, rfl⟩
 refine ⟨rfl, rfl, .inl rfl, ?_⟩
 refine vo_stM ?_
 refine vo_not rfl rfl ?_
 refine vo_nil ?_
 refine hK3 _ ?_
 refine vc_cond rfl (fun hc1 => ?_) (fun hc1 => ?_)
 ·try simp only [zq0, zq1, zq2, zq3, zq4, zq5, zq6, zq7, zq8, zq9, zqa, zqb, zqc, zqd, zqe, zqf] at hc1
  refine vc_seq fun K4 hK4 => ?_
  refine vc_region ?_
  refine vo_assign_pv rfl rfl ?_
  refine vo_own_nil 4 E28 rfl ?_
  refine vo_nil ?_
  refine hK4 _ ?_
  refine vc_ret ?_
  change retQ _ _ _ _ _
  refine retQ_sel [2] (srows := [_]) (.inr rfl) hC rfl rfl rfl rfl rfl rfl rfl ?_
  rw [absM_no (by assumption)]; exact ⟨_, _, rfl, rfl⟩
 ·try simp only [zq0, zq1, zq2, zq3, zq4, zq5, zq6, zq7, zq8, zq9, zqa, zqb, zqc, zqd, zqe, zqf] at hc1
  have hv := hc1.1
  have htl := ordT_len x.bases (c.toNat + 1)
  have hb0 := hc1.2.1
  have hb9 := hc1.2.2
  refine vc_skip ?_
  refine hK2 _ ?_
  refine vc_seq fun K5 hK5 => ?_
  refine vc_region ?_
  refine vo_assign_pv rfl rfl ?_
  refine vo_nil ?_
  refine hK5 _ ?_
  refine vc_seq fun K6 hK6 => ?_
  refine vc_seq fun K7 hK7 => ?_
  refine vc_region ?_
  refine vo_fieldAddr_ptr rfl rfl Try.underlying25 rfl inf23 (by rw [sz23]; decide) ?_
  try simp only [Nat.zero_add]
  refine vo_load_var rfl rfl rfl Try.underlying23 rfl rfl ?_
  refine vo_move_pv rfl rfl ?_
  refine vo_call [] Try.func62 rfl rfl rfl rfl rfl rfl rfl (ordersUpTo_satI (by omega) (fun l hl => by have := b2 l hl; omega) hc1.1.1.1 hc1.2.1 (by have := hc1.2.2; omega)) ?_
  rintro _ _ ⟨rfl, rfl⟩
  refine ⟨Nat.le_of_ble_eq_true rfl, ⟨rfl, rfl, rfl, rfl⟩, .inl rfl, ?_⟩
  refine vo_stM ?_
  refine vo_treeown 2 (by omega) rfl ?_
  refine vo_stM ?_
  refine vo_expose 2 (by omega) rfl ?_
  refine vo_stM ?_
  refine vo_weaken 20 rfl ?_
  refine vo_stM ?_
  refine vo_len_pv rfl rfl Try.underlying23 ?_
  refine vo_move_pv rfl rfl ?_
  refine vo_nil ?_
  refine hK7 _ ?_
  refine vc_block ?_
  refine vc_own_nil 5 E23 rfl ?_
  refine vc_stM ?_
  refine vc_loopE [1, 2, 20, 21] [5, 22] [3] _ _ (fun mz vs rs => ∃ (k : Nat) (R : Row), mz = c.toNat + 1 - k ∧ (k ≤ c.toNat + 1) ∧ ((k ≤ c.toNat ∧ R = Row.own 28 1 none true ((fndK x (k)).map ints)) ∨ (c.toNat < k ∧ ∃ G : List PV, G.length = c.toNat ∧ R = Row.tree 28 1 none none (G ++ [.sl none 1 ((selI (absP x c.toNat) 10).map intP)]))) ∧ vs = [.ref 3, i64 k] ∧ rs = [R]) (c.toNat + 1) rfl rfl (le_len hC rfl) ⟨rfl, rfl, rfl⟩ rfl ⟨0, _, rfl, (Nat.zero_le _), (.inl ⟨Nat.zero_le _, rfl⟩), rfl, rfl⟩ ?_
  rintro mz vs rs - - ⟨k, R, rfl, hk, hR, rfl, rfl⟩
  refine vc_stM ?_
  refine vc_seq fun K8 hK8 => ?_
  refine vc_region ?_
  refine vo_binI rfl rfl rfl rfl trivial ?_
  refine vo_nil ?_
  refine hK8 _ ?_
  refine vc_seq fun K9 hK9 => ?_
  refine vc_cond rfl (fun hc2 => ?_) (fun hc2 => ?_)
  ·try simp only [zq0, zq1, zq2, zq3, zq4, zq5, zq6, zq7, zq8, zq9, zqa, zqb, zqc, zqd, zqe, zqf] at hc2
   obtain ⟨hkc, rfl⟩ := hR.resolve_right (by omega)
   have hkl : k < x.bases.length := by omega
   have hva := hv.2.1
   have hvr := hv.2.2.1
   have hbk := (hv.1.1.at hkl)
   have hak := (getD_all (p := fun l : List Int => l.length ≤ 2000000) a2 [] (by simp) k)
   have hoi := ordIx_of hv.1 hkl
   have hoa : OrdIx x.abs.length (ordM x.bases k) := by rw [hv.2.1]; exact hoi
   have hor : OrdIx x.real.length (ordM x.bases k) := by rw [hv.2.2.1]; exact hoi
   have hal := okWk_len (hv.2.2.2 k hkl)
   have hfl := fndK_len x k
   have hgl : (goneL (List.map ints (fndK x k))).length = k := by simp [goneL, fndK_len]
   refine vc_skip ?_
   refine hK9 _ ?_
   refine vc_seq fun K10 hK10 => ?_
   refine vc_block ?_
   refine vc_seq fun K11 hK11 => ?_
   refine vc_region ?_
   refine vo_move_pv rfl rfl ?_
   refine vo_index_pv (.sl (some true) 1 []) rfl rfl rfl E23.und inf28 sz28 sd sd ?_
   simp only [Int.toNat_natCast, Int.toNat_zero, getD_ints, getD_intss, getD_bools, getD_bytes, PV.cells, getD_ops, getD_pairs, getD_insts, getD_attrs, getD_attrss, getD_objs, getD_ordP]
   refine vo_load_adr rfl rfl Try.underlying28 rfl ?_
   rw [ordT_get x.bases (c.toNat + 1) k (by omega)]
   refine vo_stM ?_
   refine vo_assign_pv rfl rfl ?_
   refine vo_assign_pv rfl rfl ?_
   refine vo_nil ?_
   refine hK11 _ ?_
   refine vc_seq fun K12 hK12 => ?_
   refine vc_region ?_
   refine vo_fieldAddr_ptr rfl rfl Try.underlying25 rfl inf23 (by rw [sz23]; decide) ?_
   try simp only [Nat.zero_add]
   refine vo_load_var rfl rfl rfl Try.underlying23 rfl rfl ?_
   refine vo_move_pv rfl rfl ?_
   refine vo_index_pv (.sl none 1 []) rfl rfl rfl E23.und inf28 sz28 sd sd ?_
   simp only [Int.toNat_natCast, Int.toNat_zero, getD_ints, getD_intss, getD_bools, getD_bytes, PV.cells, getD_ops, getD_pairs, getD_insts, getD_attrs, getD_attrss, getD_objs, getD_ordP]
   refine vo_load_adr rfl rfl Try.underlying28 rfl ?_
   refine vo_call [] Try.func67 rfl rfl rfl rfl rfl rfl rfl (cloneI_sat (s := x.abs.getD k []) (by omega)) ?_
   rintro _ _ ⟨nl9, rfl, rfl⟩
   refine ⟨Nat.le_of_ble_eq_true rfl, ⟨rfl, rfl, rfl, rfl⟩, .inl rfl, ?_⟩
   refine vo_stM ?_
   refine vo_assign_ref rfl rfl ?_
   refine vo_nil ?_
   refine hK12 _ ?_
   refine vc_seq fun K13 hK13 => ?_
   refine vc_seq fun K14 hK14 => ?_
   refine vc_region ?_
   refine vo_fieldAddr_ptr rfl rfl Try.underlying25 rfl inf23 (by rw [sz23]; decide) ?_
   try simp only [Nat.zero_add]
   refine vo_load_var rfl rfl rfl Try.underlying23 rfl rfl ?_
   refine vo_move_pv rfl rfl ?_
   refine vo_index_pv (.sl none 1 []) rfl rfl rfl E23.und inf28 sz28 sd sd ?_
   simp only [Int.toNat_natCast, Int.toNat_zero, getD_ints, getD_intss, getD_bools, getD_bytes, PV.cells, getD_ops, getD_pairs, getD_insts, getD_attrs, getD_attrss, getD_objs, getD_ordP]
   refine vo_load_adr rfl rfl Try.underlying28 rfl ?_
   refine vo_len_pv rfl rfl Try.underlying28 ?_
   refine vo_move_pv rfl rfl ?_
   refine vo_nil ?_
   refine hK14 _ ?_
   refine vc_block ?_
   refine vc_stM ?_
   refine vc_loopE [1, 2, 5, 7, 20, 21, 22, 37, 38] [8, 39] [4] _ _ (fun mz vs rs => ∃ (i : Nat) (N : List Int) (nl5 : Option Bool), mz = (x.bases.getD k []).length - i ∧ (i ≤ (x.bases.getD k []).length) ∧ (N.length ≤ 10 + 10 * i) ∧ (∀ n, n ∈ N ↔ n ∈ x.abs.getD k [] ∨ ∃ j, j < i ∧ n ∈ selI (absP x ((x.bases.getD k []).getD j 0).toNat) 10 ∧ absP x k n = true) ∧ vs = [.ref 4, i64 i] ∧ rs = [Row.own 3 1 nl5 true (N.map intP)]) ((x.bases.getD k []).length) rfl rfl (le_len hC rfl) ⟨rfl, rfl, rfl⟩ rfl ⟨0, x.abs.getD k [], _, rfl, (Nat.zero_le _), (by omega), (fun n => ⟨.inl, fun h => by rcases h with h | ⟨j, hj, _⟩; exact h; omega⟩), rfl, rfl⟩ ?_
   rintro mz vs rs - - ⟨i, N, nl5, rfl, hi, hNl, hN, rfl, rfl⟩
   refine vc_stM ?_
   refine vc_seq fun K15 hK15 => ?_
   refine vc_region ?_
   refine vo_binI rfl rfl rfl rfl trivial ?_
   refine vo_nil ?_
   refine hK15 _ ?_
   refine vc_seq fun K16 hK16 => ?_
   refine vc_cond rfl (fun hc3 => ?_) (fun hc3 => ?_)
   ·try simp only [zq0, zq1, zq2, zq3, zq4, zq5, zq6, zq7, zq8, zq9, zqa, zqb, zqc, zqd, zqe, zqf] at hc3
    have hbi := hbk.2.2 _ (getD_mem (show i < (x.bases.getD k []).length by omega) 0)
    have hsl := selI_len (absP x ((x.bases.getD k []).getD i 0).toNat) 10
    refine vc_skip ?_
    refine hK16 _ ?_
    refine vc_seq fun K17 hK17 => ?_
    refine vc_block ?_
    refine vc_seq fun K18 hK18 => ?_
    refine vc_region ?_
    refine vo_index_pv (.int .i64 0) rfl rfl rfl E28.und inf3 sz3 sd sd ?_
    simp only [Int.toNat_natCast, Int.toNat_zero, getD_ints, getD_intss, getD_bools, getD_bytes, PV.cells, getD_ops, getD_pairs, getD_insts, getD_attrs, getD_attrss, getD_objs, getD_ordP]
    refine vo_load_adr rfl rfl Try.underlying3 rfl ?_
    refine vo_assign_pv rfl rfl ?_
    refine vo_nil ?_
    refine hK18 _ ?_
    refine vc_seq fun K19 hK19 => ?_
    refine vc_region ?_
    refine vo_move_ref rfl rfl ?_
    refine vo_move_pv rfl rfl ?_
    refine vo_index_ref rfl rfl rfl rfl E23.und inf28 sz28 sd sd ?_
    try simp only [Int.toNat_natCast]
    refine vo_load_own rfl rfl rfl Try.underlying28 rfl sd (getD_intss _ _) rfl ?_
    try simp only [Int.toNat_natCast]
    rw [fndK_get (show ((x.bases.getD k []).getD i 0).toNat < k by omega)]
    refine vo_stM ?_
    refine vo_len_pv rfl rfl Try.underlying28 ?_
    refine vo_move_pv rfl rfl ?_
    refine vo_nil ?_
    refine hK19 _ ?_
    refine vc_block ?_
    refine vc_stM ?_
    refine vc_loopE [1, 2, 5, 7, 20, 21, 22, 37, 38, 39, 46, 47] [8, 48] [4] _ _ (fun mz vs rs => ∃ (q : Nat) (Y : List Int) (nl6 : Option Bool), mz = (selI (absP x ((x.bases.getD k []).getD i 0).toNat) 10).length - q ∧ (q ≤ (selI (absP x ((x.bases.getD k []).getD i 0).toNat) 10).length) ∧ (Y.length ≤ N.length + q) ∧ (∀ n, n ∈ Y ↔ n ∈ N ∨ (n ∈ (selI (absP x ((x.bases.getD k []).getD i 0).toNat) 10).take q ∧ absP x k n = true)) ∧ vs = [.ref 4, i64 q] ∧ rs = [Row.own 3 1 nl6 true (Y.map intP)]) ((selI (absP x ((x.bases.getD k []).getD i 0).toNat) 10).length) rfl rfl (le_len hC rfl) ⟨rfl, rfl, rfl⟩ rfl ⟨0, N, _, rfl, (Nat.zero_le _), (by omega), (fun n => by simp), rfl, rfl⟩ ?_
    rintro mz vs rs - - ⟨q, Y, nl6, rfl, hq, hYl, hY, rfl, rfl⟩
    refine vc_stM ?_
    refine vc_seq fun K20 hK20 => ?_
    refine vc_region ?_
    refine vo_binI rfl rfl rfl rfl trivial ?_
    refine vo_nil ?_
    refine hK20 _ ?_
    refine vc_seq fun K21 hK21 => ?_
    refine vc_cond rfl (fun hc4 => ?_) (fun hc4 => ?_)
    ·try simp only [zq0, zq1, zq2, zq3, zq4, zq5, zq6, zq7, zq8, zq9, zqa, zqb, zqc, zqd, zqe, zqf] at hc4
     refine vc_skip ?_
     refine hK21 _ ?_
     refine vc_seq fun K22 hK22 => ?_
     refine vc_block ?_
     refine vc_seq fun K23 hK23 => ?_
     refine vc_region ?_
     refine vo_index_pv (.int .i64 0) rfl rfl rfl E28.und inf3 sz3 sd sd ?_
     simp only [Int.toNat_natCast, Int.toNat_zero, getD_ints, getD_intss, getD_bools, getD_bytes, PV.cells, getD_ops, getD_pairs, getD_insts, getD_attrs, getD_attrss, getD_objs, getD_ordP]
     refine vo_load_adr rfl rfl Try.underlying3 rfl ?_
     refine vo_assign_pv rfl rfl ?_
     refine vo_nil ?_
     refine hK23 _ ?_
     refine vc_seq fun K24 hK24 => ?_
     refine vc_region ?_
     refine vo_load_varS rfl rfl rfl Try.underlying25 rfl inf25 sz25 rfl rfl ?_
     refine vo_move_pv rfl rfl ?_
     refine vo_move_pv rfl rfl ?_
     refine vo_call0 Try.func63 rfl rfl rfl rfl (isAbstract_sat (order := ordM x.bases k) hx0 hoa hor) ?_
     rintro _ _ ⟨rfl, rfl⟩
     refine ⟨rfl, rfl, .inl rfl, ?_⟩
     refine vo_stM ?_
     refine vo_nil ?_
     refine hK24 _ ?_
     refine vc_cond rfl (fun hc5 => ?_) (fun hc5 => ?_)
     ·try simp only [zq0, zq1, zq2, zq3, zq4, zq5, zq6, zq7, zq8, zq9, zqa, zqb, zqc, zqd, zqe, zqf] at hc5
      refine vc_region ?_
      refine vo_move_ref rfl rfl ?_
      refine vo_move_pv rfl rfl ?_
      refine vo_buildSlice E28 rfl rfl rfl rfl rfl ?_
      refine vo_stM ?_
      refine vo_append E28 rfl (by omega) rfl rfl rfl sd sd ?_
      refine vo_stM ?_
      try simp only [app_ints, app_intss, app_bools]
      refine vo_assign_ref rfl rfl ?_
      refine vo_nil ?_
      refine hK22 _ ?_
      refine vc_region ?_
      refine vo_binI rfl rfl rfl rfl sd ?_
      refine vo_move_pv rfl rfl ?_
      refine vo_nil ?_
      change againE _ _ _ _ _ _ _ _ _ _
      refine againE_mk rfl rfl rfl rfl rfl rfl ⟨_, ?_, q + 1, _, _, rfl, ?_, ?_, ?_, rfl, rfl⟩
      ·omega
      ·omega
      ·rw [List.length_append, List.length_singleton]; omega
      ·exact mem_yes hY (by omega) (by assumption)
     ·try simp only [zq0, zq1, zq2, zq3, zq4, zq5, zq6, zq7, zq8, zq9, zqa, zqb, zqc, zqd, zqe, zqf] at hc5
      refine vc_skip ?_
      refine hK22 _ ?_
      refine vc_region ?_
      refine vo_binI rfl rfl rfl rfl sd ?_
      refine vo_move_pv rfl rfl ?_
      refine vo_nil ?_
      change againE _ _ _ _ _ _ _ _ _ _
      refine againE_mk rfl rfl rfl rfl rfl rfl ⟨_, ?_, q + 1, _, _, rfl, ?_, ?_, ?_, rfl, rfl⟩
      ·omega
      ·omega
      ·omega
      ·exact mem_no hY (by omega) (by intro h; have h2 := hc5; change absP x k _ = false at h2; rw [h2] at h; cases h)
    ·try simp only [zq0, zq1, zq2, zq3, zq4, zq5, zq6, zq7, zq8, zq9, zqa, zqb, zqc, zqd, zqe, zqf] at hc4
     refine vc_exit ?_
     refine hK17 _ ?_
     refine vc_region ?_
     refine vo_binI rfl rfl rfl rfl sd ?_
     refine vo_move_pv rfl rfl ?_
     refine vo_nil ?_
     change againE _ _ _ _ _ _ _ _ _ _
     refine againE_mk rfl rfl rfl rfl rfl rfl ⟨_, ?_, i + 1, _, _, rfl, ?_, ?_, ?_, rfl, rfl⟩
     ·omega
     ·omega
     ·omega
     ·exact mem_step hN (by rw [take_all (show (selI (absP x ((x.bases.getD k []).getD i 0).toNat) 10).length ≤ q by omega)] at hY; exact hY)
   ·try simp only [zq0, zq1, zq2, zq3, zq4, zq5, zq6, zq7, zq8, zq9, zqa, zqb, zqc, zqd, zqe, zqf] at hc3
    have hall := abs_all hv hkl (by rw [show i = (x.bases.getD k []).length by omega] at hN; exact hN)
    refine vc_exit ?_
    refine hK13 _ ?_
    refine vc_seq fun K25 hK25 => ?_
    refine vc_region ?_
    refine vo_move_ref rfl rfl ?_
    refine vo_call [4] Try.func68 rfl rfl rfl rfl rfl rfl rfl (sort_sat sortC (l := N) (by omega)) ?_
    rintro _ _ ⟨rfl, rfl⟩
    refine ⟨Nat.le_of_ble_eq_true rfl, ⟨rfl, rfl, rfl, rfl⟩, .inl rfl, ?_⟩
    refine vo_stM ?_
    refine vo_stM ?_
    refine vo_nil ?_
    refine hK25 _ ?_
    refine vc_region ?_
    refine vo_move_ref rfl rfl ?_
    refine vo_move_ref rfl rfl ?_
    refine vo_compact compactC (l := srt N) Try.func69 rfl rfl rfl (by omega) rfl rfl (by rw [srtK_len]; omega) ?_
    refine vo_stM ?_
    rcases Nat.lt_or_ge k c.toNat with hlt | hge
    ·skip
     refine vo_clean 4 rfl (scal_ints _) ?_
     refine vo_stM ?_
     simp only [cs_sel hall]
     refine vo_stM ?_
     refine vo_expose 4 (by omega) rfl ?_
     refine vo_stM ?_
     refine vo_weaken 66 rfl ?_
     refine vo_stM ?_
     refine vo_buildSlice E23 rfl rfl rfl rfl rfl ?_
     refine vo_stM ?_
     refine vo_append E23 rfl (by omega) rfl rfl rfl sd sd ?_
     refine vo_stM ?_
     try simp only [app_ints, app_intss, app_bools]
     refine vo_assign_ref rfl rfl ?_
     refine vo_nil ?_
     refine hK10 _ ?_
     refine vc_region ?_
     refine vo_binI rfl rfl rfl rfl sd ?_
     refine vo_move_pv rfl rfl ?_
     refine vo_nil ?_
     change againE _ _ _ _ _ _ _ _ _ _
     refine againE_mk rfl rfl rfl rfl rfl rfl ⟨_, ?_, k + 1, _, rfl, ?_, ?_, rfl, rfl⟩
     ·omega
     ·omega
     ·exact .inl ⟨by omega, by rw [fndK_succ, List.map_append]; rfl⟩
    ·skip
     refine vo_clean 4 rfl (scal_ints _) ?_
     refine vo_stM ?_
     simp only [cs_sel hall]
     refine vo_stM ?_
     refine vo_togone 3 rfl ?_
     refine vo_stM ?_
     refine vo_totree 4 rfl (plain_ints _) ?_
     refine vo_stM ?_
     refine vo_weaktree 4 rfl ?_
     refine vo_stM ?_
     refine vo_build_treeG (p := .sl _ _ _) E23 rfl rfl rfl rfl rfl rfl rfl hC rfl (by first | decide | simp [refsOf]) ?_
     refine vo_stM ?_
     refine vo_append_treeG E23 rfl (by omega) (by omega) rfl rfl rfl rfl rfl sd sd sd ?_
     refine vo_stM ?_
     try simp only [app_ints, app_intss, app_bools]
     refine vo_assign_ref rfl rfl ?_
     refine vo_nil ?_
     refine hK10 _ ?_
     refine vc_region ?_
     refine vo_binI rfl rfl rfl rfl sd ?_
     refine vo_move_pv rfl rfl ?_
     refine vo_nil ?_
     change againE _ _ _ _ _ _ _ _ _ _
     refine againE_mk rfl rfl rfl rfl rfl rfl ⟨_, ?_, k + 1, _, rfl, ?_, ?_, rfl, rfl⟩
     ·omega
     ·omega
     ·have e : k = c.toNat := by omega
      subst e
      exact .inr ⟨by omega, _, by simp [goneL, fndK_len], rfl⟩
  ·try simp only [zq0, zq1, zq2, zq3, zq4, zq5, zq6, zq7, zq8, zq9, zqa, zqb, zqc, zqd, zqe, zqf] at hc2
   obtain ⟨hkc, G, hG, rfl⟩ := hR.resolve_left (by omega)
   have hGl : (G ++ [PV.sl none 1 (List.map intP (selI (absP x c.toNat) 10))]).length = c.toNat + 1 := by rw [List.length_append, List.length_singleton, hG]
   refine vc_exit ?_
   refine hK6 _ ?_
   refine vc_seq fun K26 hK26 => ?_
   refine vc_region ?_
   refine vo_move_ref rfl rfl ?_
   refine vo_move_pv rfl rfl ?_
   refine vo_index_ref rfl rfl rfl rfl E23.und inf28 sz28 sd sd ?_
   try simp only [Int.toNat_natCast]
   refine vo_load_take1 rfl rfl rfl (by omega) Try.underlying28 rfl (get_endG hG) fun Rf73 => ?_
   refine vo_stM ?_
   refine vo_assign_ref rfl rfl ?_
   refine vo_nil ?_
   refine hK26 _ ?_
   refine vc_treeown 4 (by omega) rfl ?_
   refine vc_stM ?_
   refine vc_clean 4 rfl (scal_ints _) ?_
   refine vc_stM ?_
   refine vc_ret ?_
   change retQ _ _ _ _ _
   refine retQ_sel [4] (srows := [_]) (.inr rfl) hC rfl rfl rfl rfl rfl rfl rfl ?_
   rw [absM_yes (by assumption)]; exact ⟨_, _, rfl, rfl⟩

end Go.Vl

namespace Go.Vl
set_option linter.unusedVariables false
set_option linter.unusedSimpArgs false
open Go.Proofs

end Go.Vl

namespace Go.Vl
set_option linter.unusedVariables false
set_option linter.unusedSimpArgs false
open Go.Proofs

def mkK (x : WorksM) (c : Nat) : List Bool := (List.range 10).map fun i : Nat => absP x c i
theorem mkK_len (x : WorksM) (c : Nat) : (mkK x c).length = 10 := by simp [mkK]
theorem mkK_get {x : WorksM} {c n : Nat} (h : n < 10) : (mkK x c).getD n false = absP x c n := by simp [mkK, List.getD, h]
theorem mkK_ext {x : WorksM} {c : Nat} {M : List Bool} (hl : M.length = 10) (h : ∀ n : Nat, n < 10 → (M.getD n false = true ↔ absP x c n = true)) : M = mkK x c := by
  apply List.ext_getElem (by rw [hl, mkK_len])
  intro i h1 h2
  have h3 := h i (by omega)
  have e1 : M.getD i false = M[i] := by simp [List.getD, List.getElem?_eq_getElem h1]
  have e2 : (mkK x c)[i] = absP x c i := by simp [mkK]
  rw [e1] at h3
  rw [e2]
  exact Bool.eq_iff_iff.2 h3
theorem set_get {M : List Bool} {i n : Nat} (hi : i < M.length) : (M.set i true).getD n false = true ↔ M.getD n false = true ∨ n = i := by
  simp only [List.getD, List.getElem?_set]
  by_cases h : i = n
  · subst h; simp [hi]
  · rw [if_neg h]; constructor
    · exact .inl
    · rintro (h1 | h1); exact h1; exact absurd h1.symm h
theorem repB_get {n : Nat} : (List.replicate 10 false).getD n false = false := by
  simp only [List.getD, List.getElem?_replicate]; split <;> rfl

theorem mk_step1 {M : List Bool} {A : List Int} {i : Nat} (hM : ∀ n : Nat, n < 10 → (M.getD n false = true ↔ (n : Int) ∈ A.take i)) (hl : M.length = 10) (ha : 0 ≤ A.getD i 0 ∧ A.getD i 0 ≤ 9) (hi : i < A.length) : ∀ n : Nat, n < 10 → ((M.set (A.getD i 0).toNat true).getD n false = true ↔ (n : Int) ∈ A.take (i + 1)) := by
  intro n hn
  have e : A.take (i + 1) = A.take i ++ [A.getD i 0] := by rw [List.take_add_one, List.getD, List.getElem?_eq_getElem hi]; rfl
  rw [set_get (by omega), hM n hn, e, List.mem_append, List.mem_singleton]
  constructor
  · rintro (h | h); exact .inl h; exact .inr (by omega)
  · rintro (h | h); exact .inl h; exact .inr (by omega)
theorem mk_step2 {M Y : List Bool} {A : Nat → Prop} {B : Nat → Nat → Prop} {i : Nat} (hM : ∀ n : Nat, n < 10 → (M.getD n false = true ↔ A n ∨ ∃ j, j < i ∧ B j n)) (hY : ∀ n : Nat, n < 10 → (Y.getD n false = true ↔ M.getD n false = true ∨ B i n)) : ∀ n : Nat, n < 10 → (Y.getD n false = true ↔ A n ∨ ∃ j, j < i + 1 ∧ B j n) := by
  intro n hn
  rw [hY n hn, hM n hn]
  constructor
  · rintro ((h | ⟨j, hj, h⟩) | h)
    · exact .inl h
    · exact .inr ⟨j, by omega, h⟩
    · exact .inr ⟨i, by omega, h⟩
  · rintro (h | ⟨j, hj, h⟩)
    · exact .inl (.inl h)
    · rcases Nat.lt_or_ge j i with h2 | h2
      · exact .inl (.inr ⟨j, h2, h⟩)
      · rw [show j = i by omega] at h; exact .inr h
theorem mk_yes {M Y : List Bool} {B D : Nat → Prop} {q : Nat} (hY : ∀ n : Nat, n < 10 → (Y.getD n false = true ↔ M.getD n false = true ∨ (n < q ∧ B n ∧ D n))) (hl : Y.length = 10) (hq : q < 10) (hB : B q) (hD : D q) : ∀ n : Nat, n < 10 → ((Y.set q true).getD n false = true ↔ M.getD n false = true ∨ (n < q + 1 ∧ B n ∧ D n)) := by
  intro n hn
  rw [set_get (by omega), hY n hn]
  constructor
  · rintro ((h | h) | rfl)
    · exact .inl h
    · exact .inr ⟨by omega, h.2⟩
    · exact .inr ⟨by omega, hB, hD⟩
  · rintro (h | h)
    · exact .inl (.inl h)
    · rcases Nat.lt_or_ge n q with h2 | h2
      · exact .inl (.inr ⟨h2, h.2⟩)
      · exact .inr (by omega)
theorem mk_no {M Y : List Bool} {B D : Nat → Prop} {q : Nat} (hY : ∀ n : Nat, n < 10 → (Y.getD n false = true ↔ M.getD n false = true ∨ (n < q ∧ B n ∧ D n))) (hno : B q → ¬ D q) : ∀ n : Nat, n < 10 → (Y.getD n false = true ↔ M.getD n false = true ∨ (n < q + 1 ∧ B n ∧ D n)) := by
  intro n hn
  rw [hY n hn]
  constructor
  · rintro (h | h)
    · exact .inl h
    · exact .inr ⟨by omega, h.2⟩
  · rintro (h | h)
    · exact .inl h
    · rcases Nat.lt_or_ge n q with h2 | h2
      · exact .inr ⟨h2, h.2⟩
      · rw [show n = q by omega] at h; exact absurd h.2.2 (hno h.2.1)
theorem mk_fin {x : WorksM} (hv : VWorks x) {c i : Nat} (hc : c < x.bases.length) (hi : i = (x.bases.getD c []).length) {n : Nat} : ((n : Int) ∈ x.abs.getD c [] ∨ ∃ j, j < i ∧ absP x ((x.bases.getD c []).getD j 0).toNat n = true ∧ absP x c n = true) ↔ absP x c n = true := by
  constructor
  · rintro (h | ⟨_, _, _, h⟩)
    · exact abs_own hv hc h
    · exact h
  · intro h
    rcases (abs_bases hv hc n).1 h with h1 | ⟨⟨b, hb, h2⟩, _⟩
    · exact .inl h1
    · obtain ⟨j, hj, e⟩ := List.getElem_of_mem hb
      refine .inr ⟨j, by omega, ?_, h⟩
      have e2 : (x.bases.getD c []).getD j 0 = b := by rw [List.getD_eq_getElem?_getD, List.getElem?_eq_getElem hj]; exact e
      rw [e2]; exact h2

theorem byBases_step {x : WorksM} {c : Nat}  (hx : SK x) (hv : VWorks x) (hc : c < x.bases.length) (ih : ∀ b : Int, 0 ≤ b → b < c → SatAt Try.prog 73 [.pv false (worksP x), i64 b] [] (fun res rows => res = [.ref 0] ∧ rows = [Row.own 4 1 (some false) true ((mkK x b.toNat).map boolP)])) : SatAt Try.prog 73 [.pv false (worksP x), i64 c] [] (fun res rows => res = [.ref 0] ∧ rows = [Row.own 4 1 (some false) true ((mkK x c).map boolP)]) := by
  have hx0 := hx
  obtain ⟨⟨b1, b2⟩, ⟨a1, a2⟩, r1, r2⟩ := hx
  have hva := hv.2.1
  have hvr := hv.2.2.1
  have hok := hv.2.2.2 c hc
  have hal := okWk_len hok
  have hbk := (hv.1.1.at hc)
  have hoi := ordIx_of hv.1 hc
  have hoa : OrdIx x.abs.length (ordM x.bases c) := by rw [hv.2.1]; exact hoi
  have hor : OrdIx x.real.length (ordM x.bases c) := by rw [hv.2.2.1]; exact hoi
  refine sat_entry_G (rs := [(4, none)]) Try.func73 rfl rfl (Nat.le_of_ble_eq_true rfl) (Nat.le_of_ble_eq_true rfl) (resTs1 trivial) fun C hC => ?_
  rw [Try.ntmps73]
  replace hC : C.nb = 0 := hC
  refine vc_seq fun K1 hK1 => ?_
  refine vc_region ?_
  refine vo_box rfl rfl ?_
  refine vo_stM ?_
  refine vo_assign_pv rfl rfl ?_
  refine vo_nil ?_
  refine hK1 _ ?_
  refine vc_seq fun K2 hK2 => ?_
  refine vc_region ?_
  refine vo_make E85 rfl rfl rfl sd sd sd ?_
  refine vo_assign_ref rfl rfl ?_
  refine vo_nil ?_
  refine hK2 _ ?_
  refine vc_seq fun K3 hK3 => ?_
  refine vc_seq fun K4 hK4 => ?_
  refine vc_region ?_
  refine vo_assign_pv rfl rfl ?_
  refine vo_nil ?_
  refine hK4 _ ?_
  refine vc_block ?_
  refine vc_stM ?_
  refine vc_loopE [1, 2] [5, 6] [1] _ _ (fun mz vs rs => ∃ (i : Nat) (M : List Bool), mz = (x.abs.getD c []).length - i ∧ (i ≤ (x.abs.getD c []).length) ∧ (M.length = 10) ∧ (∀ n : Nat, n < 10 → (M.getD n false = true ↔ (n : Int) ∈ (x.abs.getD c []).take i)) ∧ vs = [.ref 1, i64 i] ∧ rs = [Row.own 4 1 (some false) true ((M).map boolP)]) ((x.abs.getD c []).length) rfl rfl (le_len hC rfl) ⟨rfl, rfl, rfl⟩ rfl ⟨0, List.replicate 10 false, rfl, (Nat.zero_le _), (by simp), (fun n _ => by rw [repB_get]; simp), rfl, rfl⟩ ?_
  rintro mz vs rs - - ⟨i, M, rfl, hi, hMl, hM, rfl, rfl⟩
  refine vc_stM ?_
  refine vc_seq fun K5 hK5 => ?_
  refine vc_seq fun K6 hK6 => ?_
  refine vc_region ?_
  refine vo_move_pv rfl rfl ?_
  refine vo_fieldAddr_ptr rfl rfl Try.underlying25 rfl inf23 (by rw [sz23]; decide) ?_
  try simp only [Nat.zero_add]
  refine vo_load_var rfl rfl rfl Try.underlying23 rfl rfl ?_
  refine vo_move_pv rfl rfl ?_
  refine vo_index_pv (.sl none 1 []) rfl rfl rfl E23.und inf28 sz28 sd sd ?_
  simp only [Int.toNat_natCast, Int.toNat_zero, getD_ints, getD_intss, getD_bools, getD_bytes, PV.cells, getD_ops, getD_pairs, getD_insts, getD_attrs, getD_attrss, getD_objs, getD_ordP]
  refine vo_load_adr rfl rfl Try.underlying28 rfl ?_
  refine vo_len_pv rfl rfl Try.underlying28 ?_
  refine vo_binI rfl rfl rfl rfl trivial ?_
  refine vo_nil ?_
  refine hK6 _ ?_
  refine vc_cond rfl (fun hc1 => ?_) (fun hc1 => ?_)
  · try simp only [zq0, zq1, zq2, zq3, zq4, zq5, zq6, zq7, zq8, zq9, zqa, zqb, zqc, zqd, zqe, zqf] at hc1
    have hai := hok.2 _ (List.mem_append_left _ (getD_mem (show i < (x.abs.getD c []).length by omega) 0))
    refine vc_skip ?_
    refine hK5 _ ?_
    refine vc_seq fun K7 hK7 => ?_
    refine vc_block ?_
    refine vc_region ?_
    refine vo_move_ref rfl rfl ?_
    refine vo_fieldAddr_ptr rfl rfl Try.underlying25 rfl inf23 (by rw [sz23]; decide) ?_
    try simp only [Nat.zero_add]
    refine vo_load_var rfl rfl rfl Try.underlying23 rfl rfl ?_
    refine vo_move_pv rfl rfl ?_
    refine vo_index_pv (.sl none 1 []) rfl rfl rfl E23.und inf28 sz28 sd sd ?_
    simp only [Int.toNat_natCast, Int.toNat_zero, getD_ints, getD_intss, getD_bools, getD_bytes, PV.cells, getD_ops, getD_pairs, getD_insts, getD_attrs, getD_attrss, getD_objs, getD_ordP]
    refine vo_load_adr rfl rfl Try.underlying28 rfl ?_
    refine vo_move_pv rfl rfl ?_
    refine vo_index_pv (.int .i64 0) rfl rfl rfl E28.und inf3 sz3 sd sd ?_
    simp only [Int.toNat_natCast, Int.toNat_zero, getD_ints, getD_intss, getD_bools, getD_bytes, PV.cells, getD_ops, getD_pairs, getD_insts, getD_attrs, getD_attrss, getD_objs, getD_ordP]
    refine vo_load_adr rfl rfl Try.underlying3 rfl ?_
    refine vo_index_ref rfl rfl rfl rfl E85.und inf4 sz4 sd sd ?_
    try simp only [Int.toNat_natCast]
    refine vo_store_own rfl rfl rfl inf4 sz4 (by decide) rfl sd ?_
    try simp only [set_ints, set_intss, set_bools, rep_bools, rep_ints, Int.toNat_natCast, Int.toNat_zero]
    refine vo_stM ?_
    refine vo_nil ?_
    refine hK7 _ ?_
    refine vc_region ?_
    refine vo_move_pv rfl rfl ?_
    refine vo_binI rfl rfl rfl rfl sd ?_
    refine vo_assign_pv rfl rfl ?_
    refine vo_nil ?_
    change againE _ _ _ _ _ _ _ _ _ _
    refine againE_mk rfl rfl rfl rfl rfl rfl ⟨_, ?_, i + 1, M.set ((x.abs.getD c []).getD i 0).toNat true, rfl, ?_, ?_, ?_, rfl, rfl⟩
    · omega
    · omega
    · rw [List.length_set]; exact hMl
    · exact mk_step1 hM hMl hai (by omega)
  · try simp only [zq0, zq1, zq2, zq3, zq4, zq5, zq6, zq7, zq8, zq9, zqa, zqb, zqc, zqd, zqe, zqf] at hc1
    refine vc_exit ?_
    refine hK3 _ ?_
    refine vc_seq fun K8 hK8 => ?_
    refine vc_region ?_
    refine vo_fieldAddr_ptr rfl rfl Try.underlying25 rfl inf23 (by rw [sz23]; decide) ?_
    try simp only [Nat.zero_add]
    refine vo_load_var rfl rfl rfl Try.underlying23 rfl rfl ?_
    refine vo_move_pv rfl rfl ?_
    refine vo_call [] Try.func65 rfl rfl rfl rfl rfl rfl rfl (orderOf_sat (by omega) (fun l hl => by have := b2 l hl; omega) hv.1.1 c hc) ?_
    rintro _ _ ⟨nlo, rfl, rfl⟩
    refine ⟨Nat.le_of_ble_eq_true rfl, ⟨rfl, rfl, rfl, rfl⟩, .inl rfl, ?_⟩
    refine vo_stM ?_
    refine vo_expose 2 (by omega) rfl ?_
    refine vo_stM ?_
    refine vo_weaken 35 rfl ?_
    refine vo_stM ?_
    refine vo_assign_pv rfl rfl ?_
    refine vo_nil ?_
    refine hK8 _ ?_
    refine vc_seq fun K9 hK9 => ?_
    refine vc_seq fun K10 hK10 => ?_
    refine vc_region ?_
    refine vo_assign_pv rfl rfl ?_
    refine vo_nil ?_
    refine hK10 _ ?_
    refine vc_block ?_
    refine vc_stM ?_
    refine vc_loopE [1, 2, 7] [5, 8] [1] _ _ (fun mz vs rs => ∃ (i : Nat) (M : List Bool), mz = (x.bases.getD c []).length - i ∧ (i ≤ (x.bases.getD c []).length) ∧ (M.length = 10) ∧ (∀ n : Nat, n < 10 → (M.getD n false = true ↔ (n : Int) ∈ (x.abs.getD c []) ∨ ∃ j, j < i ∧ absP x ((x.bases.getD c []).getD j 0).toNat n = true ∧ absP x c n = true)) ∧ vs = [.ref 1, i64 i] ∧ rs = [Row.own 4 1 (some false) true ((M).map boolP)]) ((x.bases.getD c []).length) rfl rfl (le_len hC rfl) ⟨rfl, rfl, rfl⟩ rfl ⟨0, M, rfl, (Nat.zero_le _), hMl, (fun n hn => by rw [hM n hn, take_all (show (x.abs.getD c []).length ≤ i by omega)]; exact ⟨.inl, fun h => by rcases h with h | ⟨j, hj, _⟩; exact h; omega⟩), rfl, rfl⟩ ?_
    rintro mz vs rs - - ⟨i, M, rfl, hi, hMl, hM, rfl, rfl⟩
    refine vc_stM ?_
    refine vc_seq fun K11 hK11 => ?_
    refine vc_seq fun K12 hK12 => ?_
    refine vc_region ?_
    refine vo_move_pv rfl rfl ?_
    refine vo_fieldAddr_ptr rfl rfl Try.underlying25 rfl inf23 (by rw [sz23]; decide) ?_
    try simp only [Nat.zero_add]
    refine vo_load_var rfl rfl rfl Try.underlying23 rfl rfl ?_
    refine vo_move_pv rfl rfl ?_
    refine vo_index_pv (.sl none 1 []) rfl rfl rfl E23.und inf28 sz28 sd sd ?_
    simp only [Int.toNat_natCast, Int.toNat_zero, getD_ints, getD_intss, getD_bools, getD_bytes, PV.cells, getD_ops, getD_pairs, getD_insts, getD_attrs, getD_attrss, getD_objs, getD_ordP]
    refine vo_load_adr rfl rfl Try.underlying28 rfl ?_
    refine vo_len_pv rfl rfl Try.underlying28 ?_
    refine vo_binI rfl rfl rfl rfl trivial ?_
    refine vo_nil ?_
    refine hK12 _ ?_
    refine vc_cond rfl (fun hc2 => ?_) (fun hc2 => ?_)
    · try simp only [zq0, zq1, zq2, zq3, zq4, zq5, zq6, zq7, zq8, zq9, zqa, zqb, zqc, zqd, zqe, zqf] at hc2
      have hbi := hbk.2.2 _ (getD_mem (show i < (x.bases.getD c []).length by omega) 0)
      have hml := mkK_len x ((x.bases.getD c []).getD i 0).toNat
      refine vc_skip ?_
      refine hK11 _ ?_
      refine vc_seq fun K13 hK13 => ?_
      refine vc_block ?_
      refine vc_seq fun K14 hK14 => ?_
      refine vc_draw (by kernel_rfl) ?_
      change VD _ _ _ 11 _ _ _
      refine vd_light 0 rfl rfl rfl (by kernel_rfl) (by kernel_rfl) (by kernel_rfl) (wnt_none rfl) (lt_load_varS rfl rfl Try.underlying25 rfl inf25 sz25 rfl rfl) ?_
      refine vd_light 1 rfl rfl rfl (by kernel_rfl) (by kernel_rfl) (by kernel_rfl) (wnt_none rfl) (lt_fieldAddr_ptr rfl Try.underlying25 rfl inf23 (by rw [sz23]; decide)) ?_
      try simp only [Nat.zero_add]
      refine vd_light 2 rfl rfl rfl (by kernel_rfl) (by kernel_rfl) (by kernel_rfl) (wnt_none rfl) (lt_load_var rfl rfl Try.underlying23 rfl rfl) ?_
      refine vd_light 3 rfl rfl rfl (by kernel_rfl) (by kernel_rfl) (by kernel_rfl) (wnt_none rfl) (lt_move_pv rfl) ?_
      refine vd_light 4 rfl rfl rfl (by kernel_rfl) (by kernel_rfl) (by kernel_rfl) (wnt_none rfl) (lt_index_pv (.sl none 1 []) rfl rfl E23.und inf28 sz28 sd sd) ?_
      simp only [Int.toNat_natCast, Int.toNat_zero, getD_ints, getD_intss, getD_bools, getD_bytes, PV.cells, getD_ops, getD_pairs, getD_insts, getD_attrs, getD_attrss, getD_objs, getD_ordP]
      refine vd_light 5 rfl rfl rfl (by kernel_rfl) (by kernel_rfl) (by kernel_rfl) (wnt_none rfl) (lt_load_adr rfl Try.underlying28 rfl) ?_
      refine vd_light 6 rfl rfl rfl (by kernel_rfl) (by kernel_rfl) (by kernel_rfl) (wnt_none rfl) (lt_move_pv rfl) ?_
      refine vd_light 7 rfl rfl rfl (by kernel_rfl) (by kernel_rfl) (by kernel_rfl) (wnt_none rfl) (lt_index_pv (.int .i64 0) rfl rfl E28.und inf3 sz3 sd sd) ?_
      simp only [Int.toNat_natCast, Int.toNat_zero, getD_ints, getD_intss, getD_bools, getD_bytes, PV.cells, getD_ops, getD_pairs, getD_insts, getD_attrs, getD_attrss, getD_objs, getD_ordP]
      refine vd_light 8 rfl rfl rfl (by kernel_rfl) (by kernel_rfl) (by kernel_rfl) (wnt_none rfl) (lt_load_adr rfl Try.underlying3 rfl) ?_
      refine vd_callR 9 [] rfl rfl (by kernel_rfl) (wnt_none rfl) Try.func73 rfl rfl rfl rfl (ih _ hbi.1 (by omega)) rfl rfl rfl ?_
      rintro _ _ ⟨rfl, rfl⟩
      refine ⟨Nat.le_of_ble_eq_true rfl, ⟨rfl, rfl, rfl, rfl⟩, .inl rfl, ?_⟩
      refine vd_stM ?_
      refine vd_light 10 rfl rfl rfl (by kernel_rfl) (by kernel_rfl) (by kernel_rfl) (wnt_none rfl) (lt_assign_ref rfl) ?_
      refine vd_nil (by kernel_rfl) ?_
      refine hK14 _ ?_
      refine vc_seq fun K15 hK15 => ?_
      refine vc_region ?_
      refine vo_assign_pv rfl rfl ?_
      refine vo_nil ?_
      refine hK15 _ ?_
      refine vc_block ?_
      refine vc_expose 3 (by omega) rfl ?_
      refine vc_stM ?_
      refine vc_weaken 9 rfl ?_
      refine vc_stM ?_
      refine vc_stM ?_
      refine vc_loopE [1, 2, 7, 8, 9] [5, 10] [1] _ _ (fun mz vs rs => ∃ (q : Nat) (Y : List Bool), mz = 10 - q ∧ (q ≤ 10) ∧ (Y.length = 10) ∧ (∀ n : Nat, n < 10 → (Y.getD n false = true ↔ M.getD n false = true ∨ (n < q ∧ absP x ((x.bases.getD c []).getD i 0).toNat n = true ∧ absP x c n = true))) ∧ vs = [.ref 1, i64 q] ∧ rs = [Row.own 4 1 (some false) true ((Y).map boolP)]) (10) rfl rfl (le_len hC rfl) ⟨rfl, rfl, rfl⟩ rfl ⟨0, M, rfl, (Nat.zero_le _), hMl, (fun n hn => ⟨.inl, fun h => by rcases h with h | h; exact h; omega⟩), rfl, rfl⟩ ?_
      rintro mz vs rs - - ⟨q, Y, rfl, hq, hYl, hY, rfl, rfl⟩
      refine vc_stM ?_
      refine vc_seq fun K16 hK16 => ?_
      refine vc_seq fun K17 hK17 => ?_
      refine vc_region ?_
      refine vo_move_pv rfl rfl ?_
      refine vo_binI rfl rfl rfl rfl trivial ?_
      refine vo_nil ?_
      refine hK17 _ ?_
      refine vc_cond rfl (fun hc3 => ?_) (fun hc3 => ?_)
      · try simp only [zq0, zq1, zq2, zq3, zq4, zq5, zq6, zq7, zq8, zq9, zqa, zqb, zqc, zqd, zqe, zqf] at hc3
        refine vc_skip ?_
        refine hK16 _ ?_
        refine vc_seq fun K18 hK18 => ?_
        refine vc_block ?_
        refine vc_seq fun K19 hK19 => ?_
        refine vc_region ?_
        refine vo_move_pv rfl rfl ?_
        refine vo_move_pv rfl rfl ?_
        refine vo_index_pv (.bool false) rfl rfl rfl E85.und inf4 sz4 sd sd ?_
        simp only [Int.toNat_natCast, Int.toNat_zero, getD_ints, getD_intss, getD_bools, getD_bytes, PV.cells, getD_ops, getD_pairs, getD_insts, getD_attrs, getD_attrss, getD_objs, getD_ordP]
        refine vo_load_adr rfl rfl Try.underlying4 rfl ?_
        refine vo_move_pv rfl rfl ?_
        refine vo_split 64 rfl (fun hg4 => ?_) (fun hg4 => ?_)
        · try simp only [zq0, zq1, zq2, zq3, zq4, zq5, zq6, zq7, zq8, zq9, zqa, zqb, zqc, zqd, zqe, zqf] at hg4
          refine vo_guard_on rfl rfl rfl ?_
          refine vo_load_varS rfl rfl rfl Try.underlying25 rfl inf25 sz25 rfl rfl ?_
          refine vo_guard_on rfl rfl rfl ?_
          refine vo_move_pv rfl rfl ?_
          refine vo_guard_on rfl rfl rfl ?_
          refine vo_move_pv rfl rfl ?_
          refine vo_guard_on rfl rfl rfl ?_
          refine vo_call0 Try.func66 rfl rfl rfl rfl (abstractIn_sat (order := ordM x.bases c) hx0 hoa hor) ?_
          rintro _ _ ⟨rfl, rfl⟩
          refine ⟨rfl, rfl, .inl rfl, ?_⟩
          refine vo_stM ?_
          refine vo_pick_t rfl rfl ?_
          refine vo_nil ?_
          refine hK19 _ ?_
          refine vc_cond rfl (fun hc5 => ?_) (fun hc5 => ?_)
          · try simp only [zq0, zq1, zq2, zq3, zq4, zq5, zq6, zq7, zq8, zq9, zqa, zqb, zqc, zqd, zqe, zqf] at hc5
            refine vc_region ?_
            refine vo_move_ref rfl rfl ?_
            refine vo_move_pv rfl rfl ?_
            refine vo_index_ref rfl rfl rfl rfl E85.und inf4 sz4 sd sd ?_
            try simp only [Int.toNat_natCast]
            refine vo_store_own rfl rfl rfl inf4 sz4 (by decide) rfl sd ?_
            try simp only [set_ints, set_intss, set_bools, rep_bools, rep_ints, Int.toNat_natCast, Int.toNat_zero]
            refine vo_stM ?_
            refine vo_nil ?_
            refine hK18 _ ?_
            refine vc_region ?_
            refine vo_move_pv rfl rfl ?_
            refine vo_binI rfl rfl rfl rfl sd ?_
            refine vo_assign_pv rfl rfl ?_
            refine vo_nil ?_
            change againE _ _ _ _ _ _ _ _ _ _
            refine againE_mk rfl rfl rfl rfl rfl rfl ⟨_, ?_, q + 1, Y.set q true, rfl, ?_, ?_, ?_, rfl, rfl⟩
            · omega
            · omega
            · rw [List.length_set]; exact hYl
            · exact mk_yes hY hYl (by omega) (by rw [← mkK_get (by omega)]; assumption) (by assumption)
          · try simp only [zq0, zq1, zq2, zq3, zq4, zq5, zq6, zq7, zq8, zq9, zqa, zqb, zqc, zqd, zqe, zqf] at hc5
            refine vc_skip ?_
            refine hK18 _ ?_
            refine vc_region ?_
            refine vo_move_pv rfl rfl ?_
            refine vo_binI rfl rfl rfl rfl sd ?_
            refine vo_assign_pv rfl rfl ?_
            refine vo_nil ?_
            change againE _ _ _ _ _ _ _ _ _ _
            refine againE_mk rfl rfl rfl rfl rfl rfl ⟨_, ?_, q + 1, Y, rfl, ?_, ?_, ?_, rfl, rfl⟩
            · omega
            · omega
            · exact hYl
            · exact mk_no hY (by intro _; show ¬ isAbs _ _ _ _ = true; rw [Bool.not_eq_true]; assumption)
        · try simp only [zq0, zq1, zq2, zq3, zq4, zq5, zq6, zq7, zq8, zq9, zqa, zqb, zqc, zqd, zqe, zqf] at hg4
          refine vo_guard_off rfl rfl rfl rfl rfl ?_
          refine vo_guard_off rfl rfl rfl rfl rfl ?_
          refine vo_guard_off rfl rfl rfl rfl rfl ?_
          refine vo_guard_off rfl rfl rfl rfl rfl ?_
          refine vo_pick_f rfl rfl ?_
          refine vo_nil ?_
          refine hK19 _ ?_
          refine vc_cond_f rfl ?_
          refine vc_skip ?_
          refine hK18 _ ?_
          refine vc_region ?_
          refine vo_move_pv rfl rfl ?_
          refine vo_binI rfl rfl rfl rfl sd ?_
          refine vo_assign_pv rfl rfl ?_
          refine vo_nil ?_
          change againE _ _ _ _ _ _ _ _ _ _
          refine againE_mk rfl rfl rfl rfl rfl rfl ⟨_, ?_, q + 1, Y, rfl, ?_, ?_, ?_, rfl, rfl⟩
          · omega
          · omega
          · exact hYl
          · exact mk_no hY (by intro h; rw [← mkK_get (show q < 10 by omega)] at h; simp_all)
      · try simp only [zq0, zq1, zq2, zq3, zq4, zq5, zq6, zq7, zq8, zq9, zqa, zqb, zqc, zqd, zqe, zqf] at hc3
        refine vc_exit ?_
        refine hK13 _ ?_
        refine vc_region ?_
        refine vo_move_pv rfl rfl ?_
        refine vo_binI rfl rfl rfl rfl sd ?_
        refine vo_assign_pv rfl rfl ?_
        refine vo_nil ?_
        change againE _ _ _ _ _ _ _ _ _ _
        refine againE_mk rfl rfl rfl rfl rfl rfl ⟨_, ?_, i + 1, Y, rfl, ?_, ?_, ?_, rfl, rfl⟩
        · omega
        · omega
        · exact hYl
        · exact mk_step2 hM (fun n hn => by rw [hY n hn]; exact ⟨fun h => h.imp id fun h => h.2, fun h => h.imp id fun h => ⟨by omega, h⟩⟩)
    · try simp only [zq0, zq1, zq2, zq3, zq4, zq5, zq6, zq7, zq8, zq9, zqa, zqb, zqc, zqd, zqe, zqf] at hc2
      refine vc_exit ?_
      refine hK9 _ ?_
      refine vc_seq fun K20 hK20 => ?_
      refine vc_region ?_
      refine vo_move_ref rfl rfl ?_
      refine vo_assign_ref rfl rfl ?_
      refine vo_nil ?_
      refine hK20 _ ?_
      refine vc_ret ?_
      change retQ _ _ _ _ _
      refine retQ_sel [1] (srows := [_]) (.inr rfl) hC rfl rfl rfl rfl rfl rfl rfl ?_
      have hMK : M = mkK x c := mkK_ext hMl fun n hn => by rw [hM n hn, mk_fin hv hc (show i = (x.bases.getD c []).length by omega)]
      rw [hMK]; exact ⟨rfl, rfl⟩

theorem byBases_sat {x : WorksM} (hx : SK x) (hv : VWorks x) : ∀ (n : Nat), n < x.bases.length → SatAt Try.prog 73 [.pv false (worksP x), i64 n] [] (fun res rows => res = [.ref 0] ∧ rows = [Row.own 4 1 (some false) true ((mkK x n).map boolP)]) := by
 intro n
 induction n using Nat.strongRecOn with
 | ind n ih =>
  intro hn
  refine byBases_step hx hv hn fun b h0 h1 => ?_
  obtain ⟨k, rfl⟩ := Int.eq_ofNat_of_zero_le h0
  exact ih k (by omega) (by omega)
theorem byBases_satI {x : WorksM} {c : Int} (hx : SK x) (hv : VWorks x) (h0 : 0 ≤ c) (h1 : c < x.bases.length) : SatAt Try.prog 73 [.pv false (worksP x), i64 c] [] (fun res rows => res = [.ref 0] ∧ rows = [Row.own 4 1 (some false) true ((mkK x c.toNat).map boolP)]) := by
 obtain ⟨n, rfl⟩ := Int.eq_ofNat_of_zero_le h0
 exact byBases_sat hx hv n (by omega)


theorem specByBases_sat {x : WorksM} {c : Int}  (hx : SK x) : SatAt Try.prog 37 [.pv false (worksP x), i64 c] [] (fun res rows => ∃ nl, res = [.pv true (.sl nl 1 ((absM x c).map intP))] ∧ rows = []) := by
 have hx0 := hx
 obtain ⟨⟨b1, b2⟩, ⟨a1, a2⟩, r1, r2⟩ := hx
 refine sat_entry_G (rs := [(4, none)]) Try.func37 rfl rfl (Nat.le_of_ble_eq_true rfl) (Nat.le_of_ble_eq_true rfl) (resTs1 trivial) fun C hC => ?_
 rw [Try.ntmps37]
 replace hC : C.nb = 0 := hC
 refine vc_seq fun K1 hK1 => ?_
 refine vc_region ?_
 refine vo_box rfl rfl ?_
 refine vo_stM ?_
 refine vo_assign_pv rfl rfl ?_
 refine vo_own_nil 4 E28 rfl ?_
 refine vo_nil ?_
 refine hK1 _ ?_
 refine vc_seq fun K2 hK2 => ?_
 refine vc_seq fun K3 hK3 => ?_
 refine vc_region ?_
 refine vo_load_varS rfl rfl rfl Try.underlying25 rfl inf25 sz25 rfl rfl ?_
 refine vo_call0 Try.func59 rfl rfl rfl rfl (specValidWork_sat hx0) ?_
 rintro _ _ ⟨rfl, rfl⟩
 refine ⟨rfl, rfl, .inl rfl, ?_⟩
 refine vo_stM ?_
 refine vo_not rfl rfl ?_
 refine vo_move_pv rfl rfl ?_
 refine vo_split 11 rfl (fun hg1 => ?_) (fun hg1 => ?_)
 ·try simp only [zq0, zq1, zq2, zq3, zq4, zq5, zq6, zq7, zq8, zq9, zqa, zqb, zqc, zqd, zqe, zqf] at hg1
  refine vo_guard_off rfl rfl rfl rfl rfl ?_
  refine vo_guard_off rfl rfl rfl rfl rfl ?_
  refine vo_guard_off rfl rfl rfl rfl rfl ?_
  refine vo_guard_off rfl rfl rfl rfl rfl ?_
  refine vo_guard_off rfl rfl rfl rfl rfl ?_
  refine vo_guard_off rfl rfl rfl rfl rfl ?_
  refine vo_guard_off rfl rfl rfl rfl rfl ?_
  refine vo_pick_t rfl rfl ?_
  refine vo_nil ?_
  refine hK3 _ ?_
  refine vc_cond_t rfl ?_
  refine vc_seq fun K4 hK4 => ?_
  refine vc_region ?_
  refine vo_assign_pv rfl rfl ?_
  refine vo_own_nil 4 E28 rfl ?_
  refine vo_nil ?_
  refine hK4 _ ?_
  refine vc_expose 2 (by omega) rfl ?_
  refine vc_stM ?_
  refine vc_ret ?_
  change retQ _ _ _ _ _
  refine retQ_sel [] (srows := []) (.inr rfl) hC rfl rfl rfl rfl rfl rfl rfl ?_
  rw [absM_no (by first | exact fun h => absurd h.1 (by assumption) | (intro h; omega))]; exact ⟨_, rfl, rfl⟩
 ·try simp only [zq0, zq1, zq2, zq3, zq4, zq5, zq6, zq7, zq8, zq9, zqa, zqb, zqc, zqd, zqe, zqf] at hg1
  refine vo_guard_on rfl rfl rfl ?_
  refine vo_move_pv rfl rfl ?_
  refine vo_guard_on rfl rfl rfl ?_
  refine vo_fieldAddr_ptr rfl rfl Try.underlying25 rfl inf23 (by rw [sz23]; decide) ?_
  try simp only [Nat.zero_add]
  refine vo_guard_on rfl rfl rfl ?_
  refine vo_load_var rfl rfl rfl Try.underlying23 rfl rfl ?_
  refine vo_guard_on rfl rfl rfl ?_
  refine vo_len_pv rfl rfl Try.underlying23 ?_
  refine vo_guard_on rfl rfl rfl ?_
  refine vo_binI rfl rfl rfl rfl sd ?_
  refine vo_guard_on rfl rfl rfl ?_
  refine vo_call0 Try.func64 rfl rfl rfl rfl inRange_sat ?_
  rintro _ _ ⟨rfl, rfl⟩
  refine ⟨rfl, rfl, .inl rfl, ?_⟩
  refine vo_stM ?_
  refine vo_guard_on rfl rfl rfl ?_
  refine vo_not rfl rfl ?_
  refine vo_pick_f rfl rfl ?_
  refine vo_nil ?_
  refine hK3 _ ?_
  refine vc_cond rfl (fun hc2 => ?_) (fun hc2 => ?_)
  ·try simp only [zq0, zq1, zq2, zq3, zq4, zq5, zq6, zq7, zq8, zq9, zqa, zqb, zqc, zqd, zqe, zqf] at hc2
   refine vc_seq fun K5 hK5 => ?_
   refine vc_region ?_
   refine vo_assign_pv rfl rfl ?_
   refine vo_own_nil 4 E28 rfl ?_
   refine vo_nil ?_
   refine hK5 _ ?_
   refine vc_expose 2 (by omega) rfl ?_
   refine vc_stM ?_
   refine vc_ret ?_
   change retQ _ _ _ _ _
   refine retQ_sel [] (srows := []) (.inr rfl) hC rfl rfl rfl rfl rfl rfl rfl ?_
   rw [absM_no (by first | exact fun h => absurd h.1 (by assumption) | (intro h; omega))]; exact ⟨_, rfl, rfl⟩
  ·try simp only [zq0, zq1, zq2, zq3, zq4, zq5, zq6, zq7, zq8, zq9, zqa, zqb, zqc, zqd, zqe, zqf] at hc2
   have hml := mkK_len x c.toNat
   refine vc_skip ?_
   refine hK2 _ ?_
   refine vc_seq fun K6 hK6 => ?_
   refine vc_region ?_
   refine vo_buildSlice E28 rfl rfl rfl rfl rfl ?_
   refine vo_stM ?_
   refine vo_assign_ref rfl rfl ?_
   refine vo_nil ?_
   refine hK6 _ ?_
   refine vc_seq fun K7 hK7 => ?_
   refine vc_region ?_
   refine vo_load_varS rfl rfl rfl Try.underlying25 rfl inf25 sz25 rfl rfl ?_
   refine vo_move_pv rfl rfl ?_
   refine vo_call [] Try.func73 rfl rfl rfl rfl rfl rfl rfl (byBases_satI hx0 hg1 (by omega) (by omega)) ?_
   rintro _ _ ⟨rfl, rfl⟩
   refine ⟨Nat.le_of_ble_eq_true rfl, ⟨rfl, rfl, rfl, rfl⟩, .inl rfl, ?_⟩
   refine vo_stM ?_
   refine vo_expose 3 (by omega) rfl ?_
   refine vo_stM ?_
   refine vo_weaken 23 rfl ?_
   refine vo_stM ?_
   refine vo_assign_pv rfl rfl ?_
   refine vo_nil ?_
   refine hK7 _ ?_
   refine vc_seq fun K8 hK8 => ?_
   refine vc_seq fun K9 hK9 => ?_
   refine vc_region ?_
   refine vo_assign_pv rfl rfl ?_
   refine vo_nil ?_
   refine hK9 _ ?_
   refine vc_block ?_
   refine vc_stM ?_
   refine vc_loopE [6] [5, 7] [2] _ _ (fun mz vs rs => ∃ (k : Nat), mz = 10 - k ∧ (k ≤ 10) ∧ vs = [.ref 2, i64 k] ∧ rs = [Row.own 3 1 (some false) true ((selI (absP x c.toNat) (k)).map intP)]) (10) rfl rfl (le_len hC rfl) ⟨rfl, rfl, rfl⟩ rfl ⟨0, rfl, Nat.zero_le _, rfl, rfl⟩ ?_
   rintro mz vs rs - - ⟨k, rfl, hk, rfl, rfl⟩
   refine vc_stM ?_
   have hsl := selI_len (absP x c.toNat) k
   refine vc_seq fun K10 hK10 => ?_
   refine vc_seq fun K11 hK11 => ?_
   refine vc_region ?_
   refine vo_move_pv rfl rfl ?_
   refine vo_move_pv rfl rfl ?_
   refine vo_len_pv rfl rfl Try.underlying85 ?_
   refine vo_binI rfl rfl rfl rfl trivial ?_
   refine vo_nil ?_
   refine hK11 _ ?_
   refine vc_cond rfl (fun hc3 => ?_) (fun hc3 => ?_)
   ·try simp only [zq0, zq1, zq2, zq3, zq4, zq5, zq6, zq7, zq8, zq9, zqa, zqb, zqc, zqd, zqe, zqf] at hc3
    refine vc_skip ?_
    refine hK10 _ ?_
    refine vc_seq fun K12 hK12 => ?_
    refine vc_block ?_
    refine vc_seq fun K13 hK13 => ?_
    refine vc_region ?_
    refine vo_move_pv rfl rfl ?_
    refine vo_move_pv rfl rfl ?_
    refine vo_index_pv (.bool false) rfl rfl rfl E85.und inf4 sz4 sd sd ?_
    simp only [Int.toNat_natCast, Int.toNat_zero, getD_ints, getD_intss, getD_bools, getD_bytes, PV.cells, getD_ops, getD_pairs, getD_insts, getD_attrs, getD_attrss, getD_objs, getD_ordP]
    refine vo_load_adr rfl rfl Try.underlying4 rfl ?_
    refine vo_nil ?_
    refine hK13 _ ?_
    refine vc_cond rfl (fun hc4 => ?_) (fun hc4 => ?_)
    ·try simp only [zq0, zq1, zq2, zq3, zq4, zq5, zq6, zq7, zq8, zq9, zqa, zqb, zqc, zqd, zqe, zqf] at hc4
     refine vc_region ?_
     refine vo_move_ref rfl rfl ?_
     refine vo_move_pv rfl rfl ?_
     refine vo_buildSlice E28 rfl rfl rfl rfl rfl ?_
     refine vo_stM ?_
     refine vo_append E28 rfl (by omega) rfl rfl rfl sd sd ?_
     refine vo_stM ?_
     try simp only [app_ints, app_intss, app_bools]
     refine vo_assign_ref rfl rfl ?_
     refine vo_nil ?_
     refine hK12 _ ?_
     refine vc_region ?_
     refine vo_move_pv rfl rfl ?_
     refine vo_binI rfl rfl rfl rfl sd ?_
     refine vo_assign_pv rfl rfl ?_
     refine vo_nil ?_
     change againE _ _ _ _ _ _ _ _ _ _
     refine againE_mk rfl rfl rfl rfl rfl rfl ⟨_, ?_, k + 1, rfl, ?_, rfl, (congrArg (fun l => [Row.own 3 1 (some false) true (List.map intP l)]) (show selI (absP x c.toNat) k ++ [(k : Int)] = selI (absP x c.toNat) (k + 1) by rw [selI_yes (by rw [← mkK_get (by omega)]; assumption)]))⟩
     ·omega
     ·omega
    ·try simp only [zq0, zq1, zq2, zq3, zq4, zq5, zq6, zq7, zq8, zq9, zqa, zqb, zqc, zqd, zqe, zqf] at hc4
     refine vc_skip ?_
     refine hK12 _ ?_
     refine vc_region ?_
     refine vo_move_pv rfl rfl ?_
     refine vo_binI rfl rfl rfl rfl sd ?_
     refine vo_assign_pv rfl rfl ?_
     refine vo_nil ?_
     change againE _ _ _ _ _ _ _ _ _ _
     refine againE_mk rfl rfl rfl rfl rfl rfl ⟨_, ?_, k + 1, rfl, ?_, rfl, (congrArg (fun l => [Row.own 3 1 (some false) true (List.map intP l)]) (show selI (absP x c.toNat) k = selI (absP x c.toNat) (k + 1) by rw [selI_no (by rw [← mkK_get (by omega), Bool.not_eq_true]; assumption)]))⟩
     ·omega
     ·omega
   ·try simp only [zq0, zq1, zq2, zq3, zq4, zq5, zq6, zq7, zq8, zq9, zqa, zqb, zqc, zqd, zqe, zqf] at hc3
    refine vc_exit ?_
    refine hK8 _ ?_
    refine vc_seq fun K14 hK14 => ?_
    refine vc_region ?_
    refine vo_move_ref rfl rfl ?_
    refine vo_assign_ref rfl rfl ?_
    refine vo_nil ?_
    refine hK14 _ ?_
    refine vc_expose 2 (by omega) rfl ?_
    refine vc_stM ?_
    refine vc_ret ?_
    change retQ _ _ _ _ _
    refine retQ_sel [] (srows := []) (.inr rfl) hC rfl rfl rfl rfl rfl rfl rfl ?_
    rw [absM_yes (by first | assumption | exact ⟨by assumption, by omega, by omega⟩), show k = 10 by omega]; exact ⟨_, rfl, rfl⟩

set_option maxHeartbeats 4000000 in
theorem FnExactAbstractByBases_sat {a : WorksM} {c : Int}  (ha : GK63 a) : SatAt Try.prog 9 [.pv false (worksP a), i64 c] [] (fun res rows => res = [bo true] ∧ rows = []) := by
 refine sat_entry_G (rs := [(4, none)]) Try.func9 rfl rfl (Nat.le_of_ble_eq_true rfl) (Nat.le_of_ble_eq_true rfl) (resTs1 trivial) fun C hC => ?_
 rw [Try.ntmps9]
 replace hC : C.nb = 0 := hC
 refine vc_seq fun K1 hK1 => ?_
 refine vc_region ?_
 refine vo_box rfl rfl ?_
 refine vo_stM ?_
 refine vo_assign_pv rfl rfl ?_
 refine vo_nil ?_
 refine hK1 _ ?_
 refine vc_seq fun K2 hK2 => ?_
 refine vc_region ?_
 refine vo_assign_pv rfl rfl ?_
 refine vo_nil ?_
 refine hK2 _ ?_
 refine vc_seq fun K3 hK3 => ?_
 refine vc_region ?_
 refine vo_load_varS rfl rfl rfl Try.underlying32 rfl inf32 sz32 rfl rfl ?_
 refine vo_move_pv rfl rfl ?_
 refine vo_call0 Try.func20 rfl rfl rfl rfl (szWorks_sat ha (by omega) (by omega)) ?_
 rintro _ _ ⟨v, hv, rfl, rfl⟩
 refine ⟨rfl, rfl, .inl rfl, ?_⟩
 refine vo_stM ?_
 refine vo_assign_pv rfl rfl ?_
 refine vo_nil ?_
 refine hK3 _ ?_
 refine vc_seq fun K4 hK4 => ?_
 refine vc_seq fun K5 hK5 => ?_
 refine vc_region ?_
 refine vo_move_pv rfl rfl ?_
 refine vo_binI rfl rfl rfl rfl trivial ?_
 refine vo_nil ?_
 refine hK5 _ ?_
 refine vc_cond rfl (fun hc1 => ?_) (fun hc1 => ?_)
 ·try simp only [zq0, zq1, zq2, zq3, zq4, zq5, zq6, zq7, zq8, zq9, zqa, zqb, zqc, zqd, zqe, zqf] at hc1
  refine vc_seq fun K6 hK6 => ?_
  refine vc_region ?_
  refine vo_assign_pv rfl rfl ?_
  refine vo_nil ?_
  refine hK6 _ ?_
  refine vc_ret ?_
  (try clear hK6); (try clear hK5); (try clear hK4); (try clear hK3); (try clear hK2); (try clear hK1)
  change retQ _ _ _ _ _
  refine retQ_sel [] (srows := []) (.inr rfl) hC rfl rfl rfl rfl rfl rfl rfl ?_
  exact ⟨rfl, rfl⟩
 ·try simp only [zq0, zq1, zq2, zq3, zq4, zq5, zq6, zq7, zq8, zq9, zqa, zqb, zqc, zqd, zqe, zqf] at hc1
  rcases hv with hv | hv
  ·omega
  have hs := hv.2.2
  have hs2 := hs
  obtain ⟨⟨b1, b2⟩, ⟨a1, a2⟩, r1, r2⟩ := hs2
  refine vc_skip ?_
  refine hK4 _ ?_
  refine vc_seq fun K7 hK7 => ?_
  refine vc_region ?_
  refine vo_load_varS rfl rfl rfl Try.underlying32 rfl inf32 sz32 rfl rfl ?_
  refine vo_call [] Try.func21 rfl rfl rfl rfl rfl rfl rfl (toWorksT_sat hs) ?_
  rintro _ _ ⟨rfl, rfl⟩
  refine ⟨Nat.le_of_ble_eq_true rfl, ⟨rfl, rfl, rfl, rfl⟩, .inl rfl, ?_⟩
  refine vo_stM ?_
  refine vo_move_pv rfl rfl ?_
  refine vo_call [] Try.func37 rfl rfl rfl rfl rfl rfl rfl (specByBases_sat hs) ?_
  rintro _ _ ⟨nlp, rfl, rfl⟩
  refine ⟨Nat.le_of_ble_eq_true rfl, ⟨rfl, rfl, rfl, rfl⟩, .inr ⟨rfl, rfl⟩, ?_⟩
  refine vo_stM ?_
  refine vo_assign_pv rfl rfl ?_
  refine vo_nil ?_
  refine hK7 _ ?_
  refine vc_seq fun K8 hK8 => ?_
  refine vc_region ?_
  refine vo_load_varS rfl rfl rfl Try.underlying32 rfl inf32 sz32 rfl rfl ?_
  refine vo_call [] Try.func21 rfl rfl rfl rfl rfl rfl rfl (toWorksT_sat hs) ?_
  rintro _ _ ⟨rfl, rfl⟩
  refine ⟨Nat.le_of_ble_eq_true rfl, ⟨rfl, rfl, rfl, rfl⟩, .inl rfl, ?_⟩
  refine vo_stM ?_
  refine vo_alloc Z25 rfl ?_
  refine vo_stM ?_
  refine vo_store_varG rfl rfl rfl rfl inf25 sz25 rfl ?_
  refine vo_stM ?_
  refine vo_nil ?_
  refine hK8 _ ?_
  refine vc_seq fun K9 hK9 => ?_
  refine vc_region ?_
  refine vo_load_varG rfl rfl rfl Try.underlying25 rfl inf25 sz25 rfl ?_
  refine vo_stM ?_
  refine vo_move_pv rfl rfl ?_
  refine vo_call [] Try.func27 rfl rfl rfl rfl rfl rfl rfl (implByBases_sat hs) ?_
  rintro _ _ ⟨Rg, nlg, rfl, rfl⟩
  refine ⟨Nat.le_of_ble_eq_true rfl, ⟨rfl, rfl, rfl, rfl⟩, .inr ⟨rfl, rfl⟩, ?_⟩
  refine vo_stM ?_
  refine vo_assign_ref rfl rfl ?_
  refine vo_nil ?_
  refine hK9 _ ?_
  refine vc_seq fun K10 hK10 => ?_
  refine vc_seq fun K11 hK11 => ?_
  refine vc_region ?_
  refine vo_move_ref rfl rfl ?_
  refine vo_move_pv rfl rfl ?_
  refine vo_call0 Try.func30 rfl rfl rfl rfl (eqIntS_sat (a := (absM a c)) (b := (absM a c)) (by have := absM_len (x := a) (c := c); omega) (by have := absM_len (x := a) (c := c); omega)) ?_
  rintro _ _ ⟨rfl, rfl⟩
  refine ⟨rfl, rfl, .inr rfl, ?_⟩
  refine vo_stM ?_
  refine vo_not rfl rfl ?_
  refine vo_nil ?_
  refine hK11 _ ?_
  refine vc_cond rfl (fun hc2 => ?_) (fun hc2 => ?_)
  ·try simp only [zq0, zq1, zq2, zq3, zq4, zq5, zq6, zq7, zq8, zq9, zqa, zqb, zqc, zqd, zqe, zqf] at hc2
   refine vc_seq fun K12 hK12 => ?_
   refine vc_region ?_
   refine vo_assign_pv rfl rfl ?_
   refine vo_nil ?_
   refine hK12 _ ?_
   refine vc_ret ?_
   (try clear hK12); (try clear hK11); (try clear hK10); (try clear hK9); (try clear hK8); (try clear hK7); (try clear hK6); (try clear hK5); (try clear hK4); (try clear hK3); (try clear hK2); (try clear hK1)
   change retQ _ _ _ _ _
   refine retQ_sel [] (srows := []) (.inr rfl) hC rfl rfl rfl rfl rfl rfl rfl ?_
   first | exact ⟨rfl, rfl⟩ | (exfalso; simp_all; done) | (exfalso; omega)
  ·try simp only [zq0, zq1, zq2, zq3, zq4, zq5, zq6, zq7, zq8, zq9, zqa, zqb, zqc, zqd, zqe, zqf] at hc2
   refine vc_skip ?_
   refine hK10 _ ?_
   refine vc_seq fun K13 hK13 => ?_
   refine vc_seq fun K14 hK14 => ?_
   refine vc_draw (by kernel_rfl) ?_
   change VD _ _ _ 5 _ _ _
   refine vd_light 0 rfl rfl rfl (by kernel_rfl) (by kernel_rfl) (by kernel_rfl) (wnt_none rfl) (lt_load_varG rfl rfl Try.underlying25 rfl inf25 sz25 rfl) ?_
   refine vd_stM ?_
   refine vd_light 1 rfl rfl rfl (by kernel_rfl) (by kernel_rfl) (by kernel_rfl) (wnt_none rfl) (lt_load_varS rfl rfl Try.underlying32 rfl inf32 sz32 rfl rfl) ?_
   refine vd_callR 2 [] rfl rfl (by kernel_rfl) (wnt_none rfl) Try.func21 rfl rfl rfl rfl (toWorksT_sat hs) rfl rfl rfl ?_
   rintro _ _ ⟨rfl, rfl⟩
   refine ⟨Nat.le_of_ble_eq_true rfl, ⟨rfl, rfl, rfl, rfl⟩, .inl rfl, ?_⟩
   refine vd_stM ?_
   refine vd_callR 3 [] rfl rfl (by kernel_rfl) (wnt_none rfl) Try.func22 rfl rfl rfl rfl (eqWorks_sat hs hs) rfl rfl rfl ?_
   rintro _ _ ⟨rfl, rfl⟩
   refine ⟨Nat.le_of_ble_eq_true rfl, ⟨rfl, rfl, rfl, rfl⟩, .inr ⟨rfl, rfl⟩, ?_⟩
   refine vd_stM ?_
   refine vd_light 4 rfl rfl rfl (by kernel_rfl) (by kernel_rfl) (by kernel_rfl) (wnt_none rfl) (lt_not rfl) ?_
   refine vd_nil (by kernel_rfl) ?_
   refine hK14 _ ?_
   refine vc_cond rfl (fun hc3 => ?_) (fun hc3 => ?_)
   ·try simp only [zq0, zq1, zq2, zq3, zq4, zq5, zq6, zq7, zq8, zq9, zqa, zqb, zqc, zqd, zqe, zqf] at hc3
    refine vc_seq fun K15 hK15 => ?_
    refine vc_region ?_
    refine vo_assign_pv rfl rfl ?_
    refine vo_nil ?_
    refine hK15 _ ?_
    refine vc_ret ?_
    (try clear hK15); (try clear hK14); (try clear hK13); (try clear hK12); (try clear hK11); (try clear hK10); (try clear hK9); (try clear hK8); (try clear hK7); (try clear hK6); (try clear hK5); (try clear hK4); (try clear hK3); (try clear hK2); (try clear hK1)
    change retQ _ _ _ _ _
    refine retQ_sel [] (srows := []) (.inr rfl) hC rfl rfl rfl rfl rfl rfl rfl ?_
    first | exact ⟨rfl, rfl⟩ | (exfalso; simp_all; done) | (exfalso; omega)
   ·try simp only [zq0, zq1, zq2, zq3, zq4, zq5, zq6, zq7, zq8, zq9, zqa, zqb, zqc, zqd, zqe, zqf] at hc3
    refine vc_skip ?_
    refine hK13 _ ?_
    refine vc_seq fun K16 hK16 => ?_
    refine vc_region ?_
    refine vo_assign_pv rfl rfl ?_
    refine vo_nil ?_
    refine hK16 _ ?_
    refine vc_seq fun K17 hK17 => ?_
    refine vc_region ?_
    refine vo_load_varG rfl rfl rfl Try.underlying25 rfl inf25 sz25 rfl ?_
    refine vo_stM ?_
    refine vo_move_pv rfl rfl ?_
    refine vo_inline [1, 2, 6, 8] [(4, none)] Try.func31 rfl rfl rfl rfl (Nat.le_of_ble_eq_true rfl) (resTs1 trivial) rfl rfl fun us1 => ?_
    rw [Try.ntmps31]
    refine vc_stM ?_
    refine vc_seq fun K18 hK18 => ?_
    refine vc_region ?_
    refine vo_boxG rfl rfl rfl ?_
    refine vo_stM ?_
    refine vo_assign_pv rfl rfl ?_
    refine vo_nil ?_
    refine hK18 _ ?_
    refine vc_seq fun K19 hK19 => ?_
    refine vc_region ?_
    refine vo_fieldAddr_ptr rfl rfl Try.underlying25 rfl inf23 (by rw [sz23]; decide) ?_
    try simp only [Nat.zero_add]
    refine vo_load_var rfl rfl rfl Try.underlying23 rfl rfl ?_
    refine vo_move_pv rfl rfl ?_
    refine vo_call [4] Try.func70 rfl rfl rfl rfl rfl rfl rfl (markIntSS_sat (L := a.bases) (by omega) b2 (by omega)) ?_
    rintro _ _ ⟨w0, L0, ⟨hw0, hx0⟩, rfl, rfl⟩
    refine ⟨Nat.le_of_ble_eq_true rfl, ⟨rfl, rfl, rfl, rfl⟩, .inl rfl, ?_⟩
    refine vo_stM ?_
    refine vo_assign_pv rfl rfl ?_
    refine vo_nil ?_
    refine hK19 _ ?_
    refine vc_seq fun K20 hK20 => ?_
    refine vc_region ?_
    refine vo_fieldAddr_ptr rfl rfl Try.underlying25 rfl inf23 (by rw [sz23]; decide) ?_
    try simp only [Nat.zero_add]
    refine vo_load_var rfl rfl rfl Try.underlying23 rfl rfl ?_
    refine vo_move_pv rfl rfl ?_
    refine vo_call [5] Try.func70 rfl rfl rfl rfl rfl rfl rfl (markIntSS_sat (L := a.abs) (by omega) a2 (by omega)) ?_
    rintro _ _ ⟨w1, L1, ⟨hw1, hx1⟩, rfl, rfl⟩
    refine ⟨Nat.le_of_ble_eq_true rfl, ⟨rfl, rfl, rfl, rfl⟩, .inl rfl, ?_⟩
    refine vo_stM ?_
    refine vo_assign_pv rfl rfl ?_
    refine vo_nil ?_
    refine hK20 _ ?_
    refine vc_seq fun K21 hK21 => ?_
    refine vc_region ?_
    refine vo_fieldAddr_ptr rfl rfl Try.underlying25 rfl inf23 (by rw [sz23]; decide) ?_
    try simp only [Nat.zero_add]
    refine vo_load_var rfl rfl rfl Try.underlying23 rfl rfl ?_
    refine vo_move_pv rfl rfl ?_
    refine vo_call [6] Try.func70 rfl rfl rfl rfl rfl rfl rfl (markIntSS_sat (L := a.real) (by omega) r2 (by omega)) ?_
    rintro _ _ ⟨w2, L2, ⟨hw2, hx2⟩, rfl, rfl⟩
    refine ⟨Nat.le_of_ble_eq_true rfl, ⟨rfl, rfl, rfl, rfl⟩, .inl rfl, ?_⟩
    refine vo_stM ?_
    refine vo_assign_pv rfl rfl ?_
    refine vo_nil ?_
    refine hK21 _ ?_
    refine vc_seq fun K22 hK22 => ?_
    refine vc_region ?_
    refine vo_move_pv rfl rfl ?_
    refine vo_assign_pv rfl rfl ?_
    refine vo_nil ?_
    refine hK22 _ ?_
    refine vc_ret ?_
    refine inQ_ret rfl rfl ?_
    refine vo_stM ?_
    refine vo_assign_pv rfl rfl ?_
    refine vo_nil ?_
    refine hK17 _ ?_
    refine vc_seq fun K23 hK23 => ?_
    refine vc_seq fun K24 hK24 => ?_
    refine vc_region ?_
    refine vo_move_pv rfl rfl ?_
    refine vo_binI rfl rfl rfl rfl trivial ?_
    refine vo_move_pv rfl rfl ?_
    refine vo_split 41 rfl (fun hg4 => ?_) (fun hg4 => ?_)
    ·try simp only [zq0, zq1, zq2, zq3, zq4, zq5, zq6, zq7, zq8, zq9, zqa, zqb, zqc, zqd, zqe, zqf] at hg4
     refine vo_guard_off rfl rfl rfl rfl rfl ?_
     refine vo_guard_off rfl rfl rfl rfl rfl ?_
     refine vo_guard_off rfl rfl rfl rfl rfl ?_
     refine vo_guard_off rfl rfl rfl rfl rfl ?_
     refine vo_pick_t rfl rfl ?_
     refine vo_nil ?_
     refine hK24 _ ?_
     refine vc_cond_t rfl ?_
     refine vc_seq fun K25 hK25 => ?_
     refine vc_region ?_
     refine vo_assign_pv rfl rfl ?_
     refine vo_nil ?_
     refine hK25 _ ?_
     refine vc_ret ?_
     (try clear hK25); (try clear hK24); (try clear hK23); (try clear hK22); (try clear hK21); (try clear hK20); (try clear hK19); (try clear hK18); (try clear hK17); (try clear hK16); (try clear hK15); (try clear hK14); (try clear hK13); (try clear hK12); (try clear hK11); (try clear hK10); (try clear hK9); (try clear hK8); (try clear hK7); (try clear hK6); (try clear hK5); (try clear hK4); (try clear hK3); (try clear hK2); (try clear hK1)
     change retQ _ _ _ _ _
     refine retQ_sel [] (srows := []) (.inr rfl) hC rfl rfl rfl rfl rfl rfl rfl ?_
     first | exact ⟨rfl, rfl⟩ | (exfalso; simp_all; done) | (exfalso; omega)
    ·try simp only [zq0, zq1, zq2, zq3, zq4, zq5, zq6, zq7, zq8, zq9, zqa, zqb, zqc, zqd, zqe, zqf] at hg4
     refine vo_guard_on rfl rfl rfl ?_
     refine vo_move_ref rfl rfl ?_
     refine vo_guard_on rfl rfl rfl ?_
     refine vo_move_pv rfl rfl ?_
     refine vo_guard_on rfl rfl rfl ?_
     refine vo_call0 Try.func30 rfl rfl rfl rfl (eqIntS_sat (a := (absM a c)) (b := (absM a c)) (by have := absM_len (x := a) (c := c); omega) (by have := absM_len (x := a) (c := c); omega)) ?_
     rintro _ _ ⟨rfl, rfl⟩
     refine ⟨rfl, rfl, .inr rfl, ?_⟩
     refine vo_stM ?_
     refine vo_guard_on rfl rfl rfl ?_
     refine vo_not rfl rfl ?_
     refine vo_pick_f rfl rfl ?_
     refine vo_nil ?_
     refine hK24 _ ?_
     refine vc_cond rfl (fun hc5 => ?_) (fun hc5 => ?_)
     ·try simp only [zq0, zq1, zq2, zq3, zq4, zq5, zq6, zq7, zq8, zq9, zqa, zqb, zqc, zqd, zqe, zqf] at hc5
      refine vc_seq fun K26 hK26 => ?_
      refine vc_region ?_
      refine vo_assign_pv rfl rfl ?_
      refine vo_nil ?_
      refine hK26 _ ?_
      refine vc_ret ?_
      (try clear hK26); (try clear hK25); (try clear hK24); (try clear hK23); (try clear hK22); (try clear hK21); (try clear hK20); (try clear hK19); (try clear hK18); (try clear hK17); (try clear hK16); (try clear hK15); (try clear hK14); (try clear hK13); (try clear hK12); (try clear hK11); (try clear hK10); (try clear hK9); (try clear hK8); (try clear hK7); (try clear hK6); (try clear hK5); (try clear hK4); (try clear hK3); (try clear hK2); (try clear hK1)
      change retQ _ _ _ _ _
      refine retQ_sel [] (srows := []) (.inr rfl) hC rfl rfl rfl rfl rfl rfl rfl ?_
      first | exact ⟨rfl, rfl⟩ | (exfalso; simp_all; done) | (exfalso; omega)
     ·try simp only [zq0, zq1, zq2, zq3, zq4, zq5, zq6, zq7, zq8, zq9, zqa, zqb, zqc, zqd, zqe, zqf] at hc5
      refine vc_skip ?_
      refine hK23 _ ?_
      refine vc_seq fun K27 hK27 => ?_
      refine vc_region ?_
      refine vo_assign_pv rfl rfl ?_
      refine vo_nil ?_
      refine hK27 _ ?_
      refine vc_seq fun K28 hK28 => ?_
      refine vc_region ?_
      refine vo_move_ref rfl rfl ?_
      refine vo_move_pv rfl rfl ?_
      refine vo_call [8] Try.func32 rfl rfl rfl rfl rfl rfl rfl (markIntS_sat (a := (absM a c)) (by have := absM_len (x := a) (c := c); omega) (by omega)) ?_
      rintro _ _ ⟨_, rfl, -, -, rfl, rfl⟩
      refine ⟨Nat.le_of_ble_eq_true rfl, ⟨rfl, rfl, rfl, rfl⟩, .inl rfl, ?_⟩
      refine vo_stM ?_
      refine vo_assign_pv rfl rfl ?_
      refine vo_nil ?_
      refine hK28 _ ?_
      refine vc_seq fun K29 hK29 => ?_
      refine vc_region ?_
      refine vo_assign_pv rfl rfl ?_
      refine vo_nil ?_
      refine hK29 _ ?_
      refine vc_seq fun K30 hK30 => ?_
      refine vc_region ?_
      refine vo_move_ref rfl rfl ?_
      refine vo_move_pv rfl rfl ?_
      refine vo_call0 Try.func33 rfl rfl rfl rfl (heldIntS_sat (k := 1) (n := (absM a c).length) (by have := absM_len (x := a) (c := c); omega) (by omega)) ?_
      rintro _ _ ⟨rfl, rfl⟩
      refine ⟨rfl, rfl, .inr rfl, ?_⟩
      refine vo_stM ?_
      refine vo_assign_pv rfl rfl ?_
      refine vo_nil ?_
      refine hK30 _ ?_
      refine vc_seq fun K31 hK31 => ?_
      refine vc_seq fun K32 hK32 => ?_
      refine vc_region ?_
      refine vo_move_pv rfl rfl ?_
      refine vo_binI rfl rfl rfl rfl trivial ?_
      refine vo_nil ?_
      refine hK32 _ ?_
      refine vc_cond rfl (fun hc6 => ?_) (fun hc6 => ?_)
      ·try simp only [zq0, zq1, zq2, zq3, zq4, zq5, zq6, zq7, zq8, zq9, zqa, zqb, zqc, zqd, zqe, zqf] at hc6
       refine vc_seq fun K33 hK33 => ?_
       refine vc_region ?_
       refine vo_assign_pv rfl rfl ?_
       refine vo_nil ?_
       refine hK33 _ ?_
       refine vc_ret ?_
       (try clear hK33); (try clear hK32); (try clear hK31); (try clear hK30); (try clear hK29); (try clear hK28); (try clear hK27); (try clear hK26); (try clear hK25); (try clear hK24); (try clear hK23); (try clear hK22); (try clear hK21); (try clear hK20); (try clear hK19); (try clear hK18); (try clear hK17); (try clear hK16); (try clear hK15); (try clear hK14); (try clear hK13); (try clear hK12); (try clear hK11); (try clear hK10); (try clear hK9); (try clear hK8); (try clear hK7); (try clear hK6); (try clear hK5); (try clear hK4); (try clear hK3); (try clear hK2); (try clear hK1)
       change retQ _ _ _ _ _
       refine retQ_sel [] (srows := []) (.inr rfl) hC rfl rfl rfl rfl rfl rfl rfl ?_
       first | exact ⟨rfl, rfl⟩ | (exfalso; simp_all; done) | (exfalso; omega)
      ·try simp only [zq0, zq1, zq2, zq3, zq4, zq5, zq6, zq7, zq8, zq9, zqa, zqb, zqc, zqd, zqe, zqf] at hc6
       refine vc_skip ?_
       refine hK31 _ ?_
       refine vc_seq fun K34 hK34 => ?_
       refine vc_seq fun K35 hK35 => ?_
       refine vc_region ?_
       refine vo_move_pv rfl rfl ?_
       refine vo_move_pv rfl rfl ?_
       refine vo_binI rfl rfl rfl rfl trivial ?_
       refine vo_nil ?_
       refine hK35 _ ?_
       refine vc_cond rfl (fun hc7 => ?_) (fun hc7 => ?_)
       ·try simp only [zq0, zq1, zq2, zq3, zq4, zq5, zq6, zq7, zq8, zq9, zqa, zqb, zqc, zqd, zqe, zqf] at hc7
        refine vc_seq fun K36 hK36 => ?_
        refine vc_region ?_
        refine vo_assign_pv rfl rfl ?_
        refine vo_nil ?_
        refine hK36 _ ?_
        refine vc_ret ?_
        (try clear hK36); (try clear hK35); (try clear hK34); (try clear hK33); (try clear hK32); (try clear hK31); (try clear hK30); (try clear hK29); (try clear hK28); (try clear hK27); (try clear hK26); (try clear hK25); (try clear hK24); (try clear hK23); (try clear hK22); (try clear hK21); (try clear hK20); (try clear hK19); (try clear hK18); (try clear hK17); (try clear hK16); (try clear hK15); (try clear hK14); (try clear hK13); (try clear hK12); (try clear hK11); (try clear hK10); (try clear hK9); (try clear hK8); (try clear hK7); (try clear hK6); (try clear hK5); (try clear hK4); (try clear hK3); (try clear hK2); (try clear hK1)
        change retQ _ _ _ _ _
        refine retQ_sel [] (srows := []) (.inr rfl) hC rfl rfl rfl rfl rfl rfl rfl ?_
        first | exact ⟨rfl, rfl⟩ | (exfalso; simp_all; done) | (exfalso; omega)
       ·try simp only [zq0, zq1, zq2, zq3, zq4, zq5, zq6, zq7, zq8, zq9, zqa, zqb, zqc, zqd, zqe, zqf] at hc7
        refine vc_skip ?_
        refine hK34 _ ?_
        refine vc_seq fun K37 hK37 => ?_
        refine vc_region ?_
        refine vo_load_varS rfl rfl rfl Try.underlying32 rfl inf32 sz32 rfl rfl ?_
        refine vo_call [] Try.func21 rfl rfl rfl rfl rfl rfl rfl (toWorksT_sat hs) ?_
        rintro _ _ ⟨rfl, rfl⟩
        refine ⟨Nat.le_of_ble_eq_true rfl, ⟨rfl, rfl, rfl, rfl⟩, .inl rfl, ?_⟩
        refine vo_stM ?_
        refine vo_move_pv rfl rfl ?_
        refine vo_call [] Try.func27 rfl rfl rfl rfl rfl rfl rfl (implByBases_sat hs) ?_
        rintro _ _ ⟨Rg, nlg, rfl, rfl⟩
        refine ⟨Nat.le_of_ble_eq_true rfl, ⟨rfl, rfl, rfl, rfl⟩, .inr ⟨rfl, rfl⟩, ?_⟩
        refine vo_stM ?_
        refine vo_assign_ref rfl rfl ?_
        refine vo_nil ?_
        refine hK37 _ ?_
        refine vc_seq fun K38 hK38 => ?_
        refine vc_seq fun K39 hK39 => ?_
        refine vc_region ?_
        refine vo_move_ref rfl rfl ?_
        refine vo_move_pv rfl rfl ?_
        refine vo_call0 Try.func30 rfl rfl rfl rfl (eqIntS_sat (a := (absM a c)) (b := (absM a c)) (by have := absM_len (x := a) (c := c); omega) (by have := absM_len (x := a) (c := c); omega)) ?_
        rintro _ _ ⟨rfl, rfl⟩
        refine ⟨rfl, rfl, .inr rfl, ?_⟩
        refine vo_stM ?_
        refine vo_not rfl rfl ?_
        refine vo_nil ?_
        refine hK39 _ ?_
        refine vc_cond rfl (fun hc8 => ?_) (fun hc8 => ?_)
        ·try simp only [zq0, zq1, zq2, zq3, zq4, zq5, zq6, zq7, zq8, zq9, zqa, zqb, zqc, zqd, zqe, zqf] at hc8
         refine vc_seq fun K40 hK40 => ?_
         refine vc_region ?_
         refine vo_assign_pv rfl rfl ?_
         refine vo_nil ?_
         refine hK40 _ ?_
         refine vc_ret ?_
         (try clear hK40); (try clear hK39); (try clear hK38); (try clear hK37); (try clear hK36); (try clear hK35); (try clear hK34); (try clear hK33); (try clear hK32); (try clear hK31); (try clear hK30); (try clear hK29); (try clear hK28); (try clear hK27); (try clear hK26); (try clear hK25); (try clear hK24); (try clear hK23); (try clear hK22); (try clear hK21); (try clear hK20); (try clear hK19); (try clear hK18); (try clear hK17); (try clear hK16); (try clear hK15); (try clear hK14); (try clear hK13); (try clear hK12); (try clear hK11); (try clear hK10); (try clear hK9); (try clear hK8); (try clear hK7); (try clear hK6); (try clear hK5); (try clear hK4); (try clear hK3); (try clear hK2); (try clear hK1)
         change retQ _ _ _ _ _
         refine retQ_sel [] (srows := []) (.inr rfl) hC rfl rfl rfl rfl rfl rfl rfl ?_
         first | exact ⟨rfl, rfl⟩ | (exfalso; simp_all; done) | (exfalso; omega)
        ·try simp only [zq0, zq1, zq2, zq3, zq4, zq5, zq6, zq7, zq8, zq9, zqa, zqb, zqc, zqd, zqe, zqf] at hc8
         refine vc_skip ?_
         refine hK38 _ ?_
         refine vc_seq fun K41 hK41 => ?_
         refine vc_region ?_
         refine vo_assign_pv rfl rfl ?_
         refine vo_nil ?_
         refine hK41 _ ?_
         refine vc_seq fun K42 hK42 => ?_
         refine vc_region ?_
         refine vo_move_ref rfl rfl ?_
         refine vo_move_pv rfl rfl ?_
         refine vo_call0 Try.func33 rfl rfl rfl rfl (heldIntS_sat (k := 1) (n := (absM a c).length) (by have := absM_len (x := a) (c := c); omega) (by omega)) ?_
         rintro _ _ ⟨rfl, rfl⟩
         refine ⟨rfl, rfl, .inr rfl, ?_⟩
         refine vo_stM ?_
         refine vo_assign_pv rfl rfl ?_
         refine vo_nil ?_
         refine hK42 _ ?_
         refine vc_seq fun K43 hK43 => ?_
         refine vc_seq fun K44 hK44 => ?_
         refine vc_region ?_
         refine vo_move_pv rfl rfl ?_
         refine vo_binI rfl rfl rfl rfl trivial ?_
         refine vo_nil ?_
         refine hK44 _ ?_
         refine vc_cond rfl (fun hc9 => ?_) (fun hc9 => ?_)
         ·try simp only [zq0, zq1, zq2, zq3, zq4, zq5, zq6, zq7, zq8, zq9, zqa, zqb, zqc, zqd, zqe, zqf] at hc9
          refine vc_seq fun K45 hK45 => ?_
          refine vc_region ?_
          refine vo_assign_pv rfl rfl ?_
          refine vo_nil ?_
          refine hK45 _ ?_
          refine vc_ret ?_
          (try clear hK45); (try clear hK44); (try clear hK43); (try clear hK42); (try clear hK41); (try clear hK40); (try clear hK39); (try clear hK38); (try clear hK37); (try clear hK36); (try clear hK35); (try clear hK34); (try clear hK33); (try clear hK32); (try clear hK31); (try clear hK30); (try clear hK29); (try clear hK28); (try clear hK27); (try clear hK26); (try clear hK25); (try clear hK24); (try clear hK23); (try clear hK22); (try clear hK21); (try clear hK20); (try clear hK19); (try clear hK18); (try clear hK17); (try clear hK16); (try clear hK15); (try clear hK14); (try clear hK13); (try clear hK12); (try clear hK11); (try clear hK10); (try clear hK9); (try clear hK8); (try clear hK7); (try clear hK6); (try clear hK5); (try clear hK4); (try clear hK3); (try clear hK2); (try clear hK1)
          change retQ _ _ _ _ _
          refine retQ_sel [] (srows := []) (.inr rfl) hC rfl rfl rfl rfl rfl rfl rfl ?_
          first | exact ⟨rfl, rfl⟩ | (exfalso; simp_all; done) | (exfalso; omega)
         ·try simp only [zq0, zq1, zq2, zq3, zq4, zq5, zq6, zq7, zq8, zq9, zqa, zqb, zqc, zqd, zqe, zqf] at hc9
          refine vc_skip ?_
          refine hK43 _ ?_
          refine vc_seq fun K46 hK46 => ?_
          refine vc_seq fun K47 hK47 => ?_
          refine vc_region ?_
          refine vo_move_pv rfl rfl ?_
          refine vo_move_pv rfl rfl ?_
          refine vo_binI rfl rfl rfl rfl trivial ?_
          refine vo_nil ?_
          refine hK47 _ ?_
          refine vc_cond rfl (fun hc10 => ?_) (fun hc10 => ?_)
          ·try simp only [zq0, zq1, zq2, zq3, zq4, zq5, zq6, zq7, zq8, zq9, zqa, zqb, zqc, zqd, zqe, zqf] at hc10
           refine vc_seq fun K48 hK48 => ?_
           refine vc_region ?_
           refine vo_assign_pv rfl rfl ?_
           refine vo_nil ?_
           refine hK48 _ ?_
           refine vc_ret ?_
           (try clear hK48); (try clear hK47); (try clear hK46); (try clear hK45); (try clear hK44); (try clear hK43); (try clear hK42); (try clear hK41); (try clear hK40); (try clear hK39); (try clear hK38); (try clear hK37); (try clear hK36); (try clear hK35); (try clear hK34); (try clear hK33); (try clear hK32); (try clear hK31); (try clear hK30); (try clear hK29); (try clear hK28); (try clear hK27); (try clear hK26); (try clear hK25); (try clear hK24); (try clear hK23); (try clear hK22); (try clear hK21); (try clear hK20); (try clear hK19); (try clear hK18); (try clear hK17); (try clear hK16); (try clear hK15); (try clear hK14); (try clear hK13); (try clear hK12); (try clear hK11); (try clear hK10); (try clear hK9); (try clear hK8); (try clear hK7); (try clear hK6); (try clear hK5); (try clear hK4); (try clear hK3); (try clear hK2); (try clear hK1)
           change retQ _ _ _ _ _
           refine retQ_sel [] (srows := []) (.inr rfl) hC rfl rfl rfl rfl rfl rfl rfl ?_
           first | exact ⟨rfl, rfl⟩ | (exfalso; simp_all; done) | (exfalso; omega)
          ·try simp only [zq0, zq1, zq2, zq3, zq4, zq5, zq6, zq7, zq8, zq9, zqa, zqb, zqc, zqd, zqe, zqf] at hc10
           refine vc_skip ?_
           refine hK46 _ ?_
           refine vc_seq fun K49 hK49 => ?_
           refine vc_region ?_
           refine vo_assign_pv rfl rfl ?_
           refine vo_nil ?_
           refine hK49 _ ?_
           refine vc_ret ?_
           (try clear hK49); (try clear hK48); (try clear hK47); (try clear hK46); (try clear hK45); (try clear hK44); (try clear hK43); (try clear hK42); (try clear hK41); (try clear hK40); (try clear hK39); (try clear hK38); (try clear hK37); (try clear hK36); (try clear hK35); (try clear hK34); (try clear hK33); (try clear hK32); (try clear hK31); (try clear hK30); (try clear hK29); (try clear hK28); (try clear hK27); (try clear hK26); (try clear hK25); (try clear hK24); (try clear hK23); (try clear hK22); (try clear hK21); (try clear hK20); (try clear hK19); (try clear hK18); (try clear hK17); (try clear hK16); (try clear hK15); (try clear hK14); (try clear hK13); (try clear hK12); (try clear hK11); (try clear hK10); (try clear hK9); (try clear hK8); (try clear hK7); (try clear hK6); (try clear hK5); (try clear hK4); (try clear hK3); (try clear hK2); (try clear hK1)
           change retQ _ _ _ _ _
           refine retQ_sel [] (srows := []) (.inr rfl) hC rfl rfl rfl rfl rfl rfl rfl ?_
           first | exact ⟨rfl, rfl⟩ | (exfalso; simp_all; done) | (exfalso; omega)

end Go.Vl

/- Part 3 of the texts that the proof of FnExactValidWorks is built on. -/
import Derived.Test.YtlpchicpbnmdgaaVl2
import Derived.Lib.AppendZeros
namespace Go.Vl
set_option linter.unusedVariables false
set_option linter.unusedSimpArgs false
open Go.Proofs

structure OpM where
  who : Int
  name : Int
  value : Int
  gone : Bool
  deriving Inhabited, DecidableEq
abbrev opP (o : OpM) : PV := .agg [.int .i64 o.who, .int .i64 o.name, .int .i64 o.value, .bool o.gone]
abbrev pairP (p : Int × Int) : PV := .agg [.int .i64 p.1, .int .i64 p.2]
structure InstM where
  shares : Bool
  order : List Int
  values : List Int
  own : List (Int × Int)
  deriving Inhabited, DecidableEq
abbrev instP (x : InstM) : PV := .agg [.bool x.shares, .sl none 1 (x.order.map intP), .sl none 1 (x.values.map intP), .sl none 2 (x.own.map pairP)]
structure HeapM where
  keys : List Int
  insts : List InstM
  deriving Inhabited, DecidableEq
abbrev heapP (h : HeapM) : PV := .agg [.sl none 1 (h.keys.map intP), .sl none 4 (h.insts.map instP)]
theorem getD_map0 {α β : Type} (f : α → β) (l : List α) (k : Nat) (d : α) (d' : β) (h : f d = d') : (l.map f).getD k d' = f (l.getD k d) := by
  subst h
  simp only [List.getD, List.getElem?_map]
  cases l[k]? <;> rfl
theorem getD_ops (l : List OpM) (k : Nat) : (l.map opP).getD k (.agg [.int .i64 0, .int .i64 0, .int .i64 0, .bool false]) = opP (l.getD k ⟨0, 0, 0, false⟩) := getD_map0 opP l k ⟨0, 0, 0, false⟩ _ rfl
theorem getD_pairs (l : List (Int × Int)) (k : Nat) : (l.map pairP).getD k (.agg [.int .i64 0, .int .i64 0]) = pairP (l.getD k (0, 0)) := getD_map0 pairP l k (0, 0) _ rfl
theorem getD_insts (l : List InstM) (k : Nat) : (l.map instP).getD k (.agg [.bool false, .sl none 1 [], .sl none 1 [], .sl none 2 []]) = instP (l.getD k ⟨false, [], [], []⟩) := getD_map0 instP l k ⟨false, [], [], []⟩ _ rfl
/-- A copy that is under way. -/
def cpy {α : Type} (d : α) (l : List α) (k : Nat) : List α := l.take k ++ List.replicate (l.length - k) d
def okOp (o : OpM) : Prop := (0 ≤ o.who ∧ o.who ≤ 3) ∧ (0 ≤ o.name ∧ o.name ≤ 9) ∧ (0 ≤ o.value ∧ o.value ≤ 99)
instance (o : OpM) : Decidable (okOp o) := by unfold okOp; exact inferInstance
def VOps (l : List OpM) : Prop := l.length ≤ 40 ∧ ∀ o ∈ l, okOp o
instance (l : List OpM) : Decidable (VOps l) := by unfold VOps; exact inferInstance

end Go.Vl

namespace Go.Vl
set_option linter.unusedVariables false
set_option linter.unusedSimpArgs false
open Go.Proofs
open Go.Proofs
theorem opn_int : Opens Try.prog 3 1 intP i64R := opens_int Try.underlying3
end Go.Vl

namespace Go.Vl
set_option linter.unusedVariables false
set_option linter.unusedSimpArgs false
open Go.Proofs
open Go.Proofs
def nms (l : List (Int × Int)) : List Int := l.map Prod.fst
@[simp] theorem nms_len (l : List (Int × Int)) : (nms l).length = l.length := by simp [nms]
theorem take_nms (l : List (Int × Int)) (k : Nat) : (nms l).take k = nms (l.take k) := by simp [nms]
def SPairs (a b : List (Int × Int)) : Prop := a.length ≤ 40 ∧ (nms a).Nodup ∧ a.length = b.length ∧ ∀ p ∈ a, p ∈ b
instance (a b : List (Int × Int)) : Decidable (SPairs a b) := by unfold SPairs; exact inferInstance
end Go.Vl

namespace Go.Vl
set_option linter.unusedVariables false
set_option linter.unusedSimpArgs false
open Go.Proofs

structure AttrM where
  name : Int
  kind : Int
  value : Int
  deriving Inhabited, DecidableEq
abbrev attrP (a : AttrM) : PV := .agg [.int .i64 a.name, .int .i64 a.kind, .int .i64 a.value]
abbrev attrsP (l : List AttrM) : PV := .sl none 3 (l.map attrP)
structure ObjM where
  cls : Int
  pairs : List (Int × Int)
  deriving Inhabited, DecidableEq
abbrev objP (o : ObjM) : PV := .agg [.int .i64 o.cls, .sl none 2 (o.pairs.map pairP)]
structure WorldM where
  bases : List (List Int)
  attrs : List (List AttrM)
  objs : List ObjM
  deriving Inhabited, DecidableEq
abbrev worldP (w : WorldM) : PV := .agg [.sl none 1 (w.bases.map ints), .sl none 1 (w.attrs.map attrsP), .sl none 2 (w.objs.map objP)]
theorem getD_attrs (l : List AttrM) (k : Nat) : (l.map attrP).getD k (.agg [.int .i64 0, .int .i64 0, .int .i64 0]) = attrP (l.getD k ⟨0, 0, 0⟩) := getD_map0 attrP l k ⟨0, 0, 0⟩ _ rfl
theorem getD_attrss (l : List (List AttrM)) (k : Nat) : (l.map attrsP).getD k (.sl none 3 []) = attrsP (l.getD k []) := getD_map0 attrsP l k [] _ rfl
theorem getD_objs (l : List ObjM) (k : Nat) : (l.map objP).getD k (.agg [.int .i64 0, .sl none 2 []]) = objP (l.getD k ⟨0, []⟩) := getD_map0 objP l k ⟨0, []⟩ _ rfl
open Go.Proofs
def GO63 (x : ObjM) : Prop := x.pairs.length ≤ 9223372036854775807
def GW63 (w : WorldM) : Prop := (w.bases.length ≤ 9223372036854775807 ∧ ∀ l ∈ w.bases, l.length ≤ 9223372036854775807) ∧ (w.attrs.length ≤ 9223372036854775807 ∧ ∀ l ∈ w.attrs, l.length ≤ 9223372036854775807) ∧ w.objs.length ≤ 9223372036854775807 ∧ ∀ o ∈ w.objs, GO63 o
theorem opn_ints : Opens Try.prog 28 1 (fun l : List Int => .sl none 1 (l.map intP)) (fun l => l.length ≤ 9223372036854775807 ∧ ∀ a ∈ l, i64R a) := opens_slice (P := Try.prog) Try.underlying28 (show Try.prog.cellsOf 3 = 1 by kernel_rfl) (by decide) opn_int
theorem opn_intss : Opens Try.prog 23 1 (fun l : List (List Int) => .sl none 1 (l.map ints)) (fun l => l.length ≤ 9223372036854775807 ∧ ∀ a ∈ l, (a.length ≤ 9223372036854775807 ∧ ∀ x ∈ a, i64R x)) := opens_slice (P := Try.prog) Try.underlying23 (show Try.prog.cellsOf 28 = 1 by kernel_rfl) (by decide) opn_ints
def SO (x : ObjM) : Prop := x.pairs.length ≤ 2000000
def SW (w : WorldM) : Prop := (w.bases.length ≤ 2000000 ∧ ∀ l ∈ w.bases, l.length ≤ 2000000) ∧ (w.attrs.length ≤ 2000000 ∧ ∀ l ∈ w.attrs, l.length ≤ 2000000) ∧ w.objs.length ≤ 2000000 ∧ ∀ o ∈ w.objs, SO o
theorem getD_all {α : Type} {p : α → Prop} {l : List α} (h : ∀ x ∈ l, p x) (d : α) (hd : p d) (k : Nat) : p (l.getD k d) := by
  by_cases hk : k < l.length
  · exact h _ (getD_mem hk d)
  · rw [List.getD, List.getElem?_eq_none (by omega)]; exact hd
theorem rowI_eq {el : TypeId} {e : Nat} {nl : Option Bool} {f : Bool} {xs ys : List PV} (h : xs = ys) : [Row.own el e nl f xs] = [Row.own el e nl f ys] := by rw [h]
end Go.Vl

namespace Go.Vl
set_option linter.unusedVariables false
set_option linter.unusedSimpArgs false
open Go.Proofs

/-- The places of the values that are there. -/
def plc (vs : List Int) (k : Nat) : List Int := ((List.range k).filter fun i => decide (vs.getD i 0 ≠ -1)).map Int.ofNat
def TPl (order vs : List Int) : Prop := (∀ x ∈ plc vs vs.length, x ∈ order) ∧ order.length = (plc vs vs.length).length
instance (a b : List Int) : Decidable (TPl a b) := by unfold TPl; exact inferInstance
def okPair (p : Int × Int) : Prop := (0 ≤ p.1 ∧ p.1 ≤ 9) ∧ (0 ≤ p.2 ∧ p.2 ≤ 99)
instance (p : Int × Int) : Decidable (okPair p) := by unfold okPair; exact inferInstance
def AOwn (l : List (Int × Int)) : Prop := (nms l).Nodup ∧ ∀ p ∈ l, okPair p
instance (l : List (Int × Int)) : Decidable (AOwn l) := by unfold AOwn; exact inferInstance
def AShared (vs : List Int) : Prop := (∀ v ∈ vs, -1 ≤ v ∧ v ≤ 99) ∧ (vs.length = 0 ∨ 0 ≤ vs.getD (vs.length - 1) 0)
instance (l : List Int) : Decidable (AShared l) := by unfold AShared; exact inferInstance
def VInst (n : Nat) (x : InstM) : Prop := if x.shares = true then x.own.length = 0 ∧ x.values.length ≤ n ∧ AShared x.values ∧ TPl x.order x.values else x.order.length = 0 ∧ x.values.length = 0 ∧ AOwn x.own
instance (n : Nat) (x : InstM) : Decidable (VInst n x) := by unfold VInst; exact inferInstance
def VHeap (h : HeapM) : Prop := (h.keys.length ≤ 5 ∧ h.keys.Nodup) ∧ (∀ k ∈ h.keys, 0 ≤ k ∧ k ≤ 9) ∧ h.insts.length = 4 ∧ ∀ x ∈ h.insts, VInst h.keys.length x
instance (h : HeapM) : Decidable (VHeap h) := by unfold VHeap; exact inferInstance
/-- What trimming leaves. -/
def TrM (vs : List Int) (m : Nat) : Prop := m ≤ vs.length ∧ (∀ i, m ≤ i → i < vs.length → vs.getD i 0 = -1) ∧ (m = 0 ∨ vs.getD (m - 1) 0 ≠ -1)
end Go.Vl

namespace Go.Vl
set_option linter.unusedVariables false
set_option linter.unusedSimpArgs false
open Go.Proofs

end Go.Vl

namespace Go.Vl
set_option linter.unusedVariables false
set_option linter.unusedSimpArgs false
open Go.Proofs
theorem fM_eq (n : Int) : ∀ (l : List Int) (i : Int), findM n l i = fM n l i
  | [], _ => rfl
  | x :: l, i => by simp only [findM, fM]; rw [fM_eq n l (i+1)]
theorem bhd_find {x : Int} {l : List Int} : 0 < findM x l 0 ↔ bhd x l := by rw [fM_eq]; exact Iff.rfl
theorem anyB_of {ls : List (List Int)} {x : Int} {k : Nat} (h : k < ls.length) (h2 : 0 < findM x (ls.getD k []) 0) : anyB ls x := ⟨_, getD_mem h [], bhd_find.1 h2⟩
theorem anyB_succ {ls : List (List Int)} {x : Int} {k : Nat} (h : k < ls.length) (h1 : ∀ l ∈ ls.take k, ¬ bhd x l) (h2 : ¬ 0 < findM x (ls.getD k []) 0) : ∀ l ∈ ls.take (k+1), ¬ bhd x l := (all_take_succ h []).2 ⟨h1, fun e => h2 (bhd_find.2 e)⟩
theorem anyB_no {ls : List (List Int)} {x : Int} {k : Nat} (h : ls.length ≤ k) (h1 : ∀ l ∈ ls.take k, ¬ bhd x l) : ¬ anyB ls x := by
  rw [take_all h] at h1
  rintro ⟨l, h2, h3⟩
  exact h1 l h2 h3

theorem isBehind_sat {nl0 : Option Bool} {lists : List (List Int)} {x : Int} (hlists : lists.length < 1000000000) (hllists : ∀ l ∈ lists, l.length < 1000000000)  : SatAt Try.prog 177 [.pv false (.sl nl0 1 (lists.map ints)), i64 x] [] (fun res rows => res = [bo (decide (anyB lists x))] ∧ rows = []) := by
 refine sat_entry (ts := [4]) Try.func177 rfl rfl (by decide) (Nat.le_of_ble_eq_true rfl) fun C hC => ?_
 rw [Try.ntmps177]
 replace hC : C.nb = 0 := hC
 refine vc_seq fun K1 hK1 => ?_
 refine vc_region ?_
 refine vo_assign_pv rfl rfl ?_
 refine vo_nil ?_
 refine hK1 _ ?_
 refine vc_seq fun K2 hK2 => ?_
 refine vc_seq fun K3 hK3 => ?_
 refine vc_region ?_
 refine vo_move_pv rfl rfl ?_
 refine vo_len_pv rfl rfl Try.underlying23 ?_
 refine vo_move_pv rfl rfl ?_
 refine vo_nil ?_
 refine hK3 _ ?_
 refine vc_block ?_
 refine vc_stN ?_
 refine vc_loopF [1, 7, 8] [9] [i64 x, .pv false (.sl nl0 1 (lists.map ints)), i64 (lists.map ints).length] _ (fun mz vs => ∃ (k : Nat), mz = lists.length - k ∧ (k ≤ lists.length) ∧ (∀ l ∈ lists.take k, ¬ bhd x l) ∧ vs = [i64 k]) (lists.length) rfl rfl (le_len hC rfl) ⟨rfl, rfl, rfl⟩ ⟨0, rfl, Nat.zero_le _, (by simp), rfl⟩ ?_
 rintro mz vs - ⟨k, rfl, hk, hf, rfl⟩
 refine vc_stN ?_
 refine vc_seq fun K4 hK4 => ?_
 refine vc_region ?_
 refine vo_binI rfl rfl rfl rfl trivial ?_
 refine vo_nil ?_
 refine hK4 _ ?_
 refine vc_seq fun K5 hK5 => ?_
 refine vc_cond rfl (fun hc1 => ?_) (fun hc1 => ?_)
 ·try simp only [zq0, zq1, zq2, zq3, zq4, zq5, zq6, zq7, zq8, zq9, zqa, zqb, zqc, zqd, zqe, zqf] at hc1
  refine vc_skip ?_
  refine hK5 _ ?_
  refine vc_seq fun K6 hK6 => ?_
  refine vc_block ?_
  refine vc_seq fun K7 hK7 => ?_
  refine vc_region ?_
  refine vo_index_pv (.sl none 1 []) rfl rfl rfl E23.und inf28 sz28 sd sd ?_
  simp only [Int.toNat_natCast, Int.toNat_zero, getD_ints, getD_intss, getD_bools, getD_bytes, PV.cells]
  refine vo_load_adr rfl rfl Try.underlying28 rfl ?_
  refine vo_assign_pv rfl rfl ?_
  refine vo_nil ?_
  refine hK7 _ ?_
  refine vc_seq fun K8 hK8 => ?_
  refine vc_region ?_
  refine vo_move_pv rfl rfl ?_
  refine vo_move_pv rfl rfl ?_
  refine vo_call0 Try.func134 rfl rfl rfl rfl (Index_sat (lens hllists _ (by omega))) ?_
  rintro _ _ ⟨rfl, rfl⟩
  refine ⟨rfl, rfl, .inl rfl, ?_⟩
  refine vo_binI rfl rfl rfl rfl trivial ?_
  refine vo_nil ?_
  refine hK8 _ ?_
  refine vc_cond rfl (fun hc2 => ?_) (fun hc2 => ?_)
  ·try simp only [zq0, zq1, zq2, zq3, zq4, zq5, zq6, zq7, zq8, zq9, zqa, zqb, zqc, zqd, zqe, zqf] at hc2
   refine vc_seq fun K9 hK9 => ?_
   refine vc_region ?_
   refine vo_assign_pv rfl rfl ?_
   refine vo_nil ?_
   refine hK9 _ ?_
   refine vc_ret ?_
   change retPv _ _ _ _ _
   refine retPv_mk rfl rfl rfl ⟨?_, rfl⟩
   refine (congrArg (fun b => [bo b]) (?_ : _ = _) : [bo _] = [bo _])
   exact bT (anyB_of (k := k) (by omega) (by omega))
  ·try simp only [zq0, zq1, zq2, zq3, zq4, zq5, zq6, zq7, zq8, zq9, zqa, zqb, zqc, zqd, zqe, zqf] at hc2
   refine vc_skip ?_
   refine hK6 _ ?_
   refine vc_region ?_
   refine vo_binI rfl rfl rfl rfl sd ?_
   refine vo_move_pv rfl rfl ?_
   refine vo_nil ?_
   change againF _ _ _ _ _ _ _ _ _
   refine againF_mk rfl rfl rfl rfl rfl rfl ⟨_, ?_, k + 1, rfl, ?_, ?_, rfl⟩
   ·omega
   ·omega
   ·exact anyB_succ (by omega) hf (by omega)
 ·try simp only [zq0, zq1, zq2, zq3, zq4, zq5, zq6, zq7, zq8, zq9, zqa, zqb, zqc, zqd, zqe, zqf] at hc1
  refine vc_exit ?_
  refine hK2 _ ?_
  refine vc_seq fun K10 hK10 => ?_
  refine vc_region ?_
  refine vo_assign_pv rfl rfl ?_
  refine vo_nil ?_
  refine hK10 _ ?_
  refine vc_ret ?_
  change retPv _ _ _ _ _
  refine retPv_mk rfl rfl rfl ⟨?_, rfl⟩
  refine (congrArg (fun b => [bo b]) (?_ : _ = _) : [bo _] = [bo _])
  exact bF (anyB_no (by omega) hf)


theorem goodHead_sat {nl0 : Option Bool} {lists : List (List Int)} {x : Int} (hlists : lists.length < 1000000000) (hllists : ∀ l ∈ lists, l.length < 1000000000)  : SatAt Try.prog 161 [.pv false (.sl nl0 1 (lists.map ints)), i64 x] [] (fun res rows => res = [bo (decide (¬ anyB lists x))] ∧ rows = []) := by
 refine sat_entry (ts := [4]) Try.func161 rfl rfl (by decide) (Nat.le_of_ble_eq_true rfl) fun C hC => ?_
 rw [Try.ntmps161]
 replace hC : C.nb = 0 := hC
 refine vc_seq fun K1 hK1 => ?_
 refine vc_region ?_
 refine vo_assign_pv rfl rfl ?_
 refine vo_nil ?_
 refine hK1 _ ?_
 refine vc_seq fun K2 hK2 => ?_
 refine vc_seq fun K3 hK3 => ?_
 refine vc_region ?_
 refine vo_assign_pv rfl rfl ?_
 refine vo_nil ?_
 refine hK3 _ ?_
 refine vc_block ?_
 refine vc_stN ?_
 refine vc_loopF [0, 1] [5] [.pv false (.sl nl0 1 (lists.map ints)), i64 x] _ (fun mz vs => ∃ (k : Nat), mz = lists.length - k ∧ (k ≤ lists.length) ∧ (∀ l ∈ lists.take k, ¬ bhd x l) ∧ vs = [i64 k]) (lists.length) rfl rfl (le_len hC rfl) ⟨rfl, rfl, rfl⟩ ⟨0, rfl, Nat.zero_le _, (by simp), rfl⟩ ?_
 rintro mz vs - ⟨k, rfl, hk, hf, rfl⟩
 refine vc_stN ?_
 refine vc_seq fun K4 hK4 => ?_
 refine vc_seq fun K5 hK5 => ?_
 refine vc_region ?_
 refine vo_move_pv rfl rfl ?_
 refine vo_move_pv rfl rfl ?_
 refine vo_len_pv rfl rfl Try.underlying23 ?_
 refine vo_binI rfl rfl rfl rfl trivial ?_
 refine vo_nil ?_
 refine hK5 _ ?_
 refine vc_cond rfl (fun hc1 => ?_) (fun hc1 => ?_)
 ·try simp only [zq0, zq1, zq2, zq3, zq4, zq5, zq6, zq7, zq8, zq9, zqa, zqb, zqc, zqd, zqe, zqf] at hc1
  refine vc_skip ?_
  refine hK4 _ ?_
  refine vc_seq fun K6 hK6 => ?_
  refine vc_block ?_
  refine vc_seq fun K7 hK7 => ?_
  refine vc_region ?_
  refine vo_move_pv rfl rfl ?_
  refine vo_move_pv rfl rfl ?_
  refine vo_index_pv (.sl none 1 []) rfl rfl rfl E23.und inf28 sz28 sd sd ?_
  simp only [Int.toNat_natCast, Int.toNat_zero, getD_ints, getD_intss, getD_bools, getD_bytes, PV.cells]
  refine vo_load_adr rfl rfl Try.underlying28 rfl ?_
  refine vo_move_pv rfl rfl ?_
  refine vo_call0 Try.func111 rfl rfl rfl rfl (placeIn_sat (lens hllists _ (by omega))) ?_
  rintro _ _ ⟨rfl, rfl⟩
  refine ⟨rfl, rfl, .inl rfl, ?_⟩
  refine vo_binI rfl rfl rfl rfl trivial ?_
  refine vo_nil ?_
  refine hK7 _ ?_
  refine vc_cond rfl (fun hc2 => ?_) (fun hc2 => ?_)
  ·try simp only [zq0, zq1, zq2, zq3, zq4, zq5, zq6, zq7, zq8, zq9, zqa, zqb, zqc, zqd, zqe, zqf] at hc2
   refine vc_seq fun K8 hK8 => ?_
   refine vc_region ?_
   refine vo_assign_pv rfl rfl ?_
   refine vo_nil ?_
   refine hK8 _ ?_
   refine vc_ret ?_
   change retPv _ _ _ _ _
   refine retPv_mk rfl rfl rfl ⟨?_, rfl⟩
   refine (congrArg (fun b => [bo b]) (?_ : _ = _) : [bo _] = [bo _])
   exact bF (fun h => h (anyB_of (k := k) (by omega) (by omega)))
  ·try simp only [zq0, zq1, zq2, zq3, zq4, zq5, zq6, zq7, zq8, zq9, zqa, zqb, zqc, zqd, zqe, zqf] at hc2
   refine vc_skip ?_
   refine hK6 _ ?_
   refine vc_region ?_
   refine vo_move_pv rfl rfl ?_
   refine vo_binI rfl rfl rfl rfl sd ?_
   refine vo_assign_pv rfl rfl ?_
   refine vo_nil ?_
   change againF _ _ _ _ _ _ _ _ _
   refine againF_mk rfl rfl rfl rfl rfl rfl ⟨_, ?_, k + 1, rfl, ?_, ?_, rfl⟩
   ·omega
   ·omega
   ·exact anyB_succ (by omega) hf (by omega)
 ·try simp only [zq0, zq1, zq2, zq3, zq4, zq5, zq6, zq7, zq8, zq9, zqa, zqb, zqc, zqd, zqe, zqf] at hc1
  refine vc_exit ?_
  refine hK2 _ ?_
  refine vc_seq fun K9 hK9 => ?_
  refine vc_region ?_
  refine vo_assign_pv rfl rfl ?_
  refine vo_nil ?_
  refine hK9 _ ?_
  refine vc_ret ?_
  change retPv _ _ _ _ _
  refine retPv_mk rfl rfl rfl ⟨?_, rfl⟩
  refine (congrArg (fun b => [bo b]) (?_ : _ = _) : [bo _] = [bo _])
  exact bT (anyB_no (by omega) hf)


theorem firstFree_sat {nl0 : Option Bool} {lists : List (List Int)} (hlists : lists.length < 1000000000) (hllists : ∀ l ∈ lists, l.length < 1000000000) : SatAt Try.prog 172 [.pv false (.sl nl0 1 (lists.map ints))] [] (fun res rows => res = [i64 ((fhM lists).getD 0), bo (fhM lists).isSome] ∧ rows = []) := by
 refine sat_entry (ts := [2, 3]) Try.func172 rfl rfl (by decide) (Nat.le_of_ble_eq_true rfl) fun C hC => ?_
 rw [Try.ntmps172]
 replace hC : C.nb = 0 := hC
 refine vc_seq fun K1 hK1 => ?_
 refine vc_region ?_
 refine vo_assign_pv rfl rfl ?_
 refine vo_assign_pv rfl rfl ?_
 refine vo_nil ?_
 refine hK1 _ ?_
 refine vc_seq fun K2 hK2 => ?_
 refine vc_seq fun K3 hK3 => ?_
 refine vc_region ?_
 refine vo_move_pv rfl rfl ?_
 refine vo_len_pv rfl rfl Try.underlying23 ?_
 refine vo_move_pv rfl rfl ?_
 refine vo_nil ?_
 refine hK3 _ ?_
 refine vc_block ?_
 refine vc_stN ?_
 refine vc_loopF [0, 7, 8] [9] [.pv false (.sl nl0 1 (lists.map ints)), .pv false (.sl nl0 1 (lists.map ints)), i64 (lists.map ints).length] _ (fun mz vs => ∃ (k : Nat), mz = lists.length - k ∧ (k ≤ lists.length) ∧ (fhM lists = fhF lists (lists.drop k)) ∧ vs = [i64 k]) (lists.length) rfl rfl (le_len hC rfl) ⟨rfl, rfl, rfl⟩ ⟨0, rfl, Nat.zero_le _, rfl, rfl⟩ ?_
 rintro mz vs - ⟨k, rfl, hk, hf, rfl⟩
 refine vc_stN ?_
 refine vc_seq fun K4 hK4 => ?_
 refine vc_region ?_
 refine vo_binI rfl rfl rfl rfl trivial ?_
 refine vo_nil ?_
 refine hK4 _ ?_
 refine vc_seq fun K5 hK5 => ?_
 refine vc_cond rfl (fun hc1 => ?_) (fun hc1 => ?_)
 ·try simp only [zq0, zq1, zq2, zq3, zq4, zq5, zq6, zq7, zq8, zq9, zqa, zqb, zqc, zqd, zqe, zqf] at hc1
  refine vc_skip ?_
  refine hK5 _ ?_
  refine vc_seq fun K6 hK6 => ?_
  refine vc_block ?_
  refine vc_seq fun K7 hK7 => ?_
  refine vc_region ?_
  refine vo_index_pv (.sl none 1 []) rfl rfl rfl E23.und inf28 sz28 sd sd ?_
  simp only [Int.toNat_natCast, Int.toNat_zero, getD_ints, getD_intss, getD_bools, getD_bytes, PV.cells]
  refine vo_load_adr rfl rfl Try.underlying28 rfl ?_
  refine vo_assign_pv rfl rfl ?_
  refine vo_nil ?_
  refine hK7 _ ?_
  refine vc_seq fun K8 hK8 => ?_
  refine vc_region ?_
  refine vo_move_pv rfl rfl ?_
  refine vo_len_pv rfl rfl Try.underlying28 ?_
  refine vo_binI rfl rfl rfl rfl trivial ?_
  refine vo_move_pv rfl rfl ?_
  refine vo_split 16 rfl (fun hg2 => ?_) (fun hg2 => ?_)
  ·try simp only [zq0, zq1, zq2, zq3, zq4, zq5, zq6, zq7, zq8, zq9, zqa, zqb, zqc, zqd, zqe, zqf] at hg2
   refine vo_guard_on rfl rfl rfl ?_
   refine vo_move_pv rfl rfl ?_
   refine vo_guard_on rfl rfl rfl ?_
   refine vo_move_pv rfl rfl ?_
   refine vo_guard_on rfl rfl rfl ?_
   refine vo_index_pv (.int .i64 0) rfl rfl rfl E28.und inf3 sz3 sd sd ?_
   simp only [Int.toNat_natCast, Int.toNat_zero, getD_ints, getD_intss, getD_bools, getD_bytes, PV.cells]
   refine vo_guard_on rfl rfl rfl ?_
   refine vo_load_adr rfl rfl Try.underlying3 rfl ?_
   refine vo_guard_on rfl rfl rfl ?_
   refine vo_call0 Try.func177 rfl rfl rfl rfl (isBehind_sat hlists hllists) ?_
   rintro _ _ ⟨rfl, rfl⟩
   refine ⟨rfl, rfl, .inl rfl, ?_⟩
   refine vo_guard_on rfl rfl rfl ?_
   refine vo_not rfl rfl ?_
   refine vo_pick_t rfl rfl ?_
   refine vo_nil ?_
   refine hK8 _ ?_
   refine vc_cond rfl (fun hc3 => ?_) (fun hc3 => ?_)
   ·try simp only [zq0, zq1, zq2, zq3, zq4, zq5, zq6, zq7, zq8, zq9, zqa, zqb, zqc, zqd, zqe, zqf] at hc3
    refine vc_seq fun K9 hK9 => ?_
    refine vc_region ?_
    refine vo_move_pv rfl rfl ?_
    refine vo_index_pv (.int .i64 0) rfl rfl rfl E28.und inf3 sz3 sd sd ?_
    simp only [Int.toNat_natCast, Int.toNat_zero, getD_ints, getD_intss, getD_bools, getD_bytes, PV.cells]
    refine vo_load_adr rfl rfl Try.underlying3 rfl ?_
    refine vo_assign_pv rfl rfl ?_
    refine vo_assign_pv rfl rfl ?_
    refine vo_nil ?_
    refine hK9 _ ?_
    refine vc_ret ?_
    change retPv _ _ _ _ _
    refine retPv_mk rfl rfl rfl ⟨?_, rfl⟩
    have e : fhM lists = some ((lists.getD k []).getD 0 0) := by rw [hf, fhF_drop _ _ _ (by omega), freeH_t (by omega) (by simp_all)]
    rw [e]; rfl
   ·try simp only [zq0, zq1, zq2, zq3, zq4, zq5, zq6, zq7, zq8, zq9, zqa, zqb, zqc, zqd, zqe, zqf] at hc3
    refine vc_skip ?_
    refine hK6 _ ?_
    refine vc_region ?_
    refine vo_binI rfl rfl rfl rfl sd ?_
    refine vo_move_pv rfl rfl ?_
    refine vo_nil ?_
    change againF _ _ _ _ _ _ _ _ _
    refine againF_mk rfl rfl rfl rfl rfl rfl ⟨_, ?_, k + 1, rfl, ?_, ?_, rfl⟩
    ·omega
    ·omega
    ·rw [hf, fhF_drop _ _ _ (by omega), freeH_f (by simp_all)]
  ·try simp only [zq0, zq1, zq2, zq3, zq4, zq5, zq6, zq7, zq8, zq9, zqa, zqb, zqc, zqd, zqe, zqf] at hg2
   refine vo_guard_off rfl rfl rfl rfl rfl ?_
   refine vo_guard_off rfl rfl rfl rfl rfl ?_
   refine vo_guard_off rfl rfl rfl rfl rfl ?_
   refine vo_guard_off rfl rfl rfl rfl rfl ?_
   refine vo_guard_off rfl rfl rfl rfl rfl ?_
   refine vo_guard_off rfl rfl rfl rfl rfl ?_
   refine vo_pick_f rfl rfl ?_
   refine vo_nil ?_
   refine hK8 _ ?_
   refine vc_cond_f rfl ?_
   refine vc_skip ?_
   refine hK6 _ ?_
   refine vc_region ?_
   refine vo_binI rfl rfl rfl rfl sd ?_
   refine vo_move_pv rfl rfl ?_
   refine vo_nil ?_
   change againF _ _ _ _ _ _ _ _ _
   refine againF_mk rfl rfl rfl rfl rfl rfl ⟨_, ?_, k + 1, rfl, ?_, ?_, rfl⟩
   ·omega
   ·omega
   ·rw [hf, fhF_drop _ _ _ (by omega), freeH_f (by simp_all)]
 ·try simp only [zq0, zq1, zq2, zq3, zq4, zq5, zq6, zq7, zq8, zq9, zqa, zqb, zqc, zqd, zqe, zqf] at hc1
  refine vc_exit ?_
  refine hK2 _ ?_
  refine vc_seq fun K10 hK10 => ?_
  refine vc_region ?_
  refine vo_assign_pv rfl rfl ?_
  refine vo_nil ?_
  refine hK10 _ ?_
  refine vc_seq fun K11 hK11 => ?_
  refine vc_region ?_
  refine vo_move_pv rfl rfl ?_
  refine vo_assign_pv rfl rfl ?_
  refine vo_assign_pv rfl rfl ?_
  refine vo_nil ?_
  refine hK11 _ ?_
  refine vc_ret ?_
  change retPv _ _ _ _ _
  refine retPv_mk rfl rfl rfl ⟨?_, rfl⟩
  have e : fhM lists = none := by rw [hf, List.drop_of_length_le (by omega)]; rfl
  rw [e]; rfl


theorem firstHead_sat {nl0 : Option Bool} {lists : List (List Int)} (hlists : lists.length < 1000000000) (hllists : ∀ l ∈ lists, l.length < 1000000000) : SatAt Try.prog 135 [.pv false (.sl nl0 1 (lists.map ints))] [] (fun res rows => res = [i64 ((fhM lists).getD 0), bo (fhM lists).isSome] ∧ rows = []) := by
 refine sat_entry (ts := [2, 3]) Try.func135 rfl rfl (by decide) (Nat.le_of_ble_eq_true rfl) fun C hC => ?_
 rw [Try.ntmps135]
 replace hC : C.nb = 0 := hC
 refine vc_seq fun K1 hK1 => ?_
 refine vc_region ?_
 refine vo_assign_pv rfl rfl ?_
 refine vo_assign_pv rfl rfl ?_
 refine vo_nil ?_
 refine hK1 _ ?_
 refine vc_seq fun K2 hK2 => ?_
 refine vc_seq fun K3 hK3 => ?_
 refine vc_region ?_
 refine vo_assign_pv rfl rfl ?_
 refine vo_nil ?_
 refine hK3 _ ?_
 refine vc_block ?_
 refine vc_stN ?_
 refine vc_loopF [0] [4] [.pv false (.sl nl0 1 (lists.map ints))] _ (fun mz vs => ∃ (k : Nat), mz = lists.length - k ∧ (k ≤ lists.length) ∧ (fhM lists = fhF lists (lists.drop k)) ∧ vs = [i64 k]) (lists.length) rfl rfl (le_len hC rfl) ⟨rfl, rfl, rfl⟩ ⟨0, rfl, Nat.zero_le _, rfl, rfl⟩ ?_
 rintro mz vs - ⟨k, rfl, hk, hf, rfl⟩
 refine vc_stN ?_
 refine vc_seq fun K4 hK4 => ?_
 refine vc_seq fun K5 hK5 => ?_
 refine vc_region ?_
 refine vo_move_pv rfl rfl ?_
 refine vo_move_pv rfl rfl ?_
 refine vo_len_pv rfl rfl Try.underlying23 ?_
 refine vo_binI rfl rfl rfl rfl trivial ?_
 refine vo_nil ?_
 refine hK5 _ ?_
 refine vc_cond rfl (fun hc1 => ?_) (fun hc1 => ?_)
 ·try simp only [zq0, zq1, zq2, zq3, zq4, zq5, zq6, zq7, zq8, zq9, zqa, zqb, zqc, zqd, zqe, zqf] at hc1
  refine vc_skip ?_
  refine hK4 _ ?_
  refine vc_seq fun K6 hK6 => ?_
  refine vc_block ?_
  refine vc_seq fun K7 hK7 => ?_
  refine vc_region ?_
  refine vo_move_pv rfl rfl ?_
  refine vo_move_pv rfl rfl ?_
  refine vo_index_pv (.sl none 1 []) rfl rfl rfl E23.und inf28 sz28 sd sd ?_
  simp only [Int.toNat_natCast, Int.toNat_zero, getD_ints, getD_intss, getD_bools, getD_bytes, PV.cells]
  refine vo_load_adr rfl rfl Try.underlying28 rfl ?_
  refine vo_len_pv rfl rfl Try.underlying28 ?_
  refine vo_binI rfl rfl rfl rfl trivial ?_
  refine vo_move_pv rfl rfl ?_
  refine vo_split 17 rfl (fun hg2 => ?_) (fun hg2 => ?_)
  ·try simp only [zq0, zq1, zq2, zq3, zq4, zq5, zq6, zq7, zq8, zq9, zqa, zqb, zqc, zqd, zqe, zqf] at hg2
   refine vo_guard_on rfl rfl rfl ?_
   refine vo_move_pv rfl rfl ?_
   refine vo_guard_on rfl rfl rfl ?_
   refine vo_move_pv rfl rfl ?_
   refine vo_guard_on rfl rfl rfl ?_
   refine vo_move_pv rfl rfl ?_
   refine vo_guard_on rfl rfl rfl ?_
   refine vo_index_pv (.sl none 1 []) rfl rfl rfl E23.und inf28 sz28 sd sd ?_
   simp only [Int.toNat_natCast, Int.toNat_zero, getD_ints, getD_intss, getD_bools, getD_bytes, PV.cells]
   refine vo_guard_on rfl rfl rfl ?_
   refine vo_load_adr rfl rfl Try.underlying28 rfl ?_
   refine vo_guard_on rfl rfl rfl ?_
   refine vo_index_pv (.int .i64 0) rfl rfl rfl E28.und inf3 sz3 sd sd ?_
   simp only [Int.toNat_natCast, Int.toNat_zero, getD_ints, getD_intss, getD_bools, getD_bytes, PV.cells]
   refine vo_guard_on rfl rfl rfl ?_
   refine vo_load_adr rfl rfl Try.underlying3 rfl ?_
   refine vo_guard_on rfl rfl rfl ?_
   refine vo_call0 Try.func161 rfl rfl rfl rfl (goodHead_sat hlists hllists) ?_
   rintro _ _ ⟨rfl, rfl⟩
   refine ⟨rfl, rfl, .inl rfl, ?_⟩
   refine vo_pick_t rfl rfl ?_
   refine vo_nil ?_
   refine hK7 _ ?_
   refine vc_cond rfl (fun hc3 => ?_) (fun hc3 => ?_)
   ·try simp only [zq0, zq1, zq2, zq3, zq4, zq5, zq6, zq7, zq8, zq9, zqa, zqb, zqc, zqd, zqe, zqf] at hc3
    refine vc_seq fun K8 hK8 => ?_
    refine vc_region ?_
    refine vo_move_pv rfl rfl ?_
    refine vo_move_pv rfl rfl ?_
    refine vo_index_pv (.sl none 1 []) rfl rfl rfl E23.und inf28 sz28 sd sd ?_
    simp only [Int.toNat_natCast, Int.toNat_zero, getD_ints, getD_intss, getD_bools, getD_bytes, PV.cells]
    refine vo_load_adr rfl rfl Try.underlying28 rfl ?_
    refine vo_index_pv (.int .i64 0) rfl rfl rfl E28.und inf3 sz3 sd sd ?_
    simp only [Int.toNat_natCast, Int.toNat_zero, getD_ints, getD_intss, getD_bools, getD_bytes, PV.cells]
    refine vo_load_adr rfl rfl Try.underlying3 rfl ?_
    refine vo_assign_pv rfl rfl ?_
    refine vo_assign_pv rfl rfl ?_
    refine vo_nil ?_
    refine hK8 _ ?_
    refine vc_ret ?_
    change retPv _ _ _ _ _
    refine retPv_mk rfl rfl rfl ⟨?_, rfl⟩
    have e : fhM lists = some ((lists.getD k []).getD 0 0) := by rw [hf, fhF_drop _ _ _ (by omega), freeH_t (by omega) (by simp_all)]
    rw [e]; rfl
   ·try simp only [zq0, zq1, zq2, zq3, zq4, zq5, zq6, zq7, zq8, zq9, zqa, zqb, zqc, zqd, zqe, zqf] at hc3
    refine vc_skip ?_
    refine hK6 _ ?_
    refine vc_region ?_
    refine vo_move_pv rfl rfl ?_
    refine vo_binI rfl rfl rfl rfl sd ?_
    refine vo_assign_pv rfl rfl ?_
    refine vo_nil ?_
    change againF _ _ _ _ _ _ _ _ _
    refine againF_mk rfl rfl rfl rfl rfl rfl ⟨_, ?_, k + 1, rfl, ?_, ?_, rfl⟩
    ·omega
    ·omega
    ·rw [hf, fhF_drop _ _ _ (by omega), freeH_f (by simp_all)]
  ·try simp only [zq0, zq1, zq2, zq3, zq4, zq5, zq6, zq7, zq8, zq9, zqa, zqb, zqc, zqd, zqe, zqf] at hg2
   refine vo_guard_off rfl rfl rfl rfl rfl ?_
   refine vo_guard_off rfl rfl rfl rfl rfl ?_
   refine vo_guard_off rfl rfl rfl rfl rfl ?_
   refine vo_guard_off rfl rfl rfl rfl rfl ?_
   refine vo_guard_off rfl rfl rfl rfl rfl ?_
   refine vo_guard_off rfl rfl rfl rfl rfl ?_
   refine vo_guard_off rfl rfl rfl rfl rfl ?_
   refine vo_guard_off rfl rfl rfl rfl rfl ?_
   refine vo_pick_f rfl rfl ?_
   refine vo_nil ?_
   refine hK7 _ ?_
   refine vc_cond_f rfl ?_
   refine vc_skip ?_
   refine hK6 _ ?_
   refine vc_region ?_
   refine vo_move_pv rfl rfl ?_
   refine vo_binI rfl rfl rfl rfl sd ?_
   refine vo_assign_pv rfl rfl ?_
   refine vo_nil ?_
   change againF _ _ _ _ _ _ _ _ _
   refine againF_mk rfl rfl rfl rfl rfl rfl ⟨_, ?_, k + 1, rfl, ?_, ?_, rfl⟩
   ·omega
   ·omega
   ·rw [hf, fhF_drop _ _ _ (by omega), freeH_f (by simp_all)]
 ·try simp only [zq0, zq1, zq2, zq3, zq4, zq5, zq6, zq7, zq8, zq9, zqa, zqb, zqc, zqd, zqe, zqf] at hc1
  refine vc_exit ?_
  refine hK2 _ ?_
  refine vc_seq fun K9 hK9 => ?_
  refine vc_region ?_
  refine vo_assign_pv rfl rfl ?_
  refine vo_assign_pv rfl rfl ?_
  refine vo_nil ?_
  refine hK9 _ ?_
  refine vc_ret ?_
  change retPv _ _ _ _ _
  refine retPv_mk rfl rfl rfl ⟨?_, rfl⟩
  have e : fhM lists = none := by rw [hf, List.drop_of_length_le (by omega)]; rfl
  rw [e]; rfl

end Go.Vl

namespace Go.Vl
set_option linter.unusedVariables false
set_option linter.unusedSimpArgs false
open Go.Proofs
theorem take_dl (l : List Int) : (l.drop 1).take ((List.map intP l).length - 1) = l.drop 1 := List.take_of_length_le (by simp)

theorem withoutHead_sat {nl0 : Option Bool} {lists : List (List Int)} {x : Int} (hlists : lists.length < 1000000000) (hllists : ∀ l ∈ lists, l.length < 1000000000) : SatAt Try.prog 173 [.pv false (.sl nl0 1 (lists.map ints)), i64 x] [] (fun res rows => res = [.ref 0] ∧ rows = [Row.own 28 1 (some false) false ((lists.map (tk x)).map ints)]) := by
 refine sat_entry_g (ts := [4]) Try.func173 rfl rfl (by decide) (Nat.le_of_ble_eq_true rfl) fun C hC => ?_
 rw [Try.ntmps173]
 replace hC : C.nb = 0 := hC
 refine vc_seq fun K1 hK1 => ?_
 refine vc_region ?_
 refine vo_assign_pv rfl rfl ?_
 refine vo_nil ?_
 refine hK1 _ ?_
 refine vc_seq fun K2 hK2 => ?_
 refine vc_region ?_
 refine vo_move_pv rfl rfl ?_
 refine vo_len_pv rfl rfl Try.underlying23 ?_
 refine vo_make E23 rfl rfl rfl sd sd sd ?_
 refine vo_assign_ref rfl rfl ?_
 refine vo_nil ?_
 refine hK2 _ ?_
 refine vc_seq fun K3 hK3 => ?_
 refine vc_region ?_
 refine vo_move_ref rfl rfl ?_
 refine vo_move_pv rfl rfl ?_
 refine vo_copy rfl rfl rfl rfl Try.underlying23 inf28 sz28 (by simp) ?_
 refine vo_stN ?_
 refine vo_nil ?_
 refine hK3 _ ?_
 refine vc_seq fun K4 hK4 => ?_
 refine vc_seq fun K5 hK5 => ?_
 refine vc_region ?_
 refine vo_move_ref rfl rfl ?_
 refine vo_len_ref rfl rfl rfl Try.underlying23 ?_
 refine vo_move_pv rfl rfl ?_
 refine vo_nil ?_
 refine hK5 _ ?_
 refine vc_block ?_
 refine vc_stN ?_
 refine vc_loop [1, 5, 14, 15, 16] (fun mz vs rows => ∃ (k : Nat), mz = lists.length - k ∧ (k ≤ lists.length) ∧ vs = [i64 x, .ref 0, .ref 0, i64 ((lists.map ints).length : Nat), i64 k] ∧ rows = [Row.own 28 1 (some false) false (((lists.take k).map (tk x) ++ lists.drop k).map ints)]) (lists.length) (le_len hC rfl) ⟨rfl, rfl⟩ ⟨0, rfl, Nat.zero_le _, rfl, rfl⟩ ?_
 rintro mz vs rows - - ⟨k, rfl, hk, rfl, rfl⟩
 have hW : ((lists.take k).map (tk x) ++ lists.drop k).length = lists.length := by rw [List.length_append, List.length_map, List.length_take, List.length_drop]; omega
 have hE : k < lists.length → _ := fun h => map_at_tk (ls := lists) (k := k) h x
 refine vc_seq fun K6 hK6 => ?_
 refine vc_region ?_
 refine vo_binI rfl rfl rfl rfl trivial ?_
 refine vo_nil ?_
 refine hK6 _ ?_
 refine vc_seq fun K7 hK7 => ?_
 refine vc_cond rfl (fun hc1 => ?_) (fun hc1 => ?_)
 ·try simp only [zq0, zq1, zq2, zq3, zq4, zq5, zq6, zq7, zq8, zq9, zqa, zqb, zqc, zqd, zqe, zqf] at hc1
  refine vc_skip ?_
  refine hK7 _ ?_
  refine vc_seq fun K8 hK8 => ?_
  refine vc_block ?_
  refine vc_seq fun K9 hK9 => ?_
  refine vc_region ?_
  refine vo_move_pv rfl rfl ?_
  refine vo_index_ref rfl rfl rfl rfl E23.und inf28 sz28 sd sd ?_
  try simp only [Int.toNat_natCast]
  refine vo_load_own rfl rfl rfl Try.underlying28 rfl sd (getD_intss _ _) rfl ?_
  try simp only [Int.toNat_natCast]
  refine vo_assign_pv rfl rfl ?_
  refine vo_assign_pv rfl rfl ?_
  refine vo_nil ?_
  refine hK9 _ ?_
  refine vc_seq fun K10 hK10 => ?_
  refine vc_region ?_
  refine vo_move_pv rfl rfl ?_
  refine vo_len_pv rfl rfl Try.underlying28 ?_
  refine vo_binI rfl rfl rfl rfl trivial ?_
  refine vo_move_pv rfl rfl ?_
  refine vo_split 24 rfl (fun hg2 => ?_) (fun hg2 => ?_)
  ·try simp only [zq0, zq1, zq2, zq3, zq4, zq5, zq6, zq7, zq8, zq9, zqa, zqb, zqc, zqd, zqe, zqf] at hg2
   refine vo_guard_on rfl rfl rfl ?_
   refine vo_move_pv rfl rfl ?_
   refine vo_guard_on rfl rfl rfl ?_
   refine vo_index_pv (.int .i64 0) rfl rfl rfl E28.und inf3 sz3 sd sd ?_
   simp only [Int.toNat_natCast, Int.toNat_zero, getD_ints, getD_intss, getD_bools, getD_bytes, PV.cells]
   refine vo_guard_on rfl rfl rfl ?_
   refine vo_load_adr rfl rfl Try.underlying3 rfl ?_
   refine vo_guard_on rfl rfl rfl ?_
   refine vo_move_pv rfl rfl ?_
   refine vo_guard_on rfl rfl rfl ?_
   refine vo_binI rfl rfl rfl rfl trivial ?_
   refine vo_pick_t rfl rfl ?_
   refine vo_nil ?_
   refine hK10 _ ?_
   refine vc_cond rfl (fun hc3 => ?_) (fun hc3 => ?_)
   ·try simp only [zq0, zq1, zq2, zq3, zq4, zq5, zq6, zq7, zq8, zq9, zqa, zqb, zqc, zqd, zqe, zqf] at hc3
    refine vc_region ?_
    refine vo_move_ref rfl rfl ?_
    refine vo_move_pv rfl rfl ?_
    refine vo_move_pv rfl rfl ?_
    refine vo_slice_pv rfl rfl rfl rfl E28.und inf3 sz3 sd sd sd ?_
    simp only [Int.toNat_natCast, Int.toNat_zero, List.drop_zero, Nat.sub_zero, ← List.map_drop, ← List.map_take]
    refine vo_index_ref rfl rfl rfl rfl E23.und inf28 sz28 sd sd ?_
    try simp only [Int.toNat_natCast]
    refine vo_store_own rfl rfl rfl inf28 sz28 (by decide) rfl sd ?_
    try simp only [set_ints, set_intss, set_bools, rep_bools, rep_ints, Int.toNat_natCast, Int.toNat_zero]
    refine vo_nil ?_
    refine hK8 _ ?_
    refine vc_region ?_
    refine vo_binI rfl rfl rfl rfl sd ?_
    refine vo_move_pv rfl rfl ?_
    refine vo_nil ?_
    change again _ _ _ _ _ _
    refine again_mk rfl rfl rfl rfl ⟨_, ?_, k + 1, rfl, ?_, rfl, (congrArg (fun l => [Row.own 28 1 (some false) false (List.map ints l)]) (show _ = (lists.take (k+1)).map (tk x) ++ lists.drop (k+1) by rw [← map_set_tk (by omega), tk_t (by simp_all) (by simp_all)]; simp_all [List.take_of_length_le]))⟩
    ·omega
    ·omega
   ·try simp only [zq0, zq1, zq2, zq3, zq4, zq5, zq6, zq7, zq8, zq9, zqa, zqb, zqc, zqd, zqe, zqf] at hc3
    refine vc_skip ?_
    refine hK8 _ ?_
    refine vc_region ?_
    refine vo_binI rfl rfl rfl rfl sd ?_
    refine vo_move_pv rfl rfl ?_
    refine vo_nil ?_
    change again _ _ _ _ _ _
    refine again_mk rfl rfl rfl rfl ⟨_, ?_, k + 1, rfl, ?_, rfl, (congrArg (fun l => [Row.own 28 1 (some false) false (List.map ints l)]) (show (lists.take k).map (tk x) ++ lists.drop k = (lists.take (k+1)).map (tk x) ++ lists.drop (k+1) from map_keep_tk (by omega) x (tk_f (by simp_all))))⟩
    ·omega
    ·omega
  ·try simp only [zq0, zq1, zq2, zq3, zq4, zq5, zq6, zq7, zq8, zq9, zqa, zqb, zqc, zqd, zqe, zqf] at hg2
   refine vo_guard_off rfl rfl rfl rfl rfl ?_
   refine vo_guard_off rfl rfl rfl rfl rfl ?_
   refine vo_guard_off rfl rfl rfl rfl rfl ?_
   refine vo_guard_off rfl rfl rfl rfl rfl ?_
   refine vo_guard_off rfl rfl rfl rfl rfl ?_
   refine vo_pick_f rfl rfl ?_
   refine vo_nil ?_
   refine hK10 _ ?_
   refine vc_cond_f rfl ?_
   refine vc_skip ?_
   refine hK8 _ ?_
   refine vc_region ?_
   refine vo_binI rfl rfl rfl rfl sd ?_
   refine vo_move_pv rfl rfl ?_
   refine vo_nil ?_
   change again _ _ _ _ _ _
   refine again_mk rfl rfl rfl rfl ⟨_, ?_, k + 1, rfl, ?_, rfl, (congrArg (fun l => [Row.own 28 1 (some false) false (List.map ints l)]) (show (lists.take k).map (tk x) ++ lists.drop k = (lists.take (k+1)).map (tk x) ++ lists.drop (k+1) from map_keep_tk (by omega) x (tk_f (by simp_all))))⟩
   ·omega
   ·omega
 ·try simp only [zq0, zq1, zq2, zq3, zq4, zq5, zq6, zq7, zq8, zq9, zqa, zqb, zqc, zqd, zqe, zqf] at hc1
  refine vc_exit ?_
  refine hK4 _ ?_
  refine vc_seq fun K11 hK11 => ?_
  refine vc_region ?_
  refine vo_move_ref rfl rfl ?_
  refine vo_assign_ref rfl rfl ?_
  refine vo_nil ?_
  refine hK11 _ ?_
  refine vc_ret ?_
  change retG _ _ _ _ _
  refine retG_one 0 hC rfl rfl rfl rfl rfl ?_
  exact ⟨rfl, (congrArg (fun l => [Row.own 28 1 (some false) false (List.map ints l)]) (show (lists.take k).map (tk x) ++ lists.drop k = lists.map (tk x) by rw [take_all (by omega), List.drop_of_length_le (by omega), List.append_nil]))⟩


theorem take_sat {nl0 : Option Bool} {lists : List (List Int)} {x : Int} (hlists : lists.length < 1000000000) (hllists : ∀ l ∈ lists, l.length < 1000000000) : SatAt Try.prog 136 [.pv false (.sl nl0 1 (lists.map ints)), i64 x] [] (fun res rows => res = [.ref 0] ∧ rows = [Row.own 28 1 (some false) false ((lists.map (tk x)).map ints)]) := by
 refine sat_entry_g (ts := [4]) Try.func136 rfl rfl (by decide) (Nat.le_of_ble_eq_true rfl) fun C hC => ?_
 rw [Try.ntmps136]
 replace hC : C.nb = 0 := hC
 refine vc_seq fun K1 hK1 => ?_
 refine vc_region ?_
 refine vo_assign_pv rfl rfl ?_
 refine vo_nil ?_
 refine hK1 _ ?_
 refine vc_seq fun K2 hK2 => ?_
 refine vc_region ?_
 refine vo_buildSlice E23 rfl rfl rfl rfl rfl ?_
 refine vo_assign_ref rfl rfl ?_
 refine vo_nil ?_
 refine hK2 _ ?_
 refine vc_seq fun K3 hK3 => ?_
 refine vc_seq fun K4 hK4 => ?_
 refine vc_region ?_
 refine vo_assign_pv rfl rfl ?_
 refine vo_nil ?_
 refine hK4 _ ?_
 refine vc_block ?_
 refine vc_flagrow 0 rfl ?_
 refine vc_stN ?_
 refine vc_loop [0, 1, 5, 6] (fun mz vs rows => ∃ (k : Nat), mz = lists.length - k ∧ (k ≤ lists.length) ∧ vs = [.pv false (.sl nl0 1 (lists.map ints)), i64 x, .ref 0, i64 k] ∧ rows = [Row.own 28 1 (some false) false (((lists.take k).map (tk x)).map ints)]) (lists.length) (le_len hC rfl) ⟨rfl, rfl⟩ ⟨0, rfl, Nat.zero_le _, rfl, rfl⟩ ?_
 rintro mz vs rows - - ⟨k, rfl, hk, rfl, rfl⟩
 refine vc_seq fun K5 hK5 => ?_
 refine vc_seq fun K6 hK6 => ?_
 refine vc_region ?_
 refine vo_move_pv rfl rfl ?_
 refine vo_move_pv rfl rfl ?_
 refine vo_len_pv rfl rfl Try.underlying23 ?_
 refine vo_binI rfl rfl rfl rfl trivial ?_
 refine vo_nil ?_
 refine hK6 _ ?_
 refine vc_cond rfl (fun hc1 => ?_) (fun hc1 => ?_)
 ·try simp only [zq0, zq1, zq2, zq3, zq4, zq5, zq6, zq7, zq8, zq9, zqa, zqb, zqc, zqd, zqe, zqf] at hc1
  refine vc_skip ?_
  refine hK5 _ ?_
  refine vc_seq fun K7 hK7 => ?_
  refine vc_block ?_
  refine vc_seq fun K8 hK8 => ?_
  refine vc_region ?_
  refine vo_move_pv rfl rfl ?_
  refine vo_move_pv rfl rfl ?_
  refine vo_index_pv (.sl none 1 []) rfl rfl rfl E23.und inf28 sz28 sd sd ?_
  simp only [Int.toNat_natCast, Int.toNat_zero, getD_ints, getD_intss, getD_bools, getD_bytes, PV.cells]
  refine vo_load_adr rfl rfl Try.underlying28 rfl ?_
  refine vo_assign_pv rfl rfl ?_
  refine vo_nil ?_
  refine hK8 _ ?_
  refine vc_seq fun K9 hK9 => ?_
  refine vc_seq fun K10 hK10 => ?_
  refine vc_region ?_
  refine vo_move_pv rfl rfl ?_
  refine vo_len_pv rfl rfl Try.underlying28 ?_
  refine vo_binI rfl rfl rfl rfl trivial ?_
  refine vo_move_pv rfl rfl ?_
  refine vo_split 22 rfl (fun hg2 => ?_) (fun hg2 => ?_)
  ·try simp only [zq0, zq1, zq2, zq3, zq4, zq5, zq6, zq7, zq8, zq9, zqa, zqb, zqc, zqd, zqe, zqf] at hg2
   refine vo_guard_on rfl rfl rfl ?_
   refine vo_move_pv rfl rfl ?_
   refine vo_guard_on rfl rfl rfl ?_
   refine vo_index_pv (.int .i64 0) rfl rfl rfl E28.und inf3 sz3 sd sd ?_
   simp only [Int.toNat_natCast, Int.toNat_zero, getD_ints, getD_intss, getD_bools, getD_bytes, PV.cells]
   refine vo_guard_on rfl rfl rfl ?_
   refine vo_load_adr rfl rfl Try.underlying3 rfl ?_
   refine vo_guard_on rfl rfl rfl ?_
   refine vo_move_pv rfl rfl ?_
   refine vo_guard_on rfl rfl rfl ?_
   refine vo_binI rfl rfl rfl rfl trivial ?_
   refine vo_pick_t rfl rfl ?_
   refine vo_nil ?_
   refine hK10 _ ?_
   refine vc_cond rfl (fun hc3 => ?_) (fun hc3 => ?_)
   ·try simp only [zq0, zq1, zq2, zq3, zq4, zq5, zq6, zq7, zq8, zq9, zqa, zqb, zqc, zqd, zqe, zqf] at hc3
    refine vc_region ?_
    refine vo_move_pv rfl rfl ?_
    refine vo_slice_pv rfl rfl rfl rfl E28.und inf3 sz3 sd sd sd ?_
    simp only [Int.toNat_natCast, Int.toNat_zero, List.drop_zero, Nat.sub_zero, ← List.map_drop, ← List.map_take]
    refine vo_assign_pv rfl rfl ?_
    refine vo_nil ?_
    refine hK9 _ ?_
    refine vc_region ?_
    refine vo_move_ref rfl rfl ?_
    refine vo_move_pv rfl rfl ?_
    refine vo_weaken 32 rfl ?_
    refine vo_buildSlice E23 rfl rfl rfl rfl rfl ?_
    refine vo_append E23 rfl (by omega) rfl rfl rfl sd sd ?_
    refine vo_stN ?_
    try simp only [app_ints, app_intss, app_bools]
    refine vo_assign_ref rfl rfl ?_
    refine vo_nil ?_
    refine hK7 _ ?_
    refine vc_region ?_
    refine vo_move_pv rfl rfl ?_
    refine vo_binI rfl rfl rfl rfl sd ?_
    refine vo_assign_pv rfl rfl ?_
    refine vo_nil ?_
    change again _ _ _ _ _ _
    refine again_mk rfl rfl rfl rfl ⟨_, ?_, k + 1, rfl, ?_, rfl, (congrArg (fun l => [Row.own 28 1 (some false) false (List.map ints l)]) (show (lists.take k).map (tk x) ++ [((lists.getD k []).drop 1).take ((List.map intP (lists.getD k [])).length - 1)] = (lists.take (k+1)).map (tk x) by rw [take_dl, ← map_snoc_tk (by omega), tk_t (by simp_all) (by simp_all)]))⟩
    ·omega
    ·omega
   ·try simp only [zq0, zq1, zq2, zq3, zq4, zq5, zq6, zq7, zq8, zq9, zqa, zqb, zqc, zqd, zqe, zqf] at hc3
    refine vc_skip ?_
    refine hK9 _ ?_
    refine vc_region ?_
    refine vo_move_ref rfl rfl ?_
    refine vo_move_pv rfl rfl ?_
    refine vo_weaken 32 rfl ?_
    refine vo_buildSlice E23 rfl rfl rfl rfl rfl ?_
    refine vo_append E23 rfl (by omega) rfl rfl rfl sd sd ?_
    refine vo_stN ?_
    try simp only [app_ints, app_intss, app_bools]
    refine vo_assign_ref rfl rfl ?_
    refine vo_nil ?_
    refine hK7 _ ?_
    refine vc_region ?_
    refine vo_move_pv rfl rfl ?_
    refine vo_binI rfl rfl rfl rfl sd ?_
    refine vo_assign_pv rfl rfl ?_
    refine vo_nil ?_
    change again _ _ _ _ _ _
    refine again_mk rfl rfl rfl rfl ⟨_, ?_, k + 1, rfl, ?_, rfl, (congrArg (fun l => [Row.own 28 1 (some false) false (List.map ints l)]) (show (lists.take k).map (tk x) ++ [lists.getD k []] = (lists.take (k+1)).map (tk x) by rw [← map_snoc_tk (by omega), tk_f (by simp_all)]))⟩
    ·omega
    ·omega
  ·try simp only [zq0, zq1, zq2, zq3, zq4, zq5, zq6, zq7, zq8, zq9, zqa, zqb, zqc, zqd, zqe, zqf] at hg2
   refine vo_guard_off rfl rfl rfl rfl rfl ?_
   refine vo_guard_off rfl rfl rfl rfl rfl ?_
   refine vo_guard_off rfl rfl rfl rfl rfl ?_
   refine vo_guard_off rfl rfl rfl rfl rfl ?_
   refine vo_guard_off rfl rfl rfl rfl rfl ?_
   refine vo_pick_f rfl rfl ?_
   refine vo_nil ?_
   refine hK10 _ ?_
   refine vc_cond_f rfl ?_
   refine vc_skip ?_
   refine hK9 _ ?_
   refine vc_region ?_
   refine vo_move_ref rfl rfl ?_
   refine vo_move_pv rfl rfl ?_
   refine vo_weaken 32 rfl ?_
   refine vo_buildSlice E23 rfl rfl rfl rfl rfl ?_
   refine vo_append E23 rfl (by omega) rfl rfl rfl sd sd ?_
   refine vo_stN ?_
   try simp only [app_ints, app_intss, app_bools]
   refine vo_assign_ref rfl rfl ?_
   refine vo_nil ?_
   refine hK7 _ ?_
   refine vc_region ?_
   refine vo_move_pv rfl rfl ?_
   refine vo_binI rfl rfl rfl rfl sd ?_
   refine vo_assign_pv rfl rfl ?_
   refine vo_nil ?_
   change again _ _ _ _ _ _
   refine again_mk rfl rfl rfl rfl ⟨_, ?_, k + 1, rfl, ?_, rfl, (congrArg (fun l => [Row.own 28 1 (some false) false (List.map ints l)]) (show (lists.take k).map (tk x) ++ [lists.getD k []] = (lists.take (k+1)).map (tk x) by rw [← map_snoc_tk (by omega), tk_f (by simp_all)]))⟩
   ·omega
   ·omega
 ·try simp only [zq0, zq1, zq2, zq3, zq4, zq5, zq6, zq7, zq8, zq9, zqa, zqb, zqc, zqd, zqe, zqf] at hc1
  refine vc_exit ?_
  refine hK3 _ ?_
  refine vc_seq fun K11 hK11 => ?_
  refine vc_region ?_
  refine vo_move_ref rfl rfl ?_
  refine vo_assign_ref rfl rfl ?_
  refine vo_nil ?_
  refine hK11 _ ?_
  refine vc_ret ?_
  change retG _ _ _ _ _
  refine retG_one 0 hC rfl rfl rfl rfl rfl ?_
  exact ⟨rfl, (congrArg (fun l => [Row.own 28 1 (some false) false (List.map ints l)]) (show (lists.take k).map (tk x) = lists.map (tk x) by rw [take_all (by omega)]))⟩

end Go.Vl

namespace Go.Vl
set_option linter.unusedVariables false
set_option linter.unusedSimpArgs false
open Go.Proofs
theorem mg_step {ls : List (List Int)} {n : Nat} (h : (fhM ls).isSome = true) (hn : tot ls ≤ n) : tot (ls.map (tk ((fhM ls).getD 0))) < tot ls ∧ (mergeF n ls).1 = (fhM ls).getD 0 :: (mergeF (n-1) (ls.map (tk ((fhM ls).getD 0)))).1 ∧ (mergeF n ls).2 = (mergeF (n-1) (ls.map (tk ((fhM ls).getD 0)))).2 := by
  obtain ⟨x, hx⟩ := Option.isSome_iff_exists.1 h
  have h1 := fhM_tot hx
  rw [mergeF_some hx hn, hx]
  exact ⟨h1, rfl, rfl⟩
theorem mg_len {ls : List (List Int)} {x : Int} {N : Nat} (h : ∀ l ∈ ls, l.length < N) : ∀ l ∈ ls.map (tk x), l.length < N := by
  intro l hl
  obtain ⟨l', h1, rfl⟩ := List.mem_map.1 hl
  exact Nat.lt_of_le_of_lt (tk_len x l') (h _ h1)
theorem mg_none {ls : List (List Int)} {n : Nat} (h : ¬ (fhM ls).isSome = true) : mergeF n ls = ([], ls) := mergeF_none (by simpa using h)

theorem mergeAll_sat {nl0 : Option Bool} {lists : List (List Int)} (hlists : lists.length < 1000000000) (hllists : ∀ l ∈ lists, l.length < 1000000000) (ht : tot lists < 1000000000) : SatAt Try.prog 159 [.pv false (.sl nl0 1 (lists.map ints))] [] (fun res rows => res = [.ref 0, .pv false (.sl none 1 ((mergeM lists).2.map ints))] ∧ rows = [Row.own 3 1 none true (((mergeM lists).1).map intP)]) := by
 refine sat_entry_g (ts := [2, 3]) Try.func159 rfl rfl (by decide) (Nat.le_of_ble_eq_true rfl) fun C hC => ?_
 rw [Try.ntmps159]
 replace hC : C.nb = 0 := hC
 refine vc_seq fun K1 hK1 => ?_
 refine vc_region ?_
 refine vo_assign_pv rfl rfl ?_
 refine vo_assign_pv rfl rfl ?_
 refine vo_nil ?_
 refine hK1 _ ?_
 refine vc_seq fun K2 hK2 => ?_
 refine vc_region ?_
 refine vo_assign_pv rfl rfl ?_
 refine vo_nil ?_
 refine hK2 _ ?_
 refine vc_seq fun K3 hK3 => ?_
 refine vc_seq fun K4 hK4 => ?_
 refine vc_region ?_
 refine vo_move_pv rfl rfl ?_
 refine vo_call0 Try.func172 rfl rfl rfl rfl (firstFree_sat hlists hllists) ?_
 rintro _ _ ⟨rfl, rfl⟩
 refine ⟨rfl, rfl, .inl rfl, ?_⟩
 refine vo_move rfl ?_
 refine vo_extract rfl rfl rfl ?_
 refine vo_extract rfl rfl rfl ?_
 refine vo_assign_pv rfl rfl ?_
 refine vo_assign_pv rfl rfl ?_
 refine vo_nil ?_
 refine hK4 _ ?_
 refine vc_block ?_
 refine vc_own_nil 4 E28 rfl ?_
 refine vc_weaken 0 rfl ?_
 refine vc_stN ?_
 refine vc_loop [0, 4, 5, 6] (fun mz vs rows => ∃ (n : Nat) (ls : List (List Int)) (ys : List Int), mz = n ∧ (tot ls ≤ n) ∧ (ls.length = lists.length) ∧ (∀ l ∈ ls, l.length < 1000000000) ∧ (ys.length + tot ls ≤ tot lists) ∧ (ys ++ (mergeF n ls).1 = (mergeM lists).1) ∧ ((mergeF n ls).2 = (mergeM lists).2) ∧ vs = [.pv false (.sl none 1 (ls.map ints)), .ref 0, i64 ((fhM ls).getD 0), bo (fhM ls).isSome] ∧ rows = [Row.own 3 1 none true ((ys).map intP)]) (tot lists) (le_len hC rfl) ⟨rfl, rfl⟩ ⟨tot lists, lists, [], rfl, Nat.le_refl _, rfl, hllists, (by simp), rfl, rfl, rfl, rfl⟩ ?_
 rintro mz vs rows - - ⟨n, ls, ys, rfl, hn, hll, hle, hys, hm1, hm2, rfl, rfl⟩
 refine vc_seq fun K5 hK5 => ?_
 refine vc_seq fun K6 hK6 => ?_
 refine vc_region ?_
 refine vo_move_pv rfl rfl ?_
 refine vo_nil ?_
 refine hK6 _ ?_
 refine vc_cond rfl (fun hc1 => ?_) (fun hc1 => ?_)
 ·try simp only [zq0, zq1, zq2, zq3, zq4, zq5, zq6, zq7, zq8, zq9, zqa, zqb, zqc, zqd, zqe, zqf] at hc1
  refine vc_skip ?_
  refine hK5 _ ?_
  refine vc_seq fun K7 hK7 => ?_
  refine vc_block ?_
  refine vc_seq fun K8 hK8 => ?_
  refine vc_region ?_
  refine vo_move_ref rfl rfl ?_
  refine vo_move_pv rfl rfl ?_
  refine vo_buildSlice E28 rfl rfl rfl rfl rfl ?_
  refine vo_append E28 rfl (by omega) rfl rfl rfl sd sd ?_
  refine vo_stN ?_
  try simp only [app_ints, app_intss, app_bools]
  refine vo_assign_ref rfl rfl ?_
  refine vo_nil ?_
  refine hK8 _ ?_
  refine vc_region ?_
  refine vo_move_pv rfl rfl ?_
  refine vo_move_pv rfl rfl ?_
  refine vo_call [] Try.func173 rfl rfl rfl rfl rfl rfl rfl (withoutHead_sat (by omega) hle) ?_
  rintro _ _ ⟨rfl, rfl⟩
  refine ⟨Nat.le_of_ble_eq_true rfl, ⟨rfl, rfl, rfl, rfl⟩, .inl rfl, ?_⟩
  refine vo_stN ?_
  refine vo_expose 2 (by omega) rfl ?_
  refine vo_stN ?_
  refine vo_weaken 24 rfl ?_
  refine vo_flag 24 rfl ?_
  refine vo_stN ?_
  refine vo_assign_pv rfl rfl ?_
  refine vo_nil ?_
  refine hK7 _ ?_
  refine vc_region ?_
  refine vo_move_pv rfl rfl ?_
  refine vo_call0 Try.func172 rfl rfl rfl rfl (firstFree_sat (by simp; omega) (mg_len hle)) ?_
  rintro _ _ ⟨rfl, rfl⟩
  refine ⟨rfl, rfl, .inl rfl, ?_⟩
  refine vo_move rfl ?_
  refine vo_extract rfl rfl rfl ?_
  refine vo_extract rfl rfl rfl ?_
  refine vo_assign_pv rfl rfl ?_
  refine vo_assign_pv rfl rfl ?_
  refine vo_nil ?_
  change again _ _ _ _ _ _
  refine again_mk rfl rfl rfl rfl ⟨_, ?_, mz - 1, ls.map (tk ((fhM ls).getD 0)), ys ++ [((fhM ls).getD 0)], rfl, ?_, ?_, ?_, ?_, ?_, ?_, rfl, rfl⟩
  ·have := (mg_step hc1 hn).1; omega
  ·have := (mg_step hc1 hn).1; omega
  ·rw [List.length_map]; exact hll
  ·exact mg_len hle
  ·have := (mg_step hc1 hn).1; rw [List.length_append, List.length_singleton]; omega
  ·rw [← hm1, (mg_step hc1 hn).2.1, List.append_assoc]; rfl
  ·rw [← hm2, (mg_step hc1 hn).2.2]
 ·try simp only [zq0, zq1, zq2, zq3, zq4, zq5, zq6, zq7, zq8, zq9, zqa, zqb, zqc, zqd, zqe, zqf] at hc1
  refine vc_exit ?_
  refine hK3 _ ?_
  refine vc_seq fun K9 hK9 => ?_
  refine vc_region ?_
  refine vo_move_ref rfl rfl ?_
  refine vo_move_pv rfl rfl ?_
  refine vo_assign_ref rfl rfl ?_
  refine vo_assign_pv rfl rfl ?_
  refine vo_nil ?_
  refine hK9 _ ?_
  refine vc_ret ?_
  change retG _ _ _ _ _
  refine retG_one 0 hC rfl rfl rfl rfl rfl ?_
  have e := mg_none (n := mz) (Bool.eq_false_iff.1 hc1)
  rw [e] at hm1 hm2
  rw [← hm1, ← hm2, List.append_nil]; exact ⟨rfl, rfl⟩


theorem merge_sat {nl0 : Option Bool} {lists : List (List Int)} (hlists : lists.length < 1000000000) (hllists : ∀ l ∈ lists, l.length < 1000000000) (ht : tot lists < 1000000000) : SatAt Try.prog 109 [.pv false (.sl nl0 1 (lists.map ints))] [] (fun res rows => res = [.ref 0, .pv false (.sl none 1 ((mergeM lists).2.map ints))] ∧ rows = [Row.own 3 1 (some false) true (((mergeM lists).1).map intP)]) := by
 refine sat_entry_g (ts := [2, 3]) Try.func109 rfl rfl (by decide) (Nat.le_of_ble_eq_true rfl) fun C hC => ?_
 rw [Try.ntmps109]
 replace hC : C.nb = 0 := hC
 refine vc_seq fun K1 hK1 => ?_
 refine vc_region ?_
 refine vo_assign_pv rfl rfl ?_
 refine vo_assign_pv rfl rfl ?_
 refine vo_nil ?_
 refine hK1 _ ?_
 refine vc_seq fun K2 hK2 => ?_
 refine vc_region ?_
 refine vo_buildSlice E28 rfl rfl rfl rfl rfl ?_
 refine vo_assign_ref rfl rfl ?_
 refine vo_nil ?_
 refine hK2 _ ?_
 refine vc_block ?_
 refine vc_weaken 0 rfl ?_
 refine vc_stN ?_
 refine vc_loop [0, 4] (fun mz vs rows => ∃ (n : Nat) (ls : List (List Int)) (ys : List Int), mz = n ∧ (tot ls ≤ n) ∧ (ls.length = lists.length) ∧ (∀ l ∈ ls, l.length < 1000000000) ∧ (ys.length + tot ls ≤ tot lists) ∧ (ys ++ (mergeF n ls).1 = (mergeM lists).1) ∧ ((mergeF n ls).2 = (mergeM lists).2) ∧ vs = [.pv false (.sl none 1 (ls.map ints)), .ref 0] ∧ rows = [Row.own 3 1 (some false) true ((ys).map intP)]) (tot lists) (le_len hC rfl) ⟨rfl, rfl⟩ ⟨tot lists, lists, [], rfl, Nat.le_refl _, rfl, hllists, (by simp), rfl, rfl, rfl, rfl⟩ ?_
 rintro mz vs rows - - ⟨n, ls, ys, rfl, hn, hll, hle, hys, hm1, hm2, rfl, rfl⟩
 refine vc_block ?_
 refine vc_seq fun K3 hK3 => ?_
 refine vc_region ?_
 refine vo_move_pv rfl rfl ?_
 refine vo_call0 Try.func135 rfl rfl rfl rfl (firstHead_sat (by omega) hle) ?_
 rintro _ _ ⟨rfl, rfl⟩
 refine ⟨rfl, rfl, .inl rfl, ?_⟩
 refine vo_move rfl ?_
 refine vo_extract rfl rfl rfl ?_
 refine vo_extract rfl rfl rfl ?_
 refine vo_assign_pv rfl rfl ?_
 refine vo_assign_pv rfl rfl ?_
 refine vo_nil ?_
 refine hK3 _ ?_
 refine vc_seq fun K4 hK4 => ?_
 refine vc_seq fun K5 hK5 => ?_
 refine vc_region ?_
 refine vo_move_pv rfl rfl ?_
 refine vo_not rfl rfl ?_
 refine vo_nil ?_
 refine hK5 _ ?_
 refine vc_cond rfl (fun hc1 => ?_) (fun hc1 => ?_)
 ·try simp only [zq0, zq1, zq2, zq3, zq4, zq5, zq6, zq7, zq8, zq9, zqa, zqb, zqc, zqd, zqe, zqf] at hc1
  refine vc_seq fun K6 hK6 => ?_
  refine vc_region ?_
  refine vo_move_ref rfl rfl ?_
  refine vo_move_pv rfl rfl ?_
  refine vo_assign_ref rfl rfl ?_
  refine vo_assign_pv rfl rfl ?_
  refine vo_nil ?_
  refine hK6 _ ?_
  refine vc_ret ?_
  change retG _ _ _ _ _
  refine retG_one 0 hC rfl rfl rfl rfl rfl ?_
  have e := mg_none (n := mz) (Bool.eq_false_iff.1 hc1)
  rw [e] at hm1 hm2
  rw [← hm1, ← hm2, List.append_nil]; exact ⟨rfl, rfl⟩
 ·try simp only [zq0, zq1, zq2, zq3, zq4, zq5, zq6, zq7, zq8, zq9, zqa, zqb, zqc, zqd, zqe, zqf] at hc1
  refine vc_skip ?_
  refine hK4 _ ?_
  refine vc_seq fun K7 hK7 => ?_
  refine vc_region ?_
  refine vo_move_ref rfl rfl ?_
  refine vo_move_pv rfl rfl ?_
  refine vo_buildSlice E28 rfl rfl rfl rfl rfl ?_
  refine vo_append E28 rfl (by omega) rfl rfl rfl sd sd ?_
  refine vo_stN ?_
  try simp only [app_ints, app_intss, app_bools]
  refine vo_assign_ref rfl rfl ?_
  refine vo_nil ?_
  refine hK7 _ ?_
  refine vc_region ?_
  refine vo_move_pv rfl rfl ?_
  refine vo_move_pv rfl rfl ?_
  refine vo_call [] Try.func136 rfl rfl rfl rfl rfl rfl rfl (take_sat (by omega) hle) ?_
  rintro _ _ ⟨rfl, rfl⟩
  refine ⟨Nat.le_of_ble_eq_true rfl, ⟨rfl, rfl, rfl, rfl⟩, .inl rfl, ?_⟩
  refine vo_stN ?_
  refine vo_expose 2 (by omega) rfl ?_
  refine vo_stN ?_
  refine vo_weaken 23 rfl ?_
  refine vo_flag 23 rfl ?_
  refine vo_stN ?_
  refine vo_assign_pv rfl rfl ?_
  refine vo_nil ?_
  change again _ _ _ _ _ _
  refine again_mk rfl rfl rfl rfl ⟨_, ?_, mz - 1, ls.map (tk ((fhM ls).getD 0)), ys ++ [((fhM ls).getD 0)], rfl, ?_, ?_, ?_, ?_, ?_, ?_, rfl, rfl⟩
  ·have := (mg_step hc1 hn).1; omega
  ·have := (mg_step hc1 hn).1; omega
  ·rw [List.length_map]; exact hll
  ·exact mg_len hle
  ·have := (mg_step hc1 hn).1; rw [List.length_append, List.length_singleton]; omega
  ·rw [← hm1, (mg_step hc1 hn).2.1, List.append_assoc]; rfl
  ·rw [← hm2, (mg_step hc1 hn).2.2]

end Go.Vl

namespace Go.Vl
set_option linter.unusedVariables false
set_option linter.unusedSimpArgs false
open Go.Proofs
theorem tot_le {K : Nat} : ∀ {ls : List (List Int)}, (∀ l ∈ ls, l.length ≤ K) → tot ls ≤ ls.length * K
  | [], _ => Nat.zero_le _
  | a :: r, h => by
    have h1 := tot_le (ls := r) (fun l hl => h l (List.mem_cons_of_mem _ hl))
    have h2 := h a List.mem_cons_self
    simp only [tot, List.map_cons, List.sum_cons, List.length_cons, Nat.add_mul] at h1 ⊢
    omega
theorem OKLs.tot {ls : List (List Int)} (h : OKLs ls) : tot ls < 1000000000 := by
  have h1 := tot_le (K := 12) (ls := ls) (fun l hl => by have := (h.1 l hl).1; omega)
  have := h.2
  omega
theorem mgL_len (ls : List (List Int)) : (mergeM ls).2.length = ls.length := mergeF_len _ _
theorem mgL_mem {N : Nat} : ∀ (n : Nat) (ls : List (List Int)), (∀ l ∈ ls, l.length < N) → ∀ l ∈ (mergeF n ls).2, l.length < N
  | 0, ls, h => h
  | n+1, ls, h => by
    unfold mergeF
    split
    · exact h
    · exact mgL_mem n _ (mg_len h)
def mgOK (ls : List (List Int)) : Prop := OKLs ls ∧ hds (mergeM ls).2 = []
instance {ls : List (List Int)} : Decidable (mgOK ls) := by unfold mgOK; infer_instance
def mgR (ls : List (List Int)) : List Int := if mgOK ls then (mergeM ls).1 else []
def skR (ls : List (List Int)) : List Int := if OKLs ls then onceF [] (hds (mergeM ls).2) else []
theorem hds_take0 {ls : List (List Int)} {k : Nat} (h : k < ls.length) (h0 : hds (ls.take k) = []) (h1 : ¬ 0 < (ls.getD k []).length) : hds (ls.take (k+1)) = [] := by rw [hds_snoc h, h0, hd1_f h1]; rfl
theorem hds_ne {ls : List (List Int)} {k : Nat} (h : k < ls.length) (h1 : 0 < (ls.getD k []).length) : hds ls ≠ [] := by
  intro e
  have := hds_nil.1 e _ (getD_mem h [])
  rw [this] at h1; simp at h1
theorem hdsL (ls : List (List Int)) (k : Nat) : (hds (ls.take k)).length ≤ k := Nat.le_trans (hds_len _) (by rw [List.length_take]; omega)

theorem canMerge_sat {nl0 : Option Bool} {lists : List (List Int)} (hlists : lists.length < 1000000000) (hllists : ∀ l ∈ lists, l.length < 1000000000)  : SatAt Try.prog 158 [.pv false (.sl nl0 1 (lists.map ints))] [] (fun res rows => res = [bo (decide (OKLs lists))] ∧ rows = []) := by
 refine sat_entry (ts := [2]) Try.func158 rfl rfl (by decide) (Nat.le_of_ble_eq_true rfl) fun C hC => ?_
 rw [Try.ntmps158]
 replace hC : C.nb = 0 := hC
 refine vc_seq fun K1 hK1 => ?_
 refine vc_region ?_
 refine vo_assign_pv rfl rfl ?_
 refine vo_nil ?_
 refine hK1 _ ?_
 refine vc_seq fun K2 hK2 => ?_
 refine vc_seq fun K3 hK3 => ?_
 refine vc_region ?_
 refine vo_move_pv rfl rfl ?_
 refine vo_len_pv rfl rfl Try.underlying23 ?_
 refine vo_binI rfl rfl rfl rfl trivial ?_
 refine vo_nil ?_
 refine hK3 _ ?_
 refine vc_cond rfl (fun hc1 => ?_) (fun hc1 => ?_)
 ·try simp only [zq0, zq1, zq2, zq3, zq4, zq5, zq6, zq7, zq8, zq9, zqa, zqb, zqc, zqd, zqe, zqf] at hc1
  refine vc_seq fun K4 hK4 => ?_
  refine vc_region ?_
  refine vo_assign_pv rfl rfl ?_
  refine vo_nil ?_
  refine hK4 _ ?_
  refine vc_ret ?_
  change retPv _ _ _ _ _
  refine retPv_mk rfl rfl rfl ⟨?_, rfl⟩
  refine (congrArg (fun b => [bo b]) (?_ : _ = _) : [bo _] = [bo _])
  exact bF fun h => by have := h.2; omega
 ·try simp only [zq0, zq1, zq2, zq3, zq4, zq5, zq6, zq7, zq8, zq9, zqa, zqb, zqc, zqd, zqe, zqf] at hc1
  refine vc_skip ?_
  refine hK2 _ ?_
  refine vc_seq fun K5 hK5 => ?_
  refine vc_seq fun K6 hK6 => ?_
  refine vc_region ?_
  refine vo_move_pv rfl rfl ?_
  refine vo_len_pv rfl rfl Try.underlying23 ?_
  refine vo_move_pv rfl rfl ?_
  refine vo_nil ?_
  refine hK6 _ ?_
  refine vc_block ?_
  refine vc_stN ?_
  refine vc_loopF [8, 9] [10] [.pv false (.sl nl0 1 (lists.map ints)), i64 (lists.map ints).length] _ (fun mz vs => ∃ (k : Nat), mz = lists.length - k ∧ (k ≤ lists.length) ∧ (∀ l ∈ lists.take k, OKL l 12) ∧ vs = [i64 k]) (lists.length) rfl rfl (le_len hC rfl) ⟨rfl, rfl, rfl⟩ ⟨0, rfl, Nat.zero_le _, (by simp), rfl⟩ ?_
  rintro mz vs - ⟨k, rfl, hk, hf, rfl⟩
  refine vc_stN ?_
  refine vc_seq fun K7 hK7 => ?_
  refine vc_region ?_
  refine vo_binI rfl rfl rfl rfl trivial ?_
  refine vo_nil ?_
  refine hK7 _ ?_
  refine vc_seq fun K8 hK8 => ?_
  refine vc_cond rfl (fun hc2 => ?_) (fun hc2 => ?_)
  ·try simp only [zq0, zq1, zq2, zq3, zq4, zq5, zq6, zq7, zq8, zq9, zqa, zqb, zqc, zqd, zqe, zqf] at hc2
   refine vc_skip ?_
   refine hK8 _ ?_
   refine vc_seq fun K9 hK9 => ?_
   refine vc_block ?_
   refine vc_seq fun K10 hK10 => ?_
   refine vc_region ?_
   refine vo_index_pv (.sl none 1 []) rfl rfl rfl E23.und inf28 sz28 sd sd ?_
   simp only [Int.toNat_natCast, Int.toNat_zero, getD_ints, getD_intss, getD_bools, getD_bytes, PV.cells]
   refine vo_load_adr rfl rfl Try.underlying28 rfl ?_
   refine vo_assign_pv rfl rfl ?_
   refine vo_nil ?_
   refine hK10 _ ?_
   refine vc_seq fun K11 hK11 => ?_
   refine vc_region ?_
   refine vo_move_pv rfl rfl ?_
   refine vo_call0 Try.func100 rfl rfl rfl rfl (isList_sat (lens hllists _ (by omega))) ?_
   rintro _ _ ⟨rfl, rfl⟩
   refine ⟨rfl, rfl, .inl rfl, ?_⟩
   refine vo_not rfl rfl ?_
   refine vo_nil ?_
   refine hK11 _ ?_
   refine vc_cond rfl (fun hc3 => ?_) (fun hc3 => ?_)
   ·try simp only [zq0, zq1, zq2, zq3, zq4, zq5, zq6, zq7, zq8, zq9, zqa, zqb, zqc, zqd, zqe, zqf] at hc3
    refine vc_seq fun K12 hK12 => ?_
    refine vc_region ?_
    refine vo_assign_pv rfl rfl ?_
    refine vo_nil ?_
    refine hK12 _ ?_
    refine vc_ret ?_
    change retPv _ _ _ _ _
    refine retPv_mk rfl rfl rfl ⟨?_, rfl⟩
    refine (congrArg (fun b => [bo b]) (?_ : _ = _) : [bo _] = [bo _])
    exact bF fun h => hc3 (h.1 _ (getD_mem (show k < lists.length by omega) []))
   ·try simp only [zq0, zq1, zq2, zq3, zq4, zq5, zq6, zq7, zq8, zq9, zqa, zqb, zqc, zqd, zqe, zqf] at hc3
    refine vc_skip ?_
    refine hK9 _ ?_
    refine vc_region ?_
    refine vo_binI rfl rfl rfl rfl sd ?_
    refine vo_move_pv rfl rfl ?_
    refine vo_nil ?_
    change againF _ _ _ _ _ _ _ _ _
    refine againF_mk rfl rfl rfl rfl rfl rfl ⟨_, ?_, k + 1, rfl, ?_, ?_, rfl⟩
    ·omega
    ·omega
    ·exact (all_take_succ (by omega) []).2 ⟨hf, hc3⟩
  ·try simp only [zq0, zq1, zq2, zq3, zq4, zq5, zq6, zq7, zq8, zq9, zqa, zqb, zqc, zqd, zqe, zqf] at hc2
   refine vc_exit ?_
   refine hK5 _ ?_
   refine vc_seq fun K13 hK13 => ?_
   refine vc_region ?_
   refine vo_assign_pv rfl rfl ?_
   refine vo_nil ?_
   refine hK13 _ ?_
   refine vc_ret ?_
   change retPv _ _ _ _ _
   refine retPv_mk rfl rfl rfl ⟨?_, rfl⟩
   refine (congrArg (fun b => [bo b]) (?_ : _ = _) : [bo _] = [bo _])
   rw [take_all (by omega)] at hf; exact bT ⟨hf, by omega⟩


theorem eachOnce_sat {nl0 : Option Bool} {list : List Int} (hlist : list.length < 1000000000)  : SatAt Try.prog 174 [.pv false (.sl nl0 1 (list.map intP))] [] (fun res rows => ∃ nl, res = [.ref 0] ∧ rows = [Row.own 3 1 nl true ((onceF [] list).map intP)]) := by
 refine sat_entry_g (ts := [2]) Try.func174 rfl rfl (by decide) (Nat.le_of_ble_eq_true rfl) fun C hC => ?_
 rw [Try.ntmps174]
 replace hC : C.nb = 0 := hC
 refine vc_seq fun K1 hK1 => ?_
 refine vc_region ?_
 refine vo_assign_pv rfl rfl ?_
 refine vo_nil ?_
 refine hK1 _ ?_
 refine vc_seq fun K2 hK2 => ?_
 refine vc_region ?_
 refine vo_assign_pv rfl rfl ?_
 refine vo_nil ?_
 refine hK2 _ ?_
 refine vc_seq fun K3 hK3 => ?_
 refine vc_seq fun K4 hK4 => ?_
 refine vc_region ?_
 refine vo_move_pv rfl rfl ?_
 refine vo_len_pv rfl rfl Try.underlying28 ?_
 refine vo_move_pv rfl rfl ?_
 refine vo_nil ?_
 refine hK4 _ ?_
 refine vc_block ?_
 refine vc_own_nil 3 E28 rfl ?_
 refine vc_stN ?_
 refine vc_loop [3, 6, 7, 8] (fun mz vs rows => ∃ (k : Nat) (acc : List Int), mz = list.length - k ∧ (k ≤ list.length) ∧ (onceF acc (list.drop k) = onceF [] list) ∧ (acc.length ≤ k) ∧ vs = [.ref 0, .pv false (.sl nl0 1 (list.map intP)), i64 (list.map intP).length, i64 k] ∧ rows = [Row.own 3 1 none true ((acc).map intP)]) (list.length) (le_len hC rfl) ⟨rfl, rfl⟩ ⟨0, [], rfl, Nat.zero_le _, rfl, (Nat.zero_le _), rfl, rfl⟩ ?_
 rintro mz vs rows - - ⟨k, acc, rfl, hk, hf, hl, rfl, rfl⟩
 refine vc_seq fun K5 hK5 => ?_
 refine vc_region ?_
 refine vo_binI rfl rfl rfl rfl trivial ?_
 refine vo_nil ?_
 refine hK5 _ ?_
 refine vc_seq fun K6 hK6 => ?_
 refine vc_cond rfl (fun hc1 => ?_) (fun hc1 => ?_)
 ·try simp only [zq0, zq1, zq2, zq3, zq4, zq5, zq6, zq7, zq8, zq9, zqa, zqb, zqc, zqd, zqe, zqf] at hc1
  refine vc_skip ?_
  refine hK6 _ ?_
  refine vc_seq fun K7 hK7 => ?_
  refine vc_block ?_
  refine vc_seq fun K8 hK8 => ?_
  refine vc_region ?_
  refine vo_index_pv (.int .i64 0) rfl rfl rfl E28.und inf3 sz3 sd sd ?_
  simp only [Int.toNat_natCast, Int.toNat_zero, getD_ints, getD_intss, getD_bools, getD_bytes, PV.cells]
  refine vo_load_adr rfl rfl Try.underlying3 rfl ?_
  refine vo_assign_pv rfl rfl ?_
  refine vo_nil ?_
  refine hK8 _ ?_
  refine vc_seq fun K9 hK9 => ?_
  refine vc_region ?_
  refine vo_move_ref rfl rfl ?_
  refine vo_move_pv rfl rfl ?_
  refine vo_call0 Try.func108 rfl rfl rfl rfl (Contains_sat (by omega)) ?_
  rintro _ _ ⟨rfl, rfl⟩
  refine ⟨rfl, rfl, .inr rfl, ?_⟩
  refine vo_not rfl rfl ?_
  refine vo_nil ?_
  refine hK9 _ ?_
  refine vc_cond rfl (fun hc2 => ?_) (fun hc2 => ?_)
  ·try simp only [zq0, zq1, zq2, zq3, zq4, zq5, zq6, zq7, zq8, zq9, zqa, zqb, zqc, zqd, zqe, zqf] at hc2
   refine vc_region ?_
   refine vo_move_ref rfl rfl ?_
   refine vo_move_pv rfl rfl ?_
   refine vo_buildSlice E28 rfl rfl rfl rfl rfl ?_
   refine vo_append E28 rfl (by omega) rfl rfl rfl sd sd ?_
   refine vo_stN ?_
   try simp only [app_ints, app_intss, app_bools]
   refine vo_assign_ref rfl rfl ?_
   refine vo_nil ?_
   refine hK7 _ ?_
   refine vc_region ?_
   refine vo_binI rfl rfl rfl rfl sd ?_
   refine vo_move_pv rfl rfl ?_
   refine vo_nil ?_
   change again _ _ _ _ _ _
   refine again_mk rfl rfl rfl rfl ⟨_, ?_, k + 1, acc ++ [list.getD k 0], rfl, ?_, ?_, ?_, rfl, rfl⟩
   ·omega
   ·omega
   ·exact ((onceF_drop acc list k (by omega)).trans (by rw [if_neg hc2])).symm.trans hf
   ·rw [List.length_append, List.length_singleton]; omega
  ·try simp only [zq0, zq1, zq2, zq3, zq4, zq5, zq6, zq7, zq8, zq9, zqa, zqb, zqc, zqd, zqe, zqf] at hc2
   refine vc_skip ?_
   refine hK7 _ ?_
   refine vc_region ?_
   refine vo_binI rfl rfl rfl rfl sd ?_
   refine vo_move_pv rfl rfl ?_
   refine vo_nil ?_
   change again _ _ _ _ _ _
   refine again_mk rfl rfl rfl rfl ⟨_, ?_, k + 1, acc, rfl, ?_, ?_, ?_, rfl, rfl⟩
   ·omega
   ·omega
   ·exact ((onceF_drop acc list k (by omega)).trans (by rw [if_pos hc2])).symm.trans hf
   ·omega
 ·try simp only [zq0, zq1, zq2, zq3, zq4, zq5, zq6, zq7, zq8, zq9, zqa, zqb, zqc, zqd, zqe, zqf] at hc1
  refine vc_exit ?_
  refine hK3 _ ?_
  refine vc_seq fun K10 hK10 => ?_
  refine vc_region ?_
  refine vo_move_ref rfl rfl ?_
  refine vo_assign_ref rfl rfl ?_
  refine vo_nil ?_
  refine hK10 _ ?_
  refine vc_ret ?_
  change retG _ _ _ _ _
  refine retG_one 0 hC rfl rfl rfl rfl rfl ?_
  exact ⟨_, rfl, rows_eq (g := intP) (by rw [← hf, List.drop_of_length_le (by omega)]; rfl)⟩


theorem heads_sat {nl0 : Option Bool} {lists : List (List Int)} (hlists : lists.length < 1000000000) (hllists : ∀ l ∈ lists, l.length < 1000000000)  : SatAt Try.prog 160 [.pv false (.sl nl0 1 (lists.map ints))] [] (fun res rows => ∃ nl, res = [.ref 0] ∧ rows = [Row.own 3 1 nl true ((onceF [] (hds lists)).map intP)]) := by
 refine sat_entry_g (ts := [2]) Try.func160 rfl rfl (by decide) (Nat.le_of_ble_eq_true rfl) fun C hC => ?_
 rw [Try.ntmps160]
 replace hC : C.nb = 0 := hC
 refine vc_seq fun K1 hK1 => ?_
 refine vc_region ?_
 refine vo_assign_pv rfl rfl ?_
 refine vo_nil ?_
 refine hK1 _ ?_
 refine vc_seq fun K2 hK2 => ?_
 refine vc_region ?_
 refine vo_assign_pv rfl rfl ?_
 refine vo_nil ?_
 refine hK2 _ ?_
 refine vc_seq fun K3 hK3 => ?_
 refine vc_seq fun K4 hK4 => ?_
 refine vc_region ?_
 refine vo_move_pv rfl rfl ?_
 refine vo_len_pv rfl rfl Try.underlying23 ?_
 refine vo_move_pv rfl rfl ?_
 refine vo_nil ?_
 refine hK4 _ ?_
 refine vc_block ?_
 refine vc_own_nil 3 E28 rfl ?_
 refine vc_stN ?_
 refine vc_loop [3, 6, 7, 8] (fun mz vs rows => ∃ (k : Nat), mz = lists.length - k ∧ (k ≤ lists.length) ∧ vs = [.ref 0, .pv false (.sl nl0 1 (lists.map ints)), i64 (lists.map ints).length, i64 k] ∧ rows = [Row.own 3 1 none true ((hds (lists.take k)).map intP)]) (lists.length) (le_len hC rfl) ⟨rfl, rfl⟩ ⟨0, rfl, Nat.zero_le _, rfl, rfl⟩ ?_
 rintro mz vs rows - - ⟨k, rfl, hk, rfl, rfl⟩
 have hL := hdsL lists k
 refine vc_seq fun K5 hK5 => ?_
 refine vc_region ?_
 refine vo_binI rfl rfl rfl rfl trivial ?_
 refine vo_nil ?_
 refine hK5 _ ?_
 refine vc_seq fun K6 hK6 => ?_
 refine vc_cond rfl (fun hc1 => ?_) (fun hc1 => ?_)
 ·try simp only [zq0, zq1, zq2, zq3, zq4, zq5, zq6, zq7, zq8, zq9, zqa, zqb, zqc, zqd, zqe, zqf] at hc1
  refine vc_skip ?_
  refine hK6 _ ?_
  refine vc_seq fun K7 hK7 => ?_
  refine vc_block ?_
  refine vc_seq fun K8 hK8 => ?_
  refine vc_region ?_
  refine vo_index_pv (.sl none 1 []) rfl rfl rfl E23.und inf28 sz28 sd sd ?_
  simp only [Int.toNat_natCast, Int.toNat_zero, getD_ints, getD_intss, getD_bools, getD_bytes, PV.cells]
  refine vo_load_adr rfl rfl Try.underlying28 rfl ?_
  refine vo_assign_pv rfl rfl ?_
  refine vo_nil ?_
  refine hK8 _ ?_
  refine vc_seq fun K9 hK9 => ?_
  refine vc_region ?_
  refine vo_move_pv rfl rfl ?_
  refine vo_len_pv rfl rfl Try.underlying28 ?_
  refine vo_binI rfl rfl rfl rfl trivial ?_
  refine vo_nil ?_
  refine hK9 _ ?_
  refine vc_cond rfl (fun hc2 => ?_) (fun hc2 => ?_)
  ·try simp only [zq0, zq1, zq2, zq3, zq4, zq5, zq6, zq7, zq8, zq9, zqa, zqb, zqc, zqd, zqe, zqf] at hc2
   refine vc_region ?_
   refine vo_move_ref rfl rfl ?_
   refine vo_move_pv rfl rfl ?_
   refine vo_index_pv (.int .i64 0) rfl rfl rfl E28.und inf3 sz3 sd sd ?_
   simp only [Int.toNat_natCast, Int.toNat_zero, getD_ints, getD_intss, getD_bools, getD_bytes, PV.cells]
   refine vo_load_adr rfl rfl Try.underlying3 rfl ?_
   refine vo_buildSlice E28 rfl rfl rfl rfl rfl ?_
   refine vo_append E28 rfl (by omega) rfl rfl rfl sd sd ?_
   refine vo_stN ?_
   try simp only [app_ints, app_intss, app_bools]
   refine vo_assign_ref rfl rfl ?_
   refine vo_nil ?_
   refine hK7 _ ?_
   refine vc_region ?_
   refine vo_binI rfl rfl rfl rfl sd ?_
   refine vo_move_pv rfl rfl ?_
   refine vo_nil ?_
   change again _ _ _ _ _ _
   refine again_mk rfl rfl rfl rfl ⟨_, ?_, k + 1, rfl, ?_, rfl, (congrArg (fun l => [Row.own 3 1 none true (List.map intP l)]) (show hds (lists.take k) ++ [(lists.getD k []).getD 0 0] = hds (lists.take (k+1)) by rw [hds_snoc (by omega), hd1_t (by omega)]))⟩
   ·omega
   ·omega
  ·try simp only [zq0, zq1, zq2, zq3, zq4, zq5, zq6, zq7, zq8, zq9, zqa, zqb, zqc, zqd, zqe, zqf] at hc2
   refine vc_skip ?_
   refine hK7 _ ?_
   refine vc_region ?_
   refine vo_binI rfl rfl rfl rfl sd ?_
   refine vo_move_pv rfl rfl ?_
   refine vo_nil ?_
   change again _ _ _ _ _ _
   refine again_mk rfl rfl rfl rfl ⟨_, ?_, k + 1, rfl, ?_, rfl, (congrArg (fun l => [Row.own 3 1 none true (List.map intP l)]) (show hds (lists.take k) = hds (lists.take (k+1)) by rw [hds_snoc (by omega), hd1_f (by omega), List.append_nil]))⟩
   ·omega
   ·omega
 ·try simp only [zq0, zq1, zq2, zq3, zq4, zq5, zq6, zq7, zq8, zq9, zqa, zqb, zqc, zqd, zqe, zqf] at hc1
  refine vc_exit ?_
  refine hK3 _ ?_
  refine vc_seq fun K10 hK10 => ?_
  refine vc_region ?_
  refine vo_move_ref rfl rfl ?_
  refine vo_expose 0 (by omega) rfl ?_
  refine vo_weaken 22 rfl ?_
  refine vo_stN ?_
  refine vo_call [] Try.func174 rfl rfl rfl rfl rfl rfl rfl (eachOnce_sat (list := hds (lists.take k)) (by have := hdsL lists k; omega)) ?_
  rintro _ _ ⟨nl9, rfl, rfl⟩
  refine ⟨Nat.le_of_ble_eq_true rfl, ⟨rfl, rfl, rfl, rfl⟩, .inl rfl, ?_⟩
  refine vo_stN ?_
  refine vo_assign_ref rfl rfl ?_
  refine vo_nil ?_
  refine hK10 _ ?_
  refine vc_ret ?_
  change retG _ _ _ _ _
  refine retG_one 1 hC rfl rfl rfl rfl rfl ?_
  exact ⟨_, rfl, rows_eq (g := intP) (by rw [take_all (by omega)])⟩


theorem empty_sat {nl0 : Option Bool} {lists : List (List Int)} (hlists : lists.length < 1000000000) (hllists : ∀ l ∈ lists, l.length < 1000000000)  : SatAt Try.prog 110 [.pv false (.sl nl0 1 (lists.map ints))] [] (fun res rows => res = [bo (decide (hds lists = []))] ∧ rows = []) := by
 refine sat_entry (ts := [2]) Try.func110 rfl rfl (by decide) (Nat.le_of_ble_eq_true rfl) fun C hC => ?_
 rw [Try.ntmps110]
 replace hC : C.nb = 0 := hC
 refine vc_seq fun K1 hK1 => ?_
 refine vc_region ?_
 refine vo_assign_pv rfl rfl ?_
 refine vo_nil ?_
 refine hK1 _ ?_
 refine vc_seq fun K2 hK2 => ?_
 refine vc_seq fun K3 hK3 => ?_
 refine vc_region ?_
 refine vo_assign_pv rfl rfl ?_
 refine vo_nil ?_
 refine hK3 _ ?_
 refine vc_block ?_
 refine vc_stN ?_
 refine vc_loopF [0] [3] [.pv false (.sl nl0 1 (lists.map ints))] _ (fun mz vs => ∃ (k : Nat), mz = lists.length - k ∧ (k ≤ lists.length) ∧ (hds (lists.take k) = []) ∧ vs = [i64 k]) (lists.length) rfl rfl (le_len hC rfl) ⟨rfl, rfl, rfl⟩ ⟨0, rfl, Nat.zero_le _, rfl, rfl⟩ ?_
 rintro mz vs - ⟨k, rfl, hk, hf, rfl⟩
 refine vc_stN ?_
 refine vc_seq fun K4 hK4 => ?_
 refine vc_seq fun K5 hK5 => ?_
 refine vc_region ?_
 refine vo_move_pv rfl rfl ?_
 refine vo_move_pv rfl rfl ?_
 refine vo_len_pv rfl rfl Try.underlying23 ?_
 refine vo_binI rfl rfl rfl rfl trivial ?_
 refine vo_nil ?_
 refine hK5 _ ?_
 refine vc_cond rfl (fun hc1 => ?_) (fun hc1 => ?_)
 ·try simp only [zq0, zq1, zq2, zq3, zq4, zq5, zq6, zq7, zq8, zq9, zqa, zqb, zqc, zqd, zqe, zqf] at hc1
  refine vc_skip ?_
  refine hK4 _ ?_
  refine vc_seq fun K6 hK6 => ?_
  refine vc_block ?_
  refine vc_seq fun K7 hK7 => ?_
  refine vc_region ?_
  refine vo_move_pv rfl rfl ?_
  refine vo_move_pv rfl rfl ?_
  refine vo_index_pv (.sl none 1 []) rfl rfl rfl E23.und inf28 sz28 sd sd ?_
  simp only [Int.toNat_natCast, Int.toNat_zero, getD_ints, getD_intss, getD_bools, getD_bytes, PV.cells]
  refine vo_load_adr rfl rfl Try.underlying28 rfl ?_
  refine vo_len_pv rfl rfl Try.underlying28 ?_
  refine vo_binI rfl rfl rfl rfl trivial ?_
  refine vo_nil ?_
  refine hK7 _ ?_
  refine vc_cond rfl (fun hc2 => ?_) (fun hc2 => ?_)
  ·try simp only [zq0, zq1, zq2, zq3, zq4, zq5, zq6, zq7, zq8, zq9, zqa, zqb, zqc, zqd, zqe, zqf] at hc2
   refine vc_seq fun K8 hK8 => ?_
   refine vc_region ?_
   refine vo_assign_pv rfl rfl ?_
   refine vo_nil ?_
   refine hK8 _ ?_
   refine vc_ret ?_
   change retPv _ _ _ _ _
   refine retPv_mk rfl rfl rfl ⟨?_, rfl⟩
   refine (congrArg (fun b => [bo b]) (?_ : _ = _) : [bo _] = [bo _])
   exact bF (hds_ne (k := k) (by omega) (by omega))
  ·try simp only [zq0, zq1, zq2, zq3, zq4, zq5, zq6, zq7, zq8, zq9, zqa, zqb, zqc, zqd, zqe, zqf] at hc2
   refine vc_skip ?_
   refine hK6 _ ?_
   refine vc_region ?_
   refine vo_move_pv rfl rfl ?_
   refine vo_binI rfl rfl rfl rfl sd ?_
   refine vo_assign_pv rfl rfl ?_
   refine vo_nil ?_
   change againF _ _ _ _ _ _ _ _ _
   refine againF_mk rfl rfl rfl rfl rfl rfl ⟨_, ?_, k + 1, rfl, ?_, ?_, rfl⟩
   ·omega
   ·omega
   ·exact hds_take0 (by omega) hf (by omega)
 ·try simp only [zq0, zq1, zq2, zq3, zq4, zq5, zq6, zq7, zq8, zq9, zqa, zqb, zqc, zqd, zqe, zqf] at hc1
  refine vc_exit ?_
  refine hK2 _ ?_
  refine vc_seq fun K9 hK9 => ?_
  refine vc_region ?_
  refine vo_assign_pv rfl rfl ?_
  refine vo_nil ?_
  refine hK9 _ ?_
  refine vc_ret ?_
  change retPv _ _ _ _ _
  refine retPv_mk rfl rfl rfl ⟨?_, rfl⟩
  refine (congrArg (fun b => [bo b]) (?_ : _ = _) : [bo _] = [bo _])
  rw [take_all (by omega)] at hf; exact bT hf

end Go.Vl

namespace Go.Vl
set_option linter.unusedVariables false
set_option linter.unusedSimpArgs false
open Go.Proofs
theorem mgR_no {ls : List (List Int)} (h : ¬ mgOK ls) : mgR ls = [] := if_neg h
theorem mgR_yes {ls : List (List Int)} (h : mgOK ls) : mgR ls = (mergeM ls).1 := if_pos h
theorem mgL_all {ls : List (List Int)} {N : Nat} (h : ∀ l ∈ ls, l.length < N) : ∀ l ∈ (mergeM ls).2, l.length < N := mgL_mem _ _ h
theorem mgO_len (ls : List (List Int)) : (mergeM ls).1.length ≤ tot ls := by have := mergeF_tot (tot ls) ls; unfold mergeM; omega
theorem mgR_len {ls : List (List Int)} : (mgR ls).length < 1000000000 := by
  by_cases h : mgOK ls
  · rw [mgR_yes h]; exact Nat.lt_of_le_of_lt (mgO_len ls) h.1.tot
  · rw [mgR_no h]; simp
theorem once0 {l : List Int} (h : ¬ 0 < (onceF [] l).length) : l = [] := once_nil.1 (List.eq_nil_of_length_eq_zero (by omega))
theorem once1 {l : List Int} (h : 0 < (onceF [] l).length) : l ≠ [] := fun e => by rw [e] at h; simp [onceF] at h
theorem implMergeLists_sat {nl0 : Option Bool} {lists : List (List Int)} (hlists : lists.length < 1000000000) (hllists : ∀ l ∈ lists, l.length < 1000000000) : SatAt Try.prog 133 [.pv false (.sl nl0 1 (lists.map ints))] [] (fun res rows => ∃ nl, res = [.ref 0, bo (decide (mgOK lists))] ∧ rows = [Row.own 3 1 nl true ((mgR lists).map intP)]) := by
 refine sat_entry_g (ts := [2, 3]) Try.func133 rfl rfl (by decide) (Nat.le_of_ble_eq_true rfl) fun C hC => ?_
 rw [Try.ntmps133]
 replace hC : C.nb = 0 := hC
 refine vc_seq fun K1 hK1 => ?_
 refine vc_region ?_
 refine vo_assign_pv rfl rfl ?_
 refine vo_assign_pv rfl rfl ?_
 refine vo_nil ?_
 refine hK1 _ ?_
 refine vc_seq fun K2 hK2 => ?_
 refine vc_seq fun K3 hK3 => ?_
 refine vc_region ?_
 refine vo_move_pv rfl rfl ?_
 refine vo_call0 Try.func158 rfl rfl rfl rfl (canMerge_sat hlists hllists) ?_
 rintro _ _ ⟨rfl, rfl⟩
 refine ⟨rfl, rfl, .inl rfl, ?_⟩
 refine vo_not rfl rfl ?_
 refine vo_nil ?_
 refine hK3 _ ?_
 refine vc_cond rfl (fun hc1 => ?_) (fun hc1 => ?_)
 ·try simp only [zq0, zq1, zq2, zq3, zq4, zq5, zq6, zq7, zq8, zq9, zqa, zqb, zqc, zqd, zqe, zqf] at hc1
  refine vc_seq fun K4 hK4 => ?_
  refine vc_region ?_
  refine vo_assign_pv rfl rfl ?_
  refine vo_assign_pv rfl rfl ?_
  refine vo_nil ?_
  refine hK4 _ ?_
  refine vc_own_nil 2 E28 rfl ?_
  refine vc_ret ?_
  change retG _ _ _ _ _
  refine retG_one 0 hC rfl rfl rfl rfl rfl ?_
  exact ⟨_, congrArg (fun b => [SV.ref 0, bo b]) (bF fun h => hc1 h.1), rows_eq (g := intP) ((mgR_no fun h => hc1 h.1).symm)⟩
 ·try simp only [zq0, zq1, zq2, zq3, zq4, zq5, zq6, zq7, zq8, zq9, zqa, zqb, zqc, zqd, zqe, zqf] at hc1
  refine vc_skip ?_
  refine hK2 _ ?_
  refine vc_seq fun K5 hK5 => ?_
  refine vc_region ?_
  refine vo_move_pv rfl rfl ?_
  refine vo_call [] Try.func159 rfl rfl rfl rfl rfl rfl rfl (mergeAll_sat hlists hllists hc1.tot) ?_
  rintro _ _ ⟨rfl, rfl⟩
  refine ⟨Nat.le_of_ble_eq_true rfl, ⟨rfl, rfl, rfl, rfl⟩, .inl rfl, ?_⟩
  refine vo_stN ?_
  refine vo_move rfl ?_
  refine vo_extract rfl rfl rfl ?_
  refine vo_extract rfl rfl rfl ?_
  refine vo_assign_ref rfl rfl ?_
  refine vo_assign_pv rfl rfl ?_
  refine vo_nil ?_
  refine hK5 _ ?_
  refine vc_seq fun K6 hK6 => ?_
  refine vc_seq fun K7 hK7 => ?_
  refine vc_region ?_
  refine vo_move_pv rfl rfl ?_
  refine vo_call [] Try.func160 rfl rfl rfl rfl rfl rfl rfl (heads_sat (lists := (mergeM lists).2) (by rw [mgL_len]; omega) (mgL_all hllists)) ?_
  rintro _ _ ⟨nl9, rfl, rfl⟩
  refine ⟨Nat.le_of_ble_eq_true rfl, ⟨rfl, rfl, rfl, rfl⟩, .inl rfl, ?_⟩
  refine vo_stN ?_
  refine vo_len_ref rfl rfl rfl Try.underlying28 ?_
  refine vo_binI rfl rfl rfl rfl trivial ?_
  refine vo_nil ?_
  refine hK7 _ ?_
  refine vc_cond rfl (fun hc2 => ?_) (fun hc2 => ?_)
  ·try simp only [zq0, zq1, zq2, zq3, zq4, zq5, zq6, zq7, zq8, zq9, zqa, zqb, zqc, zqd, zqe, zqf] at hc2
   refine vc_seq fun K8 hK8 => ?_
   refine vc_region ?_
   refine vo_assign_pv rfl rfl ?_
   refine vo_assign_pv rfl rfl ?_
   refine vo_nil ?_
   refine hK8 _ ?_
   refine vc_own_nil 2 E28 rfl ?_
   refine vc_ret ?_
   change retG _ _ _ _ _
   refine retG_one 2 hC rfl rfl rfl rfl rfl ?_
   exact ⟨_, congrArg (fun b => [SV.ref 0, bo b]) (bF fun h => once1 (by omega) h.2), rows_eq (g := intP) ((mgR_no fun h => once1 (by omega) h.2).symm)⟩
  ·try simp only [zq0, zq1, zq2, zq3, zq4, zq5, zq6, zq7, zq8, zq9, zqa, zqb, zqc, zqd, zqe, zqf] at hc2
   refine vc_skip ?_
   refine hK6 _ ?_
   refine vc_seq fun K9 hK9 => ?_
   refine vc_region ?_
   refine vo_move_ref rfl rfl ?_
   refine vo_assign_ref rfl rfl ?_
   refine vo_assign_pv rfl rfl ?_
   refine vo_nil ?_
   refine hK9 _ ?_
   refine vc_ret ?_
   change retG _ _ _ _ _
   refine retG_one 0 hC rfl rfl rfl rfl rfl ?_
   exact ⟨_, congrArg (fun b => [SV.ref 0, bo b]) (bT ⟨hc1, once0 (by omega)⟩), rows_eq (g := intP) ((mgR_yes ⟨hc1, once0 (by omega)⟩).symm)⟩

end Go.Vl

namespace Go.Vl
set_option linter.unusedVariables false
set_option linter.unusedSimpArgs false
open Go.Proofs

end Go.Vl

namespace Go.Vl
set_option linter.unusedVariables false
set_option linter.unusedSimpArgs false
open Go.Proofs
theorem fM_ge (x : Int) : ∀ (l : List Int) (i : Int), 0 ≤ i → x ∈ l → i ≤ fM x l i
  | [], _, _, h => by cases h
  | y :: l, i, hi, h => by
    unfold fM
    split
    · exact Int.le_refl _
    · rename_i hy
      rcases List.mem_cons.1 h with h | h
      · exact absurd h.symm hy
      · have := fM_ge x l (i+1) (by omega) h
        omega
theorem tk_not {x : Int} {l : List Int} (h : l.Nodup) (hb : ¬ bhd x l) : x ∉ tk x l := by
  cases l with
  | nil => simp [tk]
  | cons y l =>
    by_cases hy : y = x
    · rw [tk_t (by simp) (by simpa using hy), ← hy]
      exact (List.nodup_cons.1 h).1
    · rw [tk_f (by simpa using hy)]
      intro hm
      rcases List.mem_cons.1 hm with h1 | h1
      · exact hy h1.symm
      · apply hb
        unfold bhd fM
        rw [if_neg hy]
        have := fM_ge x l (0+1) (by omega) h1
        omega
theorem tk_nodup {x : Int} {l : List Int} (h : l.Nodup) : (tk x l).Nodup := by
  unfold tk; split
  · exact (List.drop_sublist 1 l).nodup h
  · exact h
theorem tk_sub {x y : Int} {l : List Int} (h : y ∈ tk x l) : y ∈ l := by
  unfold tk at h; split at h
  · exact List.mem_of_mem_drop h
  · exact h
theorem mergeF_mem : ∀ (n : Nat) (ls : List (List Int)) (x : Int), x ∈ (mergeF n ls).1 → ∃ l ∈ ls, x ∈ l
  | 0, ls, x, h => by simp [mergeF] at h
  | n+1, ls, x, h => by
    unfold mergeF at h
    split at h
    · simp at h
    · rename_i y hy
      rcases List.mem_cons.1 h with h | h
      · obtain ⟨l, h1, h2, h3, _⟩ := fhF_some hy
        exact ⟨l, h1, by rw [h, ← h3]; exact getD_mem h2 0⟩
      · obtain ⟨l', h1, h2⟩ := mergeF_mem n _ x h
        obtain ⟨l, h3, rfl⟩ := List.mem_map.1 h1
        exact ⟨l, h3, tk_sub h2⟩
theorem mergeF_nodup : ∀ (n : Nat) (ls : List (List Int)), (∀ l ∈ ls, l.Nodup) → (mergeF n ls).1.Nodup
  | 0, ls, h => by simp [mergeF]
  | n+1, ls, h => by
    unfold mergeF
    split
    · exact List.nodup_nil
    · rename_i x hx
      obtain ⟨_, _, _, _, hb⟩ := fhF_some hx
      refine List.nodup_cons.2 ⟨fun hm => ?_, mergeF_nodup n _ fun l' hl' => ?_⟩
      · obtain ⟨l', h1, h2⟩ := mergeF_mem n _ x hm
        obtain ⟨l, h3, rfl⟩ := List.mem_map.1 h1
        exact tk_not (h _ h3) (fun hbl => hb ⟨l, h3, hbl⟩) h2
      · obtain ⟨l, h3, rfl⟩ := List.mem_map.1 hl'
        exact tk_nodup (h _ h3)
/-- Orders. -/
def ordL (o : List (List Int)) (l : List Int) : List (List Int) := l.map (fun x => o.getD x.toNat [])
def ordS (o : List (List Int)) (l : List Int) (c : Int) : List Int :=
  if ∃ x ∈ l, o.getD x.toNat [] = [] then [] else if hds (mergeM (ordL o l ++ [l])).2 = [] then c :: (mergeM (ordL o l ++ [l])).1 else []
def ordT (b : List (List Int)) : Nat → List (List Int)
  | 0 => []
  | n+1 => ordT b n ++ [ordS (ordT b n) (b.getD n []) n]
def ordM (b : List (List Int)) (c : Nat) : List Int := ordS (ordT b c) (b.getD c []) c
theorem ordT_len (b : List (List Int)) : ∀ n, (ordT b n).length = n
  | 0 => rfl
  | n+1 => by rw [ordT, List.length_append, ordT_len b n]; rfl
theorem ordT_get (b : List (List Int)) : ∀ (n k : Nat), k < n → (ordT b n).getD k [] = ordM b k
  | n+1, k, h => by
    rw [ordT]
    by_cases hk : k < n
    · rw [← ordT_get b n k hk]; simp only [List.getD]; rw [List.getElem?_append_left (by rw [ordT_len]; exact hk)]
    · have : k = n := by omega
      subst this
      simp only [List.getD]; rw [List.getElem?_append_right (by rw [ordT_len]; exact Nat.le_refl _), ordT_len, Nat.sub_self]; rfl
def OKord (o : List Int) (c : Nat) : Prop := o.Nodup ∧ ∀ x ∈ o, 0 ≤ x ∧ x ≤ c
theorem pig : ∀ (n : Nat) (o : List Int), o.Nodup → (∀ x ∈ o, 0 ≤ x ∧ x < n) → o.length ≤ n
  | 0, [], _, _ => Nat.le_refl _
  | 0, x :: o, _, h => by have := h x List.mem_cons_self; omega
  | n+1, o, h, hx => by
    by_cases hm : (n : Int) ∈ o
    · have h1 := pig n (o.erase n) (h.erase _) fun x h2 => by
        obtain ⟨h3, h4⟩ := (h.mem_erase_iff).1 h2
        have := hx x h4
        omega
      rw [List.length_erase_of_mem hm] at h1
      omega
    · have h1 := pig n o h fun x h2 => by
        have := hx x h2
        have : x ≠ n := fun e => hm (e ▸ h2)
        omega
      omega
theorem nodup_len {o : List Int} {c : Nat} (h : OKord o c) : o.length ≤ c + 1 := pig (c+1) o h.1 fun x hx => by have := h.2 x hx; omega
theorem VB.at {b : List (List Int)} (h : VB b) {c : Nat} (hc : c < b.length) : (b.getD c []).length ≤ 4 ∧ (b.getD c []).Nodup ∧ ∀ x ∈ b.getD c [], 0 ≤ x ∧ x ≤ (c : Int) - 1 := ((vb_iff b).1 h).2 c hc |>.2
theorem ordL_ok {b : List (List Int)} (hv : VB b) {c : Nat} (hc : c < b.length) (ih : ∀ k < c, OKord (ordM b k) k) : ∀ l ∈ ordL (ordT b c) (b.getD c []) ++ [b.getD c []], l.Nodup ∧ l.length ≤ 12 ∧ ∀ x ∈ l, 0 ≤ x ∧ x ≤ (c : Int) - 1 := by
  have h12 := hv.2.1
  obtain ⟨h4, hn, hx⟩ := hv.at hc
  intro l hl
  rcases List.mem_append.1 hl with h1 | h1
  · obtain ⟨x, h2, rfl⟩ := List.mem_map.1 h1
    have h3 := hx x h2
    have e := ordT_get b c x.toNat (by omega)
    have h5 := ih x.toNat (by omega)
    have h6 := nodup_len h5
    rw [e]
    exact ⟨h5.1, by omega, fun y hy => by have := h5.2 y hy; omega⟩
  · rw [List.mem_singleton.1 h1]
    exact ⟨hn, by omega, hx⟩
theorem ordM_ok {b : List (List Int)} (hv : VB b) : ∀ c, c < b.length → OKord (ordM b c) c := by
  intro c
  induction c using Nat.strongRecOn with
  | ind c ih =>
    intro hc
    have hL := ordL_ok hv hc (fun k hk => ih k hk (by omega))
    unfold ordM ordS
    split
    · exact ⟨List.nodup_nil, by simp⟩
    · split
      · refine ⟨List.nodup_cons.2 ⟨fun hm => ?_, mergeF_nodup _ _ fun l hl => (hL l hl).1⟩, fun x hx => ?_⟩
        · obtain ⟨l, h1, h2⟩ := mergeF_mem _ _ _ hm
          have := (hL l h1).2.2 _ h2
          omega
        · rcases List.mem_cons.1 hx with h | h
          · omega
          · obtain ⟨l, h1, h2⟩ := mergeF_mem _ _ _ h
            have := (hL l h1).2.2 _ h2
            omega
      · exact ⟨List.nodup_nil, by simp⟩
theorem ordM_len {b : List (List Int)} (hv : VB b) {c : Nat} (hc : c < b.length) : (ordM b c).length ≤ 12 := by
  have := nodup_len (ordM_ok hv c hc)
  have := hv.2.1
  omega
theorem ordL_OKLs {b : List (List Int)} (hv : VB b) {c : Nat} (hc : c < b.length) : OKLs (ordL (ordT b c) (b.getD c []) ++ [b.getD c []]) := by
  have hL := ordL_ok hv hc (fun k hk => ordM_ok hv k (by omega))
  obtain ⟨h4, _, _⟩ := hv.at hc
  refine ⟨fun l hl => ⟨?_, (hL l hl).1⟩, ?_⟩
  · have := (hL l hl).2.1; omega
  · simp only [ordL, List.length_append, List.length_map, List.length_singleton]; omega

end Go.Vl

namespace Go.Vl
set_option linter.unusedVariables false
set_option linter.unusedSimpArgs false
open Go.Proofs
theorem ordL_snoc (o : List (List Int)) {l : List Int} {k : Nat} (h : k < l.length) : ordL o (l.take k) ++ [o.getD (l.getD k 0).toNat []] = ordL o (l.take (k+1)) := by
  have e : l.getD k 0 = l[k] := by simp [List.getD, List.getElem?_eq_getElem h]
  unfold ordL
  rw [List.take_succ_eq_append_getElem h, List.map_append, e]; rfl
theorem ordL_len (o : List (List Int)) (l : List Int) : (ordL o l).length = l.length := List.length_map ..
theorem ordM_stuck {b : List (List Int)} {c : Nat} {x : Int} (hv : VB b) (hc : c < b.length) (hx : x ∈ b.getD c []) (h : ordM b x.toNat = []) : ordM b c = [] := by
  have := (hv.at hc).2.2 x hx
  unfold ordM ordS
  rw [if_pos ⟨x, hx, by rw [ordT_get b c _ (by omega)]; exact h⟩]
theorem ordM_go {b : List (List Int)} {c : Nat} (h : ∀ x ∈ b.getD c [], (ordT b c).getD x.toNat [] ≠ []) : ordM b c = if hds (mergeM (ordL (ordT b c) (b.getD c []) ++ [b.getD c []])).2 = [] then (c : Int) :: (mergeM (ordL (ordT b c) (b.getD c []) ++ [b.getD c []])).1 else [] := by
  unfold ordM ordS
  rw [if_neg (fun ⟨x, h1, h2⟩ => h x h1 h2)]
theorem ordT_at {b : List (List Int)} (hv : VB b) {c : Nat} (hc : c < b.length) {x : Int} (hx : x ∈ b.getD c []) : (ordT b c).getD x.toNat [] = ordM b x.toNat := by
  have := (hv.at hc).2.2 x hx
  exact ordT_get b c _ (by omega)
theorem row1_eqF {el : TypeId} {e : Nat} {nl : Option Bool} {f : Bool} {a b : List PV} (h : a = b) : [Row.own el e nl f a] = [Row.own el e nl f b] := by rw [h]

theorem orderOf_step {nl0 : Option Bool} {bases : List (List Int)} {c : Nat} (hbases : bases.length < 1000000000) (hlbases : ∀ l ∈ bases, l.length < 1000000000) (hv : VB bases) (hc : c < bases.length) (ih : ∀ x : Int, 0 ≤ x → x < c → SatAt Try.prog 65 [.pv false (.sl nl0 1 (bases.map ints)), i64 x] [] (fun res rows => ∃ nl, res = [.ref 0] ∧ rows = [Row.own 3 1 nl true ((ordM bases x.toNat).map intP)])) : SatAt Try.prog 65 [.pv false (.sl nl0 1 (bases.map ints)), i64 c] [] (fun res rows => ∃ nl, res = [.ref 0] ∧ rows = [Row.own 3 1 nl true ((ordM bases c).map intP)]) := by
  refine sat_entry_g (ts := [4]) Try.func65 rfl rfl (by decide) (Nat.le_of_ble_eq_true rfl) fun C hC => ?_
  rw [Try.ntmps65]
  replace hC : C.nb = 0 := hC
  refine vc_seq fun K1 hK1 => ?_
  refine vc_region ?_
  refine vo_assign_pv rfl rfl ?_
  refine vo_nil ?_
  refine hK1 _ ?_
  refine vc_seq fun K2 hK2 => ?_
  refine vc_region ?_
  refine vo_buildSlice E23 rfl rfl rfl rfl rfl ?_
  refine vo_assign_ref rfl rfl ?_
  refine vo_nil ?_
  refine hK2 _ ?_
  refine vc_seq fun K3 hK3 => ?_
  refine vc_seq fun K4 hK4 => ?_
  refine vc_region ?_
  refine vo_assign_pv rfl rfl ?_
  refine vo_nil ?_
  refine hK4 _ ?_
  refine vc_block ?_
  refine vc_flagrow 0 rfl ?_
  refine vc_stN ?_
  refine vc_loop [0, 1, 5, 6] (fun mz vs rows => ∃ (k : Nat), mz = (bases.getD c []).length - k ∧ (k ≤ (bases.getD c []).length) ∧ (∀ x ∈ (bases.getD c []).take k, (ordT bases c).getD x.toNat [] ≠ []) ∧ vs = [.pv false (.sl nl0 1 (bases.map ints)), i64 c, .ref 0, i64 k] ∧ rows = [Row.own 28 1 (some false) false ((ordL (ordT bases c) ((bases.getD c []).take k)).map ints)]) ((bases.getD c []).length) (le_len hC rfl) ⟨rfl, rfl⟩ ⟨0, rfl, Nat.zero_le _, (by simp), rfl, rfl⟩ ?_
  rintro mz vs rows - - ⟨k, rfl, hk, hf, rfl, rfl⟩
  have hll := ordL_len (ordT bases c) ((bases.getD c []).take k)
  rw [List.length_take] at hll
  have h4 := (hv.at hc).1
  refine vc_seq fun K5 hK5 => ?_
  refine vc_seq fun K6 hK6 => ?_
  refine vc_region ?_
  refine vo_move_pv rfl rfl ?_
  refine vo_move_pv rfl rfl ?_
  refine vo_move_pv rfl rfl ?_
  refine vo_index_pv (.sl none 1 []) rfl rfl rfl E23.und inf28 sz28 sd sd ?_
  simp only [Int.toNat_natCast, Int.toNat_zero, getD_ints, getD_intss, getD_bools, getD_bytes, PV.cells]
  refine vo_load_adr rfl rfl Try.underlying28 rfl ?_
  refine vo_len_pv rfl rfl Try.underlying28 ?_
  refine vo_binI rfl rfl rfl rfl trivial ?_
  refine vo_nil ?_
  refine hK6 _ ?_
  refine vc_cond rfl (fun hc1 => ?_) (fun hc1 => ?_)
  · try simp only [zq0, zq1, zq2, zq3, zq4, zq5, zq6, zq7, zq8, zq9, zqa, zqb, zqc, zqd, zqe, zqf] at hc1
    have hm := getD_mem (show k < (bases.getD c []).length by omega) 0
    have hb := (hv.at hc).2.2 _ hm
    have he := ordT_at hv hc hm
    have hle := ordM_len hv (show ((bases.getD c []).getD k 0).toNat < bases.length by omega)
    refine vc_skip ?_
    refine hK5 _ ?_
    refine vc_seq fun K7 hK7 => ?_
    refine vc_block ?_
    refine vc_seq fun K8 hK8 => ?_
    refine vc_region ?_
    refine vo_move_pv rfl rfl ?_
    refine vo_move_pv rfl rfl ?_
    refine vo_move_pv rfl rfl ?_
    refine vo_index_pv (.sl none 1 []) rfl rfl rfl E23.und inf28 sz28 sd sd ?_
    simp only [Int.toNat_natCast, Int.toNat_zero, getD_ints, getD_intss, getD_bools, getD_bytes, PV.cells]
    refine vo_load_adr rfl rfl Try.underlying28 rfl ?_
    refine vo_move_pv rfl rfl ?_
    refine vo_index_pv (.int .i64 0) rfl rfl rfl E28.und inf3 sz3 sd sd ?_
    simp only [Int.toNat_natCast, Int.toNat_zero, getD_ints, getD_intss, getD_bools, getD_bytes, PV.cells]
    refine vo_load_adr rfl rfl Try.underlying3 rfl ?_
    refine vo_call [] Try.func65 rfl rfl rfl rfl rfl rfl rfl (ih _ hb.1 (by omega)) ?_
    rintro _ _ ⟨nl9, rfl, rfl⟩
    refine ⟨Nat.le_of_ble_eq_true rfl, ⟨rfl, rfl, rfl, rfl⟩, .inl rfl, ?_⟩
    refine vo_stN ?_
    refine vo_expose 1 (by omega) rfl ?_
    refine vo_stN ?_
    refine vo_weaken 28 rfl ?_
    refine vo_flag 28 rfl ?_
    refine vo_stN ?_
    refine vo_assign_pv rfl rfl ?_
    refine vo_nil ?_
    refine hK8 _ ?_
    refine vc_seq fun K9 hK9 => ?_
    refine vc_seq fun K10 hK10 => ?_
    refine vc_region ?_
    refine vo_move_pv rfl rfl ?_
    refine vo_len_pv rfl rfl Try.underlying28 ?_
    refine vo_binI rfl rfl rfl rfl trivial ?_
    refine vo_nil ?_
    refine hK10 _ ?_
    refine vc_cond rfl (fun hc2 => ?_) (fun hc2 => ?_)
    · try simp only [zq0, zq1, zq2, zq3, zq4, zq5, zq6, zq7, zq8, zq9, zqa, zqb, zqc, zqd, zqe, zqf] at hc2
      refine vc_seq fun K11 hK11 => ?_
      refine vc_region ?_
      refine vo_buildSlice E28 rfl rfl rfl rfl rfl ?_
      refine vo_assign_ref rfl rfl ?_
      refine vo_nil ?_
      refine hK11 _ ?_
      refine vc_ret ?_
      change retG _ _ _ _ _
      refine retG_one 2 hC rfl rfl rfl rfl rfl ?_
      exact ⟨_, rfl, rows_eq (g := intP) ((ordM_stuck hv hc hm (List.eq_nil_of_length_eq_zero (by omega))).symm)⟩
    · try simp only [zq0, zq1, zq2, zq3, zq4, zq5, zq6, zq7, zq8, zq9, zqa, zqb, zqc, zqd, zqe, zqf] at hc2
      refine vc_skip ?_
      refine hK9 _ ?_
      refine vc_region ?_
      refine vo_move_ref rfl rfl ?_
      refine vo_move_pv rfl rfl ?_
      refine vo_weaken 34 rfl ?_
      refine vo_buildSlice E23 rfl rfl rfl rfl rfl ?_
      refine vo_append E23 rfl (by omega) rfl rfl rfl sd sd ?_
      refine vo_stN ?_
      try simp only [app_ints, app_intss, app_bools]
      refine vo_assign_ref rfl rfl ?_
      refine vo_nil ?_
      refine hK7 _ ?_
      refine vc_region ?_
      refine vo_move_pv rfl rfl ?_
      refine vo_binI rfl rfl rfl rfl sd ?_
      refine vo_assign_pv rfl rfl ?_
      refine vo_nil ?_
      change again _ _ _ _ _ _
      refine again_mk rfl rfl rfl rfl ⟨_, ?_, k + 1, rfl, ?_, ?_, rfl, (congrArg (fun l => [Row.own 28 1 (some false) false (List.map ints l)]) (show ordL (ordT bases c) ((bases.getD c []).take k) ++ [ordM bases ((bases.getD c []).getD k 0).toNat] = ordL (ordT bases c) ((bases.getD c []).take (k+1)) by rw [← he, ordL_snoc _ (by omega)]))⟩
      · omega
      · omega
      · exact (all_take_succ (by omega) 0).2 ⟨hf, fun e => by rw [he] at e; rw [e] at hc2; simp at hc2⟩
  · try simp only [zq0, zq1, zq2, zq3, zq4, zq5, zq6, zq7, zq8, zq9, zqa, zqb, zqc, zqd, zqe, zqf] at hc1
    have hk2 : k = (bases.getD c []).length := by omega
    subst hk2
    rw [take_all (Nat.le_refl _)]
    rw [take_all (Nat.le_refl _)] at hf
    have hO := ordL_OKLs hv hc
    have hmo := Nat.lt_of_le_of_lt (mgO_len (ordL (ordT bases c) (bases.getD c []) ++ [(bases.getD c [])])) hO.tot
    have h4 := (hv.at hc).1
    have hll := ordL_len (ordT bases c) (bases.getD c [])
    refine vc_exit ?_
    refine hK3 _ ?_
    refine vc_seq fun K12 hK12 => ?_
    refine vc_region ?_
    refine vo_move_ref rfl rfl ?_
    refine vo_move_pv rfl rfl ?_
    refine vo_move_pv rfl rfl ?_
    refine vo_index_pv (.sl none 1 []) rfl rfl rfl E23.und inf28 sz28 sd sd ?_
    simp only [Int.toNat_natCast, Int.toNat_zero, getD_ints, getD_intss, getD_bools, getD_bytes, PV.cells]
    refine vo_load_adr rfl rfl Try.underlying28 rfl ?_
    refine vo_weaken 42 rfl ?_
    refine vo_buildSlice E23 rfl rfl rfl rfl rfl ?_
    refine vo_append E23 rfl (by omega) rfl rfl rfl sd sd ?_
    refine vo_stN ?_
    try simp only [app_ints, app_intss, app_bools]
    refine vo_expose 0 (by omega) rfl ?_
    refine vo_weaken 44 rfl ?_
    refine vo_stN ?_
    refine vo_call [] Try.func109 rfl rfl rfl rfl rfl rfl rfl (merge_sat (lists := ordL (ordT bases c) (bases.getD c []) ++ [(bases.getD c [])]) (by have := hO.2; omega) (fun l hl => by have := (hO.1 l hl).1; omega) hO.tot) ?_
    rintro _ _ ⟨rfl, rfl⟩
    refine ⟨Nat.le_of_ble_eq_true rfl, ⟨rfl, rfl, rfl, rfl⟩, .inl rfl, ?_⟩
    refine vo_stN ?_
    refine vo_move rfl ?_
    refine vo_extract rfl rfl rfl ?_
    refine vo_extract rfl rfl rfl ?_
    refine vo_assign_ref rfl rfl ?_
    refine vo_assign_pv rfl rfl ?_
    refine vo_nil ?_
    refine hK12 _ ?_
    refine vc_seq fun K13 hK13 => ?_
    refine vc_seq fun K14 hK14 => ?_
    refine vc_region ?_
    refine vo_move_pv rfl rfl ?_
    refine vo_call0 Try.func110 rfl rfl rfl rfl (empty_sat (by rw [mgL_len]; have := hO.2; omega) (mgL_all (fun l hl => by have := (hO.1 l hl).1; omega))) ?_
    rintro _ _ ⟨rfl, rfl⟩
    refine ⟨rfl, rfl, .inl rfl, ?_⟩
    refine vo_not rfl rfl ?_
    refine vo_nil ?_
    refine hK14 _ ?_
    refine vc_cond rfl (fun hc3 => ?_) (fun hc3 => ?_)
    · try simp only [zq0, zq1, zq2, zq3, zq4, zq5, zq6, zq7, zq8, zq9, zqa, zqb, zqc, zqd, zqe, zqf] at hc3
      refine vc_seq fun K15 hK15 => ?_
      refine vc_region ?_
      refine vo_buildSlice E28 rfl rfl rfl rfl rfl ?_
      refine vo_assign_ref rfl rfl ?_
      refine vo_nil ?_
      refine hK15 _ ?_
      refine vc_ret ?_
      change retG _ _ _ _ _
      refine retG_one 3 hC rfl rfl rfl rfl rfl ?_
      exact ⟨_, rfl, row1_eqF (by rw [ordM_go hf, if_neg hc3]; rfl)⟩
    · try simp only [zq0, zq1, zq2, zq3, zq4, zq5, zq6, zq7, zq8, zq9, zqa, zqb, zqc, zqd, zqe, zqf] at hc3
      refine vc_skip ?_
      refine hK13 _ ?_
      refine vc_seq fun K16 hK16 => ?_
      refine vc_region ?_
      refine vo_move_pv rfl rfl ?_
      refine vo_buildSlice E28 rfl rfl rfl rfl rfl ?_
      refine vo_move_ref rfl rfl ?_
      refine vo_append E28 rfl (by omega) rfl rfl rfl sd sd ?_
      refine vo_stN ?_
      try simp only [app_ints, app_intss, app_bools]
      refine vo_assign_ref rfl rfl ?_
      refine vo_nil ?_
      refine hK16 _ ?_
      refine vc_ret ?_
      change retG _ _ _ _ _
      refine retG_one 3 hC rfl rfl rfl rfl rfl ?_
      exact ⟨_, rfl, row1_eqF (by rw [ordM_go hf, if_pos hc3]; rfl)⟩

theorem orderOf_sat {nl0 : Option Bool} {bases : List (List Int)} (hbases : bases.length < 1000000000) (hlbases : ∀ l ∈ bases, l.length < 1000000000) (hv : VB bases) : ∀ (n : Nat), n < bases.length → SatAt Try.prog 65 [.pv false (.sl nl0 1 (bases.map ints)), i64 n] [] (fun res rows => ∃ nl, res = [.ref 0] ∧ rows = [Row.own 3 1 nl true ((ordM bases n).map intP)]) := by
 intro n
 induction n using Nat.strongRecOn with
 | ind n ih =>
  intro hn
  refine orderOf_step hbases hlbases hv hn fun x h0 h1 => ?_
  obtain ⟨k, rfl⟩ := Int.eq_ofNat_of_zero_le h0
  exact ih k (by omega) (by omega)

end Go.Vl

namespace Go.Vl
set_option linter.unusedVariables false
set_option linter.unusedSimpArgs false
open Go.Proofs
abbrev ordP (l : List Int) : PV := .sl (some l.isEmpty) 1 (l.map intP)
def orOK (b : List (List Int)) (c : Int) : Prop := (VB b ∧ 0 ≤ c ∧ c < b.length) ∧ ordM b c.toNat ≠ []
instance {b : List (List Int)} {c : Int} : Decidable (orOK b c) := by unfold orOK; infer_instance
def orR (b : List (List Int)) (c : Int) : List Int := if orOK b c then ordM b c.toNat else []
theorem getD_ordP (o : List (List Int)) (k : Nat) : (o.map ordP).getD k (.sl (some true) 1 []) = .sl (some (o.getD k []).isEmpty) 1 ((o.getD k []).map intP) := by
  simp only [List.getD, List.getElem?_map]
  cases o[k]? <;> rfl
theorem ordS_stuck {o : List (List Int)} {l : List Int} {c x : Int} (hx : x ∈ l) (h : o.getD x.toNat [] = []) : ordS o l c = [] := if_pos ⟨x, hx, h⟩
theorem ordS_go {o : List (List Int)} {l : List Int} {c : Int} (h : ∀ x ∈ l, o.getD x.toNat [] ≠ []) : ordS o l c = if hds (mergeM (ordL o l ++ [l])).2 = [] then c :: (mergeM (ordL o l ++ [l])).1 else [] := by
  unfold ordS
  rw [if_neg (fun ⟨x, h1, h2⟩ => h x h1 h2)]
theorem row1_eqN {el : TypeId} {e : Nat} {nl nl' : Option Bool} {f : Bool} {a b : List PV} (hn : nl = nl') (h : a = b) : [Row.own el e nl f a] = [Row.own el e nl' f b] := by rw [hn, h]
theorem bEmp {l : List Int} {b : Bool} (h1 : (some l.isEmpty = some true) → b = true) (h2 : (some l.isEmpty = some false) → b = false) : b = l.isEmpty := by cases l <;> simp_all
theorem fill_ord {o : List (List Int)} {n k : Nat} (h : k < n) (ho : o.length = k) (v : List Int) : ((o ++ List.replicate (n - k) []).map ordP).set k (ordP v) = ((o ++ [v]) ++ List.replicate (n - (k+1)) []).map ordP := by
  rw [show n - k = (n - (k+1)) + 1 by omega, List.replicate_succ, ← List.map_set, List.set_append_right _ _ (by omega), ho, Nat.sub_self, List.set_cons_zero, List.append_assoc]; rfl

theorem orderFrom_sat {nl0 nl1 : Option Bool} {o : List (List Int)} {list : List Int} {c : Int} (ho : o.length < 1000000000) (hl4 : list.length ≤ 4) (hlo : ∀ l ∈ o, l.length < 1000000000) (hx : ∀ x ∈ list, 0 ≤ x ∧ x < o.length) (hOK : (∀ x ∈ list, o.getD x.toNat [] ≠ []) → OKLs (ordL o list ++ [list])) : SatAt Try.prog 107 [.pv false (.sl nl0 1 (o.map ordP)), .pv false (.sl nl1 1 (list.map intP)), i64 c] [] (fun res rows => res = [.ref 0] ∧ rows = [Row.own 3 1 (some (ordS o list c).isEmpty) true ((ordS o list c).map intP)]) := by
 refine sat_entry_g (ts := [6]) Try.func107 rfl rfl (by decide) (Nat.le_of_ble_eq_true rfl) fun C hC => ?_
 rw [Try.ntmps107]
 replace hC : C.nb = 0 := hC
 refine vc_seq fun K1 hK1 => ?_
 refine vc_region ?_
 refine vo_assign_pv rfl rfl ?_
 refine vo_nil ?_
 refine hK1 _ ?_
 refine vc_seq fun K2 hK2 => ?_
 refine vc_region ?_
 refine vo_assign_pv rfl rfl ?_
 refine vo_nil ?_
 refine hK2 _ ?_
 refine vc_seq fun K3 hK3 => ?_
 refine vc_seq fun K4 hK4 => ?_
 refine vc_region ?_
 refine vo_move_pv rfl rfl ?_
 refine vo_len_pv rfl rfl Try.underlying28 ?_
 refine vo_move_pv rfl rfl ?_
 refine vo_nil ?_
 refine hK4 _ ?_
 refine vc_block ?_
 refine vc_own_nil 7 E23 rfl ?_
 refine vc_flagrow 0 rfl ?_
 refine vc_stN ?_
 refine vc_loop [0, 1, 2, 7, 12, 13, 14] (fun mz vs rows => ∃ (k : Nat), mz = list.length - k ∧ (k ≤ list.length) ∧ (∀ x ∈ list.take k, o.getD x.toNat [] ≠ []) ∧ vs = [.pv false (.sl nl0 1 (o.map ordP)), .pv false (.sl nl1 1 (list.map intP)), i64 c, .ref 0, .pv false (.sl nl1 1 (list.map intP)), i64 (list.map intP).length, i64 k] ∧ rows = [Row.own 28 1 none false ((ordL o (list.take k)).map ints)]) (list.length) (le_len hC rfl) ⟨rfl, rfl⟩ ⟨0, rfl, Nat.zero_le _, (by simp), rfl, rfl⟩ ?_
 rintro mz vs rows - - ⟨k, rfl, hk, hf, rfl, rfl⟩
 have hll := ordL_len o (list.take k)
 rw [List.length_take] at hll
 refine vc_seq fun K5 hK5 => ?_
 refine vc_region ?_
 refine vo_binI rfl rfl rfl rfl trivial ?_
 refine vo_nil ?_
 refine hK5 _ ?_
 refine vc_seq fun K6 hK6 => ?_
 refine vc_cond rfl (fun hc1 => ?_) (fun hc1 => ?_)
 ·try simp only [zq0, zq1, zq2, zq3, zq4, zq5, zq6, zq7, zq8, zq9, zqa, zqb, zqc, zqd, zqe, zqf] at hc1
  have hm := getD_mem (show k < list.length by omega) 0
  have hb := hx _ hm
  refine vc_skip ?_
  refine hK6 _ ?_
  refine vc_seq fun K7 hK7 => ?_
  refine vc_block ?_
  refine vc_seq fun K8 hK8 => ?_
  refine vc_region ?_
  refine vo_index_pv (.int .i64 0) rfl rfl rfl E28.und inf3 sz3 sd sd ?_
  simp only [Int.toNat_natCast, Int.toNat_zero, getD_ints, getD_intss, getD_bools, getD_bytes, PV.cells, getD_ordP]
  refine vo_load_adr rfl rfl Try.underlying3 rfl ?_
  refine vo_assign_pv rfl rfl ?_
  refine vo_nil ?_
  refine hK8 _ ?_
  refine vc_seq fun K9 hK9 => ?_
  refine vc_seq fun K10 hK10 => ?_
  refine vc_region ?_
  refine vo_move_pv rfl rfl ?_
  refine vo_move_pv rfl rfl ?_
  refine vo_index_pv (.sl (some true) 1 []) rfl rfl rfl E23.und inf28 sz28 sd sd ?_
  simp only [Int.toNat_natCast, Int.toNat_zero, getD_ints, getD_intss, getD_bools, getD_bytes, PV.cells, getD_ordP]
  refine vo_load_adr rfl rfl Try.underlying28 rfl ?_
  refine vo_eqnil rfl rfl Try.underlying28 fun bn1 hn1 hnt1 hnf1 => ?_
  refine vo_nil ?_
  refine hK10 _ ?_
  refine vc_cond rfl (fun hc2 => ?_) (fun hc2 => ?_)
  ·try simp only [zq0, zq1, zq2, zq3, zq4, zq5, zq6, zq7, zq8, zq9, zqa, zqb, zqc, zqd, zqe, zqf] at hc2
   have hE : (o.getD (list.getD k 0).toNat []) = [] := by have := bEmp hnt1 hnf1; simp_all
   refine vc_seq fun K11 hK11 => ?_
   refine vc_region ?_
   refine vo_assign_pv rfl rfl ?_
   refine vo_nil ?_
   refine hK11 _ ?_
   refine vc_own_nilT 6 E28 rfl ?_
   refine vc_ret ?_
   change retG _ _ _ _ _
   refine retG_one 1 hC rfl rfl rfl rfl rfl ?_
   have e := ordS_stuck (c := c) hm hE
   exact ⟨rfl, row1_eqN (by rw [e]; rfl) (by rw [e]; rfl)⟩
  ·try simp only [zq0, zq1, zq2, zq3, zq4, zq5, zq6, zq7, zq8, zq9, zqa, zqb, zqc, zqd, zqe, zqf] at hc2
   have hE : (o.getD (list.getD k 0).toNat []) ≠ [] := by have := bEmp hnt1 hnf1; simp_all
   refine vc_skip ?_
   refine hK9 _ ?_
   refine vc_region ?_
   refine vo_move_ref rfl rfl ?_
   refine vo_move_pv rfl rfl ?_
   refine vo_move_pv rfl rfl ?_
   refine vo_index_pv (.sl (some true) 1 []) rfl rfl rfl E23.und inf28 sz28 sd sd ?_
   simp only [Int.toNat_natCast, Int.toNat_zero, getD_ints, getD_intss, getD_bools, getD_bytes, PV.cells, getD_ordP]
   refine vo_load_adr rfl rfl Try.underlying28 rfl ?_
   refine vo_weaken 27 rfl ?_
   refine vo_buildSlice E23 rfl rfl rfl rfl rfl ?_
   refine vo_append E23 rfl (by omega) rfl rfl rfl sd sd ?_
   refine vo_stN ?_
   try simp only [app_ints, app_intss, app_bools]
   refine vo_assign_ref rfl rfl ?_
   refine vo_nil ?_
   refine hK7 _ ?_
   refine vc_region ?_
   refine vo_binI rfl rfl rfl rfl sd ?_
   refine vo_move_pv rfl rfl ?_
   refine vo_nil ?_
   change again _ _ _ _ _ _
   refine again_mk rfl rfl rfl rfl ⟨_, ?_, k + 1, rfl, ?_, ?_, rfl, (congrArg (fun l => [Row.own 28 1 none false (List.map ints l)]) (show ordL o (list.take k) ++ [o.getD (list.getD k 0).toNat []] = ordL o (list.take (k+1)) from ordL_snoc _ (by omega)))⟩
   ·omega
   ·omega
   ·exact (all_take_succ (by omega) 0).2 ⟨hf, hE⟩
 ·try simp only [zq0, zq1, zq2, zq3, zq4, zq5, zq6, zq7, zq8, zq9, zqa, zqb, zqc, zqd, zqe, zqf] at hc1
  have hk2 : k = list.length := by omega
  subst hk2
  rw [take_all (Nat.le_refl _)]
  rw [take_all (Nat.le_refl _)] at hf
  have hO := hOK hf
  have hmo := Nat.lt_of_le_of_lt (mgO_len (ordL o list ++ [list])) hO.tot
  have hll2 := ordL_len o list
  have hmr := mgR_len (ls := ordL o list ++ [list])
  refine vc_exit ?_
  refine hK3 _ ?_
  refine vc_seq fun K12 hK12 => ?_
  refine vc_region ?_
  refine vo_move_ref rfl rfl ?_
  refine vo_move_pv rfl rfl ?_
  refine vo_weaken 33 rfl ?_
  refine vo_buildSlice E23 rfl rfl rfl rfl rfl ?_
  refine vo_append E23 rfl (by omega) rfl rfl rfl sd sd ?_
  refine vo_stN ?_
  try simp only [app_ints, app_intss, app_bools]
  refine vo_expose 0 (by omega) rfl ?_
  refine vo_weaken 35 rfl ?_
  refine vo_stN ?_
  refine vo_call [] Try.func133 rfl rfl rfl rfl rfl rfl rfl (implMergeLists_sat (lists := ordL o list ++ [list]) (by have := hO.2; omega) (fun l hl => by have := (hO.1 l hl).1; omega)) ?_
  rintro _ _ ⟨nlm, rfl, rfl⟩
  refine ⟨Nat.le_of_ble_eq_true rfl, ⟨rfl, rfl, rfl, rfl⟩, .inl rfl, ?_⟩
  refine vo_stN ?_
  refine vo_move rfl ?_
  refine vo_extract rfl rfl rfl ?_
  refine vo_extract rfl rfl rfl ?_
  refine vo_assign_ref rfl rfl ?_
  refine vo_assign_pv rfl rfl ?_
  refine vo_nil ?_
  refine hK12 _ ?_
  refine vc_seq fun K13 hK13 => ?_
  refine vc_seq fun K14 hK14 => ?_
  refine vc_region ?_
  refine vo_move_pv rfl rfl ?_
  refine vo_not rfl rfl ?_
  refine vo_nil ?_
  refine hK14 _ ?_
  refine vc_cond rfl (fun hc3 => ?_) (fun hc3 => ?_)
  ·try simp only [zq0, zq1, zq2, zq3, zq4, zq5, zq6, zq7, zq8, zq9, zqa, zqb, zqc, zqd, zqe, zqf] at hc3
   refine vc_seq fun K15 hK15 => ?_
   refine vc_region ?_
   refine vo_assign_pv rfl rfl ?_
   refine vo_nil ?_
   refine hK15 _ ?_
   refine vc_own_nilT 6 E28 rfl ?_
   refine vc_ret ?_
   change retG _ _ _ _ _
   refine retG_one 3 hC rfl rfl rfl rfl rfl ?_
   have e : ordS o list c = [] := by rw [ordS_go hf, if_neg fun h => hc3 ⟨hO, h⟩]
   exact ⟨rfl, row1_eqN (by rw [e]; rfl) (by rw [e]; rfl)⟩
  ·try simp only [zq0, zq1, zq2, zq3, zq4, zq5, zq6, zq7, zq8, zq9, zqa, zqb, zqc, zqd, zqe, zqf] at hc3
   refine vc_skip ?_
   refine hK13 _ ?_
   refine vc_seq fun K16 hK16 => ?_
   refine vc_region ?_
   refine vo_move_pv rfl rfl ?_
   refine vo_buildSlice E28 rfl rfl rfl rfl rfl ?_
   refine vo_move_ref rfl rfl ?_
   refine vo_append E28 rfl (by omega) rfl rfl rfl sd sd ?_
   refine vo_stN ?_
   try simp only [app_ints, app_intss, app_bools]
   refine vo_assign_ref rfl rfl ?_
   refine vo_nil ?_
   refine hK16 _ ?_
   refine vc_ret ?_
   change retG _ _ _ _ _
   refine retG_one 3 hC rfl rfl rfl rfl rfl ?_
   have e : ordS o list c = c :: mgR (ordL o list ++ [list]) := by rw [ordS_go hf, if_pos hc3.2, mgR_yes hc3]
   exact ⟨rfl, row1_eqN (by rw [e]; rfl) (by rw [e]; rfl)⟩

end Go.Vl

namespace Go.Vl
set_option linter.unusedVariables false
set_option linter.unusedSimpArgs false
open Go.Proofs
theorem ordS_pad {o r : List (List Int)} {l : List Int} {c : Int} (h : ∀ x ∈ l, 0 ≤ x ∧ x < o.length) : ordS (o ++ r) l c = ordS o l c ∧ ordL (o ++ r) l = ordL o l := by
  have e : ∀ x ∈ l, (o ++ r).getD x.toNat [] = o.getD x.toNat [] := fun x hx => by
    have := h x hx
    simp only [List.getD]
    rw [List.getElem?_append_left (by omega)]
  have e2 : ordL (o ++ r) l = ordL o l := List.map_congr_left e
  have e3 : (∃ x ∈ l, (o ++ r).getD x.toNat [] = []) ↔ (∃ x ∈ l, o.getD x.toNat [] = []) :=
    ⟨fun ⟨x, h1, h2⟩ => ⟨x, h1, by rw [← e x h1]; exact h2⟩, fun ⟨x, h1, h2⟩ => ⟨x, h1, by rw [e x h1]; exact h2⟩⟩
  refine ⟨?_, e2⟩
  unfold ordS
  rw [e2]
  by_cases hh : ∃ x ∈ l, o.getD x.toNat [] = []
  · rw [if_pos hh, if_pos (e3.2 hh)]
  · rw [if_neg hh, if_neg (fun h => hh (e3.1 h))]
theorem get_ord {o : List (List Int)} {k : Nat} (h : k < o.length) : (o.map ordP)[k]? = some (.sl (some (o.getD k []).isEmpty) 1 ((o.getD k []).map intP)) := by
  simp [List.getD, List.getElem?_eq_getElem h]
theorem ordT_step {b : List (List Int)} (hv : VB b) {k : Nat} (h : k < b.length) (r : List (List Int)) : ordS (ordT b k ++ r) (b.getD k []) k = ordM b k ∧ ordL (ordT b k ++ r) (b.getD k []) = ordL (ordT b k) (b.getD k []) :=
  ordS_pad fun x hx => by have := (hv.at h).2.2 x hx; rw [ordT_len]; omega
theorem pad_mem {b : List (List Int)} (hv : VB b) {k n : Nat} (hk : k ≤ b.length) : ∀ l ∈ ordT b k ++ List.replicate n [], l.length < 1000000000 := by
  intro l hl
  rcases List.mem_append.1 hl with h | h
  · obtain ⟨j, hj, e⟩ := List.getElem_of_mem h
    have h1 : l = (ordT b k).getD j [] := by rw [← e]; simp [List.getD, List.getElem?_eq_getElem hj]
    rw [ordT_len] at hj
    rw [h1, ordT_get b k j hj]
    have := ordM_len hv (show j < b.length by omega)
    omega
  · rw [(List.mem_replicate.1 h).2]; simp

theorem ordersUpTo_sat {nl0 : Option Bool} {bases : List (List Int)} {c : Nat} (hbases : bases.length < 1000000000) (hlbases : ∀ l ∈ bases, l.length < 1000000000) (hv : VB bases) (hc : c < bases.length) : SatAt Try.prog 62 [.pv false (.sl nl0 1 (bases.map ints)), i64 c] [] (fun res rows => res = [.ref 0] ∧ rows = [Row.tree 28 1 (some false) none ((ordT bases (c+1)).map ordP)]) := by
 refine sat_entry_g (ts := [4]) Try.func62 rfl rfl (by decide) (Nat.le_of_ble_eq_true rfl) fun C hC => ?_
 rw [Try.ntmps62]
 replace hC : C.nb = 0 := hC
 refine vc_seq fun K1 hK1 => ?_
 refine vc_region ?_
 refine vo_assign_pv rfl rfl ?_
 refine vo_nil ?_
 refine hK1 _ ?_
 refine vc_seq fun K2 hK2 => ?_
 refine vc_region ?_
 refine vo_move_pv rfl rfl ?_
 refine vo_binI rfl rfl rfl rfl sd ?_
 refine vo_make E23 rfl rfl rfl sd sd sd ?_
 refine vo_assign_ref rfl rfl ?_
 refine vo_nil ?_
 refine hK2 _ ?_
 refine vc_seq fun K3 hK3 => ?_
 refine vc_seq fun K4 hK4 => ?_
 refine vc_region ?_
 refine vo_move_ref rfl rfl ?_
 refine vo_len_ref rfl rfl rfl Try.underlying23 ?_
 refine vo_move_pv rfl rfl ?_
 refine vo_nil ?_
 refine hK4 _ ?_
 refine vc_block ?_
 refine vc_totree 0 rfl (plain_rep _ _) ?_
 refine vc_stN ?_
 refine vc_loop [0, 5, 11, 12] (fun mz vs rows => ∃ (k : Nat), mz = (c + 1) - k ∧ (k ≤ (c + 1)) ∧ vs = [.pv false (.sl nl0 1 (bases.map ints)), .ref 0, i64 ((List.replicate (((c : Nat) : Int) + 1).toNat (PV.sl (some true) 1 [])).length : Nat), i64 k] ∧ rows = [Row.tree 28 1 (some false) none ((ordT bases k ++ List.replicate (c + 1 - k) []).map ordP)]) ((c + 1)) (le_len hC rfl) ⟨rfl, rfl⟩ ⟨0, rfl, Nat.zero_le _, rfl, (row1_eqT (by simp [ordT]))⟩ ?_
 rintro mz vs rows - - ⟨k, rfl, hk, rfl, rfl⟩
 have hR : (List.replicate (((c : Nat) : Int) + 1).toNat (PV.sl (some true) 1 [])).length = c + 1 := by rw [List.length_replicate]; omega
 have hP : (ordT bases k ++ List.replicate (c + 1 - k) []).length = c + 1 := by rw [List.length_append, ordT_len, List.length_replicate]; omega
 refine vc_seq fun K5 hK5 => ?_
 refine vc_region ?_
 refine vo_binI rfl rfl rfl rfl trivial ?_
 refine vo_nil ?_
 refine hK5 _ ?_
 refine vc_seq fun K6 hK6 => ?_
 refine vc_cond rfl (fun hc1 => ?_) (fun hc1 => ?_)
 ·try simp only [zq0, zq1, zq2, zq3, zq4, zq5, zq6, zq7, zq8, zq9, zqa, zqb, zqc, zqd, zqe, zqf] at hc1
  have h4 := (hv.at (show k < bases.length by omega)).1
  have hst := ordT_step hv (show k < bases.length by omega) (List.replicate (c + 1 - k) [])
  have hbd := (hv.at (show k < bases.length by omega)).2.2
  refine vc_skip ?_
  refine hK6 _ ?_
  refine vc_seq fun K7 hK7 => ?_
  refine vc_block ?_
  refine vc_seq fun K8 hK8 => ?_
  refine vc_region ?_
  refine vo_move_pv rfl rfl ?_
  refine vo_assign_pv rfl rfl ?_
  refine vo_nil ?_
  refine hK8 _ ?_
  refine vc_region ?_
  refine vo_move_ref rfl rfl ?_
  refine vo_move_pv rfl rfl ?_
  refine vo_move_ref rfl rfl ?_
  refine vo_move_pv rfl rfl ?_
  refine vo_move_pv rfl rfl ?_
  refine vo_index_pv (.sl none 1 []) rfl rfl rfl E23.und inf28 sz28 sd sd ?_
  simp only [Int.toNat_natCast, Int.toNat_zero, getD_ints, getD_intss, getD_bools, getD_bytes, PV.cells]
  refine vo_load_adr rfl rfl Try.underlying28 rfl ?_
  refine vo_move_pv rfl rfl ?_
  refine vo_call [] Try.func107 rfl rfl rfl rfl rfl rfl rfl (orderFrom_sat (o := ordT bases k ++ List.replicate (c + 1 - k) []) (list := bases.getD k []) (c := k) (by omega) h4 (pad_mem hv (by omega)) (fun x hx => by have := hbd x hx; omega) (fun _ => by rw [hst.2]; exact ordL_OKLs hv (by omega))) ?_
  rintro _ _ ⟨rfl, rfl⟩
  refine ⟨Nat.le_of_ble_eq_true rfl, ⟨rfl, rfl, rfl, rfl⟩, .inr ⟨rfl, rfl⟩, ?_⟩
  refine vo_stN ?_
  refine vo_index_ref rfl rfl rfl rfl E23.und inf28 sz28 sd sd ?_
  try simp only [Int.toNat_natCast]
  refine vo_store_tree rfl rfl (.inl rfl) rfl rfl rfl (fits_of rfl) (fun _ _ _ _ _ h => (own_tp h (plain_ints _)).1) rfl (by omega) (by omega) inf28 sz28 sd ?_
  refine vo_stN ?_
  try simp only [set_intss, Int.toNat_natCast]
  refine vo_nil ?_
  refine hK7 _ ?_
  refine vc_region ?_
  refine vo_binI rfl rfl rfl rfl sd ?_
  refine vo_move_pv rfl rfl ?_
  refine vo_nil ?_
  change again _ _ _ _ _ _
  refine again_mk rfl rfl rfl rfl ⟨_, ?_, k + 1, rfl, ?_, rfl, (row1_eqT (by rw [hst.1]; exact fill_ord (by omega) (ordT_len bases k) _))⟩
  ·omega
  ·omega
 ·try simp only [zq0, zq1, zq2, zq3, zq4, zq5, zq6, zq7, zq8, zq9, zqa, zqb, zqc, zqd, zqe, zqf] at hc1
  refine vc_exit ?_
  refine hK3 _ ?_
  refine vc_seq fun K9 hK9 => ?_
  refine vc_region ?_
  refine vo_move_ref rfl rfl ?_
  refine vo_assign_ref rfl rfl ?_
  refine vo_nil ?_
  refine hK9 _ ?_
  refine vc_ret ?_
  change retG _ _ _ _ _
  refine retG_one 0 hC rfl rfl rfl rfl rfl ?_
  exact ⟨rfl, row1_eqT (by rw [show k = c + 1 by omega]; simp)⟩

end Go.Vl

namespace Go.Vl
set_option linter.unusedVariables false
set_option linter.unusedSimpArgs false
open Go.Proofs

end Go.Vl

namespace Go.Vl
set_option linter.unusedVariables false
set_option linter.unusedSimpArgs false
open Go.Proofs
def allOK (b : List (List Int)) : Prop := VB b ∧ ∀ i, i < b.length → ordM b i ≠ []
instance {b : List (List Int)} : Decidable (allOK b) := by unfold allOK; infer_instance
theorem ordersUpTo_satI {nl0 : Option Bool} {bases : List (List Int)} {c : Int} (hbases : bases.length < 1000000000) (hlbases : ∀ l ∈ bases, l.length < 1000000000) (hv : VB bases) (h0 : 0 ≤ c) (h1 : c < bases.length) : SatAt Try.prog 62 [.pv false (.sl nl0 1 (bases.map ints)), i64 c] [] (fun res rows => res = [.ref 0] ∧ rows = [Row.tree 28 1 (some false) none ((ordT bases (c.toNat + 1)).map ordP)]) := by
 obtain ⟨n, rfl⟩ := Int.eq_ofNat_of_zero_le h0
 exact ordersUpTo_sat hbases hlbases hv (by omega)


theorem allOrders_sat {nl0 : Option Bool} {bases : List (List Int)} (hbases : bases.length < 1000000000) (hlbases : ∀ l ∈ bases, l.length < 1000000000) (hv : VB bases) : SatAt Try.prog 102 [.pv false (.sl nl0 1 (bases.map ints))] [] (fun res rows => res = [bo (decide (∀ i, i < bases.length → ordM bases i ≠ []))] ∧ rows = []) := by
 refine sat_entry (ts := [2]) Try.func102 rfl rfl (by decide) (Nat.le_of_ble_eq_true rfl) fun C hC => ?_
 rw [Try.ntmps102]
 replace hC : C.nb = 0 := hC
 refine vc_seq fun K1 hK1 => ?_
 refine vc_region ?_
 refine vo_assign_pv rfl rfl ?_
 refine vo_nil ?_
 refine hK1 _ ?_
 refine vc_seq fun K2 hK2 => ?_
 refine vc_seq fun K3 hK3 => ?_
 refine vc_region ?_
 refine vo_assign_pv rfl rfl ?_
 refine vo_nil ?_
 refine hK3 _ ?_
 refine vc_block ?_
 refine vc_stN ?_
 refine vc_loopF [0] [3] [.pv false (.sl nl0 1 (bases.map ints))] _ (fun mz vs => ∃ (k : Nat), mz = bases.length - k ∧ (k ≤ bases.length) ∧ (∀ i, i < k → ordM bases i ≠ []) ∧ vs = [i64 k]) (bases.length) rfl rfl (le_len hC rfl) ⟨rfl, rfl, rfl⟩ ⟨0, rfl, Nat.zero_le _, (fun i h => by omega), rfl⟩ ?_
 rintro mz vs - ⟨k, rfl, hk, hf, rfl⟩
 refine vc_stN ?_
 refine vc_seq fun K4 hK4 => ?_
 refine vc_seq fun K5 hK5 => ?_
 refine vc_region ?_
 refine vo_move_pv rfl rfl ?_
 refine vo_move_pv rfl rfl ?_
 refine vo_len_pv rfl rfl Try.underlying23 ?_
 refine vo_binI rfl rfl rfl rfl trivial ?_
 refine vo_nil ?_
 refine hK5 _ ?_
 refine vc_cond rfl (fun hc1 => ?_) (fun hc1 => ?_)
 ·try simp only [zq0, zq1, zq2, zq3, zq4, zq5, zq6, zq7, zq8, zq9, zqa, zqb, zqc, zqd, zqe, zqf] at hc1
  refine vc_skip ?_
  refine hK4 _ ?_
  refine vc_seq fun K6 hK6 => ?_
  refine vc_block ?_
  refine vc_seq fun K7 hK7 => ?_
  refine vc_region ?_
  refine vo_move_pv rfl rfl ?_
  refine vo_move_pv rfl rfl ?_
  refine vo_call [] Try.func65 rfl rfl rfl rfl rfl rfl rfl (orderOf_sat hbases hlbases hv k (by omega)) ?_
  rintro _ _ ⟨nl9, rfl, rfl⟩
  refine ⟨Nat.le_of_ble_eq_true rfl, ⟨rfl, rfl, rfl, rfl⟩, .inl rfl, ?_⟩
  refine vo_stN ?_
  refine vo_len_ref rfl rfl rfl Try.underlying28 ?_
  refine vo_binI rfl rfl rfl rfl trivial ?_
  refine vo_nil ?_
  refine hK7 _ ?_
  refine vc_cond rfl (fun hc2 => ?_) (fun hc2 => ?_)
  ·try simp only [zq0, zq1, zq2, zq3, zq4, zq5, zq6, zq7, zq8, zq9, zqa, zqb, zqc, zqd, zqe, zqf] at hc2
   refine vc_seq fun K8 hK8 => ?_
   refine vc_region ?_
   refine vo_assign_pv rfl rfl ?_
   refine vo_nil ?_
   refine hK8 _ ?_
   refine vc_ret ?_
   change retPv _ _ _ _ _
   refine retPv_mk rfl rfl rfl ⟨?_, rfl⟩
   refine (congrArg (fun b => [bo b]) (?_ : _ = _) : [bo _] = [bo _])
   exact bF fun h => h k (by omega) (List.eq_nil_of_length_eq_zero (by omega))
  ·try simp only [zq0, zq1, zq2, zq3, zq4, zq5, zq6, zq7, zq8, zq9, zqa, zqb, zqc, zqd, zqe, zqf] at hc2
   refine vc_skip ?_
   refine hK6 _ ?_
   refine vc_region ?_
   refine vo_move_pv rfl rfl ?_
   refine vo_binI rfl rfl rfl rfl sd ?_
   refine vo_assign_pv rfl rfl ?_
   refine vo_nil ?_
   change againF _ _ _ _ _ _ _ _ _
   refine againF_mk rfl rfl rfl rfl rfl rfl ⟨_, ?_, k + 1, rfl, ?_, ?_, rfl⟩
   ·omega
   ·omega
   ·intro i hi; rcases Nat.lt_or_ge i k with h1 | h1; exact hf i h1; rw [show i = k by omega]; intro e; rw [e] at hc2; simp at hc2
 ·try simp only [zq0, zq1, zq2, zq3, zq4, zq5, zq6, zq7, zq8, zq9, zqa, zqb, zqc, zqd, zqe, zqf] at hc1
  refine vc_exit ?_
  refine hK2 _ ?_
  refine vc_seq fun K9 hK9 => ?_
  refine vc_region ?_
  refine vo_assign_pv rfl rfl ?_
  refine vo_nil ?_
  refine hK9 _ ?_
  refine vc_ret ?_
  change retPv _ _ _ _ _
  refine retPv_mk rfl rfl rfl ⟨?_, rfl⟩
  refine (congrArg (fun b => [bo b]) (?_ : _ = _) : [bo _] = [bo _])
  exact bT fun i hi => hf i (by omega)


theorem implAllOrders_sat {nl0 : Option Bool} {bases : List (List Int)} (hbases : bases.length < 1000000000) (hlbases : ∀ l ∈ bases, l.length < 1000000000)  : SatAt Try.prog 57 [.pv false (.sl nl0 1 (bases.map ints))] [] (fun res rows => res = [bo (decide (allOK bases))] ∧ rows = []) := by
 refine sat_entry (ts := [2]) Try.func57 rfl rfl (by decide) (Nat.le_of_ble_eq_true rfl) fun C hC => ?_
 rw [Try.ntmps57]
 replace hC : C.nb = 0 := hC
 refine vc_seq fun K1 hK1 => ?_
 refine vc_region ?_
 refine vo_assign_pv rfl rfl ?_
 refine vo_nil ?_
 refine hK1 _ ?_
 refine vc_seq fun K2 hK2 => ?_
 refine vc_seq fun K3 hK3 => ?_
 refine vc_region ?_
 refine vo_move_pv rfl rfl ?_
 refine vo_call0 Try.func77 rfl rfl rfl rfl (implValidBases_sat hbases hlbases) ?_
 rintro _ _ ⟨rfl, rfl⟩
 refine ⟨rfl, rfl, .inl rfl, ?_⟩
 refine vo_not rfl rfl ?_
 refine vo_nil ?_
 refine hK3 _ ?_
 refine vc_cond rfl (fun hc1 => ?_) (fun hc1 => ?_)
 ·try simp only [zq0, zq1, zq2, zq3, zq4, zq5, zq6, zq7, zq8, zq9, zqa, zqb, zqc, zqd, zqe, zqf] at hc1
  refine vc_seq fun K4 hK4 => ?_
  refine vc_region ?_
  refine vo_assign_pv rfl rfl ?_
  refine vo_nil ?_
  refine hK4 _ ?_
  refine vc_ret ?_
  change retPv _ _ _ _ _
  refine retPv_mk rfl rfl rfl ⟨?_, rfl⟩
  refine (congrArg (fun b => [bo b]) (?_ : _ = _) : [bo _] = [bo _])
  exact bF fun h => hc1 h.1
 ·try simp only [zq0, zq1, zq2, zq3, zq4, zq5, zq6, zq7, zq8, zq9, zqa, zqb, zqc, zqd, zqe, zqf] at hc1
  have h1 := hc1.1
  have hTl2 := ordT_len bases (((bases.length : Int) - 1).toNat + 1)
  have hlm : (bases.map ints).length = bases.length := List.length_map ..
  have hTl := ordT_len bases ((((bases.map ints).length : Int) - 1).toNat + 1)
  have hN : (((bases.map ints).length : Int) - 1).toNat + 1 = bases.length := by omega
  refine vc_skip ?_
  refine hK2 _ ?_
  refine vc_seq fun K5 hK5 => ?_
  refine vc_seq fun K6 hK6 => ?_
  refine vc_region ?_
  refine vo_move_pv rfl rfl ?_
  refine vo_move_pv rfl rfl ?_
  refine vo_len_pv rfl rfl Try.underlying23 ?_
  refine vo_binI rfl rfl rfl rfl sd ?_
  refine vo_call [] Try.func62 rfl rfl rfl rfl rfl rfl rfl (ordersUpTo_satI (c := ((bases.map ints).length : Int) - 1) hbases hlbases hc1 (by have := hc1.1; rw [List.length_map]; omega) (by rw [List.length_map]; omega)) ?_
  rintro _ _ ⟨rfl, rfl⟩
  refine ⟨Nat.le_of_ble_eq_true rfl, ⟨rfl, rfl, rfl, rfl⟩, .inl rfl, ?_⟩
  refine vo_stN ?_
  refine vo_len_ref rfl rfl rfl Try.underlying23 ?_
  refine vo_move_pv rfl rfl ?_
  refine vo_nil ?_
  refine hK6 _ ?_
  refine vc_block ?_
  refine vc_stN ?_
  refine vc_loop [12, 13, 14] (fun mz vs rows => ∃ (k : Nat), mz = bases.length - k ∧ (k ≤ bases.length) ∧ (∀ i, i < k → ordM bases i ≠ []) ∧ vs = [.ref 0, i64 (((ordT bases ((((bases.map ints).length : Int) - 1).toNat + 1)).map ordP).length : Nat), i64 k] ∧ rows = [Row.tree 28 1 (some false) none ((ordT bases ((((bases.map ints).length : Int) - 1).toNat + 1)).map ordP)]) (bases.length) (le_len hC rfl) ⟨rfl, rfl⟩ ⟨0, rfl, Nat.zero_le _, (fun i h => by omega), rfl, rfl⟩ ?_
  rintro mz vs rows - - ⟨k, rfl, hk, hf, rfl, rfl⟩
  refine vc_seq fun K7 hK7 => ?_
  refine vc_region ?_
  refine vo_binI rfl rfl rfl rfl trivial ?_
  refine vo_nil ?_
  refine hK7 _ ?_
  refine vc_seq fun K8 hK8 => ?_
  refine vc_cond rfl (fun hc2 => ?_) (fun hc2 => ?_)
  ·try simp only [zq0, zq1, zq2, zq3, zq4, zq5, zq6, zq7, zq8, zq9, zqa, zqb, zqc, zqd, zqe, zqf] at hc2
   refine vc_skip ?_
   refine hK8 _ ?_
   refine vc_seq fun K9 hK9 => ?_
   refine vc_block ?_
   refine vc_seq fun K10 hK10 => ?_
   refine vc_region ?_
   refine vo_index_ref rfl rfl rfl rfl E23.und inf28 sz28 sd sd ?_
   try simp only [Int.toNat_natCast]
   refine vo_load_sub rfl rfl rfl Try.underlying28 rfl sd fun u1 => ?_
   refine vo_stN ?_
   refine vo_assign rfl ?_
   refine vo_nil ?_
   refine hK10 _ ?_
   refine vc_seq fun K11 hK11 => ?_
   refine vc_region ?_
   refine vo_move rfl ?_
   refine vo_eqnil_val (id := 0) rfl rfl rfl (get_ord (o := ordT bases ((((bases.map ints).length : Int) - 1).toNat + 1)) (k := k) (by rw [hTl]; omega)) Try.underlying28 fun bn1 hn1 hnt1 hnf1 => ?_
   refine vo_unknow 0 rfl ?_
   refine vo_stN ?_
   refine vo_nil ?_
   refine hK11 _ ?_
   refine vc_cond rfl (fun hc3 => ?_) (fun hc3 => ?_)
   ·try simp only [zq0, zq1, zq2, zq3, zq4, zq5, zq6, zq7, zq8, zq9, zqa, zqb, zqc, zqd, zqe, zqf] at hc3
    have hg := ordT_get bases ((((bases.map ints).length : Int) - 1).toNat + 1) k (by omega)
    rw [hg] at hn1 hnt1 hnf1
    have hb := bEmp hnt1 hnf1
    have hE : ordM bases k = [] := List.isEmpty_iff.1 (hb.symm.trans hc3)
    refine vc_seq fun K12 hK12 => ?_
    refine vc_region ?_
    refine vo_assign_pv rfl rfl ?_
    refine vo_nil ?_
    refine hK12 _ ?_
    refine vc_ret ?_
    change retPv _ _ _ _ _
    refine retPv_mk rfl rfl rfl ⟨?_, rfl⟩
    refine (congrArg (fun b => [bo b]) (?_ : _ = _) : [bo _] = [bo _])
    exact bF fun h => h.2 k (by omega) hE
   ·try simp only [zq0, zq1, zq2, zq3, zq4, zq5, zq6, zq7, zq8, zq9, zqa, zqb, zqc, zqd, zqe, zqf] at hc3
    have hg := ordT_get bases ((((bases.map ints).length : Int) - 1).toNat + 1) k (by omega)
    rw [hg] at hn1 hnt1 hnf1
    have hb := bEmp hnt1 hnf1
    have hE : ordM bases k ≠ [] := fun e => by rw [e] at hb; simp [hb] at hc3
    refine vc_skip ?_
    refine hK9 _ ?_
    refine vc_region ?_
    refine vo_binI rfl rfl rfl rfl sd ?_
    refine vo_move_pv rfl rfl ?_
    refine vo_nil ?_
    change again _ _ _ _ _ _
    refine again_mk rfl rfl rfl rfl ⟨_, ?_, k + 1, rfl, ?_, ?_, rfl, rfl⟩
    ·omega
    ·omega
    ·intro i hi; rcases Nat.lt_or_ge i k with h1 | h1; exact hf i h1; rw [show i = k by omega]; exact hE
  ·try simp only [zq0, zq1, zq2, zq3, zq4, zq5, zq6, zq7, zq8, zq9, zqa, zqb, zqc, zqd, zqe, zqf] at hc2
   refine vc_exit ?_
   refine hK5 _ ?_
   refine vc_seq fun K13 hK13 => ?_
   refine vc_region ?_
   refine vo_assign_pv rfl rfl ?_
   refine vo_nil ?_
   refine hK13 _ ?_
   refine vc_ret ?_
   change retPv _ _ _ _ _
   refine retPv_mk rfl rfl rfl ⟨?_, rfl⟩
   refine (congrArg (fun b => [bo b]) (?_ : _ = _) : [bo _] = [bo _])
   exact bT ⟨hc1, fun i hi => hf i (by omega)⟩

end Go.Vl

namespace Go.Vl
set_option linter.unusedVariables false
set_option linter.unusedSimpArgs false
open Go.Proofs
def anms (l : List AttrM) : List Int := l.map AttrM.name
@[simp] theorem anms_len (l : List AttrM) : (anms l).length = l.length := by simp [anms]
theorem take_anms (l : List AttrM) (k : Nat) : (anms l).take k = anms (l.take k) := by simp [anms]
def okAttr (a : AttrM) : Prop := (0 ≤ a.name ∧ a.name ≤ 9) ∧ (0 ≤ a.kind ∧ a.kind ≤ 5) ∧ (0 ≤ a.value ∧ a.value ≤ 99)
instance (a : AttrM) : Decidable (okAttr a) := by unfold okAttr; exact inferInstance
def AAttrs (l : List AttrM) : Prop := l.length ≤ 8 ∧ (anms l).Nodup ∧ ∀ a ∈ l, okAttr a
instance (l : List AttrM) : Decidable (AAttrs l) := by unfold AAttrs; exact inferInstance
def okObj (n : Nat) (o : ObjM) : Prop := (0 ≤ o.cls ∧ o.cls ≤ (n : Int) - 1) ∧ o.pairs.length ≤ 8 ∧ AOwn o.pairs
instance (n : Nat) (o : ObjM) : Decidable (okObj n o) := by unfold okObj; exact inferInstance
def VWorld (w : WorldM) : Prop := allOK w.bases ∧ w.attrs.length = w.bases.length ∧ w.objs.length ≤ 6 ∧ (∀ l ∈ w.attrs, AAttrs l) ∧ ∀ o ∈ w.objs, okObj w.bases.length o
instance (w : WorldM) : Decidable (VWorld w) := by unfold VWorld; exact inferInstance

end Go.Vl

namespace Go.Vl
set_option linter.unusedVariables false
set_option linter.unusedSimpArgs false
open Go.Proofs

end Go.Vl

namespace Go.Vl
set_option linter.unusedVariables false
set_option linter.unusedSimpArgs false
open Go.Proofs

theorem copyInts_sat {nl0 : Option Bool} {list : List Int} (hlist : list.length < 1000000000)  : SatAt Try.prog 103 [.pv false (.sl nl0 1 (list.map intP))] [] (fun res rows => ∃ nl, res = [.ref 0] ∧ rows = [Row.own 3 1 nl true ((list).map intP)]) := by
 refine sat_entry_g (ts := [2]) Try.func103 rfl rfl (by decide) (Nat.le_of_ble_eq_true rfl) fun C hC => ?_
 rw [Try.ntmps103]
 replace hC : C.nb = 0 := hC
 refine vc_seq fun K1 hK1 => ?_
 refine vc_region ?_
 refine vo_assign_pv rfl rfl ?_
 refine vo_nil ?_
 refine hK1 _ ?_
 refine vc_seq fun K2 hK2 => ?_
 refine vc_region ?_
 refine vo_buildSlice E28 rfl rfl rfl rfl rfl ?_
 refine vo_move_pv rfl rfl ?_
 refine vo_append E28 rfl (by omega) rfl rfl rfl sd sd ?_
 refine vo_stN ?_
 try simp only [app_ints, app_intss, app_bools]
 refine vo_clean 0 rfl (scal_ints _) ?_
 refine vo_stN ?_
 refine vo_assign_ref rfl rfl ?_
 refine vo_nil ?_
 refine hK2 _ ?_
 refine vc_ret ?_
 change retG _ _ _ _ _
 refine retG_one 0 hC rfl rfl rfl rfl rfl ?_
 exact ⟨_, rfl, rfl⟩


end Go.Vl

/- A cell of a variable that holds a nil slice holds a row of the call's own that is empty. -/
namespace Go.Vl
set_option linter.unusedVariables false
set_option linter.unusedSimpArgs false
open Go.RowKit
section
variable {P : Program} {C : Ctx} {Q : Go.Exit → St → Prop} {s : St} {ops : Array Oper}

end
end Go.Vl

/- Cells of rows whose slices are their own: a plain one is written; a slice in one is lent to a function, which may write it. -/
namespace Go.Vl
set_option linter.unusedVariables false
set_option linter.unusedSimpArgs false
open Go.RowKit

section
variable {P : Program} {C : Ctx} {Q : Go.Exit → St → Prop} {s : St} {ops : Array Oper} {rest : List Oper} {t : Nat} {ty : TypeId} {pos : String} {af : Array Edge}

end
end Go.Vl

/- Numbers that are written into the cells of lists, one by one (pure). -/
namespace Go.Vl
set_option linter.unusedVariables false
set_option linter.unusedSimpArgs false

def mkS {α : Type} (f : Int → α → α) (g : Int → α → Int) : Int → List α → List α
  | _, [] => []
  | k, x :: r => f k x :: mkS f g (g k x) r
def mkN {α : Type} (g : Int → α → Int) : Int → List α → Int
  | k, [] => k
  | k, x :: r => mkN g (g k x) r
section
variable {α : Type} {f : Int → α → α} {g : Int → α → Int}
end
end Go.Vl
namespace Go.Vl
end Go.Vl

/- More operations: the room of a nil slice, 'append(nil, make(..)...)', cells that hold a function. -/
namespace Go.Vl
set_option linter.unusedVariables false
set_option linter.unusedSimpArgs false
open Go.RowKit
section
variable {P : Program} {C : Ctx} {Q : Go.Exit → St → Prop} {s : St}
variable {ops : Array Oper} {rest : List Oper} {t : Nat} {ty : TypeId} {pos : String} {af : Array Edge}

theorem vo_cap_nil {x : Operand} {f : Bool} {e : Nat} {T el : TypeId} (ht : Nat.blt t s.n = true) (hx : getO s.env x = .pv f (.sl (some true) e [])) (hT : P.underlying T = some (.slice el))
    (next : VO P C ops rest Q (s.put t (.pv true (.int .i64 0)))) : VO P C ops (⟨some t, .call ⟨.builtin .cap, #[x], #[T]⟩, ty, pos, af, none⟩ :: rest) Q s := by
  refine vo_pure ht (fun m a w hs => ?_) next
  have hv := hs.get x
  rw [hx] at hv
  have hv := hv.pv_inv
  refine ⟨.int .i64 0, fun _ _ => ?_, .pv _ _ _ (.int _ _)⟩
  generalize hav : a.eval x = v at hv
  cases hv with
  | nilsl => simp [execOp, resolve, invoke, builtin, Builtin.cap_, hav, run_underlying hT, goInt]
  | sl nl e xs ad len cap f h hs' hl => exact absurd rfl h

/-- append(nil, make([]T, n)...) with n > 0. -/
theorem vo_appendMade {x y : Operand} {T U el e by' : Nat} {d : PV} {f1 f2 : Bool} {e1 : Nat} {k1 k2 : IntKind} {n : Int} (hI : ElInfo P T el e by' d) (hU : P.underlying U = some (.int k2)) (ht : Nat.blt t s.n = true)
    (hx : getO s.env x = .pv f1 (.sl (some true) e1 [])) (hy : getO s.env y = .pv f2 (.int k1 n)) (h0 : 0 < n) (hby : by' * n.toNat ≤ 281474976710656) (hmx : n ≤ 1000000000000)
    (next : VO P C ops rest Q ⟨s.n, (t, .ref s.rows.length) :: s.env, s.rows ++ [.own el e (some false) true (List.replicate n.toNat d)]⟩) :
    VO P C ops (⟨some t, .call ⟨.builtin .append, #[x, y], #[T, U]⟩, ty, pos, af, none⟩ :: rest) Q s := by
  obtain ⟨hT, ⟨inf, z, hinf, hsz, hbytes, hz, hzs, hzr⟩, hdf, he⟩ := hI
  refine vo_value (s1 := { s with rows := s.rows ++ [.own el e (some false) true (List.replicate n.toNat d)] }) (sv := .ref s.rows.length) ht (fun m a w hs => ?_) next
  obtain ⟨k, rfl⟩ := Int.eq_ofNat_of_zero_le (Int.le_of_lt h0)
  simp only [Int.toNat_natCast] at *
  have e2 := hs.int hy
  have e1 : a.eval x = .slice none 0 0 := by
    have hv := hs.get x
    rw [hx] at hv
    have hv := hv.pv_inv
    generalize a.eval x = v at hv
    cases hv with
    | nilsl => rfl
    | sl nl e xs ad len cap f h hs' hl => exact absurd rfl h
  have hrun := Lib.run_append_nil_zeros (P := P) w T U ty el inf z k1 k2 hT hU hinf hz k (by omega) (by rw [hsz]; exact he) (by omega) (by rw [hbytes, Nat.mul_comm]; exact hby)
  have hge := grownCap_ge w k 0 el
  have hcm : grownCap w k 0 el ≤ maxLen := grownCap_le_maxLen w k 0 el (by simp only [maxLen]; omega)
  have hzc : ∀ q, (Builtin.zeroCells z.cells q).size = q * e := fun q => by rw [size_zeroCells, hzs]
  generalize hgc : grownCap w k 0 el = gc at hrun hge hcm
  let w' := w.drew.alloc (.cells (Builtin.zeroCells z.cells k ++ Builtin.zeroCells z.cells (gc - k)) el)
  have hg : w.grownBy w' none := ⟨rfl, rfl, rfl, by simp [w'], fun b hb _ => heap_alloc_old w.drew _ hb⟩
  have hown : w'.ownsRow 0 el e (.slice (some ⟨w.heap.size, 0, none⟩) k gc) k (Builtin.zeroCells z.cells k).toList := by
    refine ⟨by simp [hzc], .inr ⟨w.heap.size, gc, _, rfl, Nat.zero_le _, heap_alloc_new w.drew _, hge, hcm, ?_, ?_⟩⟩
    · simp only [Array.size_append, hzc, ← Nat.add_mul]
      congr 1; omega
    · simp only [Array.toList_append]
      rw [show k * e = (Builtin.zeroCells z.cells k).toList.length by simp [hzc]]
      exact List.take_left
  have hadd := hs.addRow (w' := w') hg (.own el e (some false) true (List.replicate k d)) (.of <| .slice (some ⟨w.heap.size, 0, none⟩) k gc)
    (fun b hb => by simp [MV.of, blk] at hb; omega) (fun hG => ?_)
  · refine ⟨.slice (some ⟨w.heap.size, 0, none⟩) k gc, w', _, by simp [execOp, resolve, invoke, builtin, e1, e2, hrun, w'], hadd.1, ?_⟩
    have := RS.ref (w := w') (G := Gd C (s.rows ++ [.own el e (some false) true (List.replicate k d)]) (updM m s.rows.length (.of <| .slice (some ⟨w.heap.size, 0, none⟩) k gc)) w')
      (m := updM m s.rows.length (.of <| .slice (some ⟨w.heap.size, 0, none⟩) k gc)) (N := (s.rows ++ [Row.own el e (some false) true (List.replicate k d)]).length) s.rows.length (by simp)
    rw [updM_same] at this
    exact this
  · refine .own _ el e _ true _ (Builtin.zeroCells z.cells k).toList (by simpa using hown) (fun h => by cases h) (fun _ h => by cases h) (fun i x hx => ?_) (fun i x j c hx hc => ?_)
    · rw [List.getElem?_replicate] at hx
      split at hx
      · cases hx; exact hdf
      · cases hx
    · rw [List.getElem?_replicate] at hx
      split at hx
      · rename_i hi
        cases hx
        have hj : j < e := by rw [← hdf.1]; exact (List.getElem?_eq_some_iff.1 hc).1
        have hlt : i * e + j < k * e := by
          have := Nat.mul_le_mul_right e (show i + 1 ≤ k by omega)
          rw [Nat.add_mul] at this
          omega
        have e2 : (i * e + j) % e = j := by rw [Nat.add_comm, Nat.add_mul_mod_self_right]; exact Nat.mod_eq_of_lt hj
        obtain ⟨u, hu, hp⟩ := (hzr w' (Gd C (s.rows ++ [.own el e (some false) true (List.replicate k d)]) (updM m s.rows.length (.of <| .slice (some ⟨w.heap.size, 0, none⟩) k gc)) w' true)).cells.2 j c hc
        refine ⟨u, ?_, hp⟩
        simp only [Builtin.zeroCells, Array.getElem?_toList, Array.getElem?_map, Array.getElem?_range, hlt, if_true, Option.map_some, hzs, e2]
        rw [← hu]
        have hjs : j < z.cells.size := by rw [hzs]; exact hj
        simp [hjs]
      · cases hx

end
end Go.Vl

namespace Go.Vl
set_option linter.unusedVariables false
set_option linter.unusedSimpArgs false
open Go.Proofs

structure WorksM where
  bases : List (List Int)
  abs : List (List Int)
  real : List (List Int)
  deriving Inhabited, DecidableEq
abbrev worksP (w : WorksM) : PV := .agg [.sl none 1 (w.bases.map ints), .sl none 1 (w.abs.map ints), .sl none 1 (w.real.map ints)]
def GK63 (w : WorksM) : Prop := (w.bases.length ≤ 9223372036854775807 ∧ ∀ l ∈ w.bases, l.length ≤ 9223372036854775807) ∧ (w.abs.length ≤ 9223372036854775807 ∧ ∀ l ∈ w.abs, l.length ≤ 9223372036854775807) ∧ (w.real.length ≤ 9223372036854775807 ∧ ∀ l ∈ w.real, l.length ≤ 9223372036854775807)
def SK (w : WorksM) : Prop := (w.bases.length ≤ 2000000 ∧ ∀ l ∈ w.bases, l.length ≤ 2000000) ∧ (w.abs.length ≤ 2000000 ∧ ∀ l ∈ w.abs, l.length ≤ 2000000) ∧ (w.real.length ≤ 2000000 ∧ ∀ l ∈ w.real, l.length ≤ 2000000)
theorem opn_lworks : Opens Try.prog 32 3 worksP GK63 := by
  have h := opens_struct (P := Try.prog) (t := 32) Try.underlying32 (by kernel_rfl) (openF_cons opn_intss rfl (show Try.prog.cellsOf 23 = 1 by kernel_rfl) (openF_cons opn_intss rfl (show Try.prog.cellsOf 23 = 1 by kernel_rfl) (openF_cons opn_intss rfl (show Try.prog.cellsOf 23 = 1 by kernel_rfl) openF_nil)))
  exact opens_map h (fun a => ⟨a.1, a.2.1, a.2.2.1⟩) (fun _ => rfl) (fun _ h => ⟨⟨h.1.1, fun l hl => (h.1.2 l hl).1⟩, ⟨h.2.1.1, fun l hl => (h.2.1.2 l hl).1⟩, h.2.2.1.1, fun l hl => (h.2.2.1.2 l hl).1⟩)
def okWk (a r : List Int) : Prop := (a ++ r).Nodup ∧ ∀ n ∈ a ++ r, 0 ≤ n ∧ n ≤ 9
instance (a r : List Int) : Decidable (okWk a r) := by unfold okWk; exact inferInstance
def VWorks (x : WorksM) : Prop := allOK x.bases ∧ x.abs.length = x.bases.length ∧ x.real.length = x.bases.length ∧ ∀ i, i < x.bases.length → okWk (x.abs.getD i []) (x.real.getD i [])
instance (x : WorksM) : Decidable (VWorks x) := by unfold VWorks; exact inferInstance
theorem nodup_le10 {l : List Int} (h : l.Nodup) (hr : ∀ n ∈ l, 0 ≤ n ∧ n ≤ 9) : l.length ≤ 10 := pig 10 l h fun n hn => by have := hr n hn; omega
theorem flat_succ {L : List (List Int)} {k : Nat} (h : k < L.length) : (L.take (k+1)).flatten = (L.take k).flatten ++ L.getD k [] := by
  have e : L.take (k+1) = L.take k ++ [L.getD k []] := by rw [List.take_add_one, List.getD, List.getElem?_eq_getElem h]; rfl
  rw [e, List.flatten_append]; simp
theorem flat_len {L : List (List Int)} {k : Nat} (h : k < L.length) : (L.take (k+1)).flatten.length = (L.take k).flatten.length + (L.getD k []).length := by rw [flat_succ h, List.length_append]
theorem okWk_len {a r : List Int} (h : okWk a r) : a.length + r.length ≤ 10 := by
  have := nodup_le10 h.1 h.2
  rwa [List.length_append] at this

theorem Grow_nil_sat {f : Bool} {n : Int} (h0 : 0 ≤ n) (h1 : n ≤ 1000000) : SatAt Try.prog 132 [.pv f (.sl (some true) 1 []), i64 n] [] (fun res rows => res = [.ref 0] ∧ ∃ nl, rows = [Row.own 3 1 nl true []]) := by
 refine sat_entry_G (rs := [(4, none)]) Try.func132 rfl rfl (Nat.le_of_ble_eq_true rfl) (Nat.le_of_ble_eq_true rfl) (resTs1 trivial) fun C hC => ?_
 rw [Try.ntmps132]
 replace hC : C.nb = 0 := hC
 refine vc_seq fun K1 hK1 => ?_
 refine vc_region ?_
 refine vo_assign_pv rfl rfl ?_
 refine vo_nil ?_
 refine hK1 _ ?_
 refine vc_seq fun K2 hK2 => ?_
 refine vc_seq fun K3 hK3 => ?_
 refine vc_region ?_
 refine vo_move_pv rfl rfl ?_
 refine vo_binI rfl rfl rfl rfl trivial ?_
 refine vo_nil ?_
 refine hK3 _ ?_
 refine vc_cond rfl (fun hc1 => ?_) (fun hc1 => ?_)
 ·try simp only [zq0, zq1, zq2, zq3, zq4, zq5, zq6, zq7, zq8, zq9, zqa, zqb, zqc, zqd, zqe, zqf] at hc1
  omega
 ·try simp only [zq0, zq1, zq2, zq3, zq4, zq5, zq6, zq7, zq8, zq9, zqa, zqb, zqc, zqd, zqe, zqf] at hc1
  refine vc_skip ?_
  refine hK2 _ ?_
  refine vc_seq fun K4 hK4 => ?_
  refine vc_seq fun K5 hK5 => ?_
  refine vc_region ?_
  refine vo_move_pv rfl rfl ?_
  refine vo_move_pv rfl rfl ?_
  refine vo_cap_nil rfl rfl Try.underlying28 ?_
  refine vo_move_pv rfl rfl ?_
  refine vo_len_pv rfl rfl Try.underlying28 ?_
  refine vo_stM ?_
  refine vo_binI rfl rfl rfl rfl sd ?_
  refine vo_binI rfl rfl rfl rfl sd ?_
  refine vo_assign_pv rfl rfl ?_
  refine vo_nil ?_
  refine hK5 _ ?_
  refine vc_seq fun K6 hK6 => ?_
  refine vc_region ?_
  refine vo_move_pv rfl rfl ?_
  refine vo_binI rfl rfl rfl rfl trivial ?_
  refine vo_nil ?_
  refine hK6 _ ?_
  refine vc_cond rfl (fun hc2 => ?_) (fun hc2 => ?_)
  ·try simp only [zq0, zq1, zq2, zq3, zq4, zq5, zq6, zq7, zq8, zq9, zqa, zqb, zqc, zqd, zqe, zqf] at hc2
   refine vc_region ?_
   refine vo_move_pv rfl rfl ?_
   refine vo_move_pv rfl rfl ?_
   refine vo_cap_nil rfl rfl Try.underlying28 ?_
   refine vo_slice_pv rfl rfl rfl rfl E28.und inf3 sz3 sd sd sd ?_
   simp only [Int.toNat_natCast, Int.toNat_zero, List.drop_zero, Nat.sub_zero, ← List.map_drop, ← List.map_take]
   refine vo_stM ?_
   refine vo_move_pv rfl rfl ?_
   refine vo_appendMade E28 Try.underlying3 rfl rfl rfl (by omega) sd (by omega) ?_
   refine vo_stM ?_
   refine vo_move_pv rfl rfl ?_
   refine vo_len_pv rfl rfl Try.underlying28 ?_
   refine vo_slice_ref rfl rfl rfl rfl rfl E28.und inf3 sz3 sd sd sd ?_
   try simp only [Int.toNat_natCast, Int.toNat_zero]
   refine vo_cut 25 rfl rfl (by omega) sd ?_
   refine vo_stM ?_
   refine vo_stM ?_
   refine vo_assign_ref rfl rfl ?_
   refine vo_nil ?_
   refine hK4 _ ?_
   refine vc_seq fun K7 hK7 => ?_
   refine vc_region ?_
   refine vo_move_ref rfl rfl ?_
   refine vo_assign_ref rfl rfl ?_
   refine vo_nil ?_
   refine hK7 _ ?_
   refine vc_ret ?_
   change retQ _ _ _ _ _
   refine retQ_sel [0] (srows := [_]) (.inr rfl) hC rfl rfl rfl rfl rfl rfl rfl ?_
   refine ⟨rfl, ?_⟩
   exact ⟨_, rfl⟩
  ·try simp only [zq0, zq1, zq2, zq3, zq4, zq5, zq6, zq7, zq8, zq9, zqa, zqb, zqc, zqd, zqe, zqf] at hc2
   refine vc_skip ?_
   refine hK4 _ ?_
   refine vc_seq fun K8 hK8 => ?_
   refine vc_region ?_
   refine vo_move_pv rfl rfl ?_
   refine vo_assign_pv rfl rfl ?_
   refine vo_nil ?_
   refine hK8 _ ?_
   refine vc_own_nil 4 E28 rfl ?_
   refine vc_ret ?_
   change retQ _ _ _ _ _
   refine retQ_sel [0] (srows := [_]) (.inr rfl) hC rfl rfl rfl rfl rfl rfl rfl ?_
   refine ⟨rfl, ?_⟩
   exact ⟨_, rfl⟩


theorem Concat_sat {L : List (List Int)} {nl : Option Bool} (h1 : L.length ≤ 10) (h2 : ∀ l ∈ L, l.length ≤ 10000) {f : Bool} : SatAt Try.prog 99 [.pv f (.sl nl 1 (L.map ints))] [] (fun res rows => ∃ nl, res = [.ref 0] ∧ rows = [Row.own 3 1 nl true (L.flatten.map intP)]) := by
 refine sat_entry_G (rs := [(2, none)]) Try.func99 rfl rfl (Nat.le_of_ble_eq_true rfl) (Nat.le_of_ble_eq_true rfl) (resTs1 trivial) fun C hC => ?_
 rw [Try.ntmps99]
 replace hC : C.nb = 0 := hC
 refine vc_seq fun K1 hK1 => ?_
 refine vc_region ?_
 refine vo_assign_pv rfl rfl ?_
 refine vo_nil ?_
 refine hK1 _ ?_
 refine vc_seq fun K2 hK2 => ?_
 refine vc_region ?_
 refine vo_assign_pv rfl rfl ?_
 refine vo_nil ?_
 refine hK2 _ ?_
 refine vc_seq fun K3 hK3 => ?_
 refine vc_seq fun K4 hK4 => ?_
 refine vc_region ?_
 refine vo_move_pv rfl rfl ?_
 refine vo_len_pv rfl rfl Try.underlying23 ?_
 refine vo_move_pv rfl rfl ?_
 refine vo_nil ?_
 refine hK4 _ ?_
 refine vc_block ?_
 refine vc_stM ?_
 refine vc_loopE [0, 9, 10] [3, 11] [] _ _ (fun mz vs rs => ∃ (k : Nat) (z : Int), mz = L.length - k ∧ (k ≤ L.length) ∧ (z = ((L.take k).flatten.length : Nat)) ∧ (z ≤ 10000 * k) ∧ vs = [i64 z, i64 k] ∧ rs = []) (L.length) rfl rfl (le_len hC rfl) ⟨rfl, rfl, rfl⟩ rfl ⟨0, 0, rfl, (Nat.zero_le _), rfl, (by omega), rfl, rfl⟩ ?_
 rintro mz vs rs - - ⟨k, z, rfl, hk, hz, hz2, rfl, rfl⟩
 refine vc_stM ?_
 have hlk := getD_all (p := fun l : List Int => l.length ≤ 10000) h2 [] (by simp) k
 have hml : (List.map intP (L.getD k [])).length = (L.getD k []).length := List.length_map ..
 refine vc_seq fun K5 hK5 => ?_
 refine vc_region ?_
 refine vo_binI rfl rfl rfl rfl trivial ?_
 refine vo_nil ?_
 refine hK5 _ ?_
 refine vc_seq fun K6 hK6 => ?_
 refine vc_cond rfl (fun hc1 => ?_) (fun hc1 => ?_)
 ·try simp only [zq0, zq1, zq2, zq3, zq4, zq5, zq6, zq7, zq8, zq9, zqa, zqb, zqc, zqd, zqe, zqf] at hc1
  refine vc_skip ?_
  refine hK6 _ ?_
  refine vc_seq fun K7 hK7 => ?_
  refine vc_block ?_
  refine vc_seq fun K8 hK8 => ?_
  refine vc_region ?_
  refine vo_index_pv (.sl none 1 []) rfl rfl rfl E23.und inf28 sz28 sd sd ?_
  simp only [Int.toNat_natCast, Int.toNat_zero, getD_ints, getD_intss, getD_bools, getD_bytes, PV.cells, getD_ops, getD_pairs, getD_insts, getD_attrs, getD_attrss, getD_objs]
  refine vo_load_adr rfl rfl Try.underlying28 rfl ?_
  refine vo_assign_pv rfl rfl ?_
  refine vo_nil ?_
  refine hK8 _ ?_
  refine vc_seq fun K9 hK9 => ?_
  refine vc_region ?_
  refine vo_move_pv rfl rfl ?_
  refine vo_move_pv rfl rfl ?_
  refine vo_len_pv rfl rfl Try.underlying28 ?_
  refine vo_binI rfl rfl rfl rfl sd ?_
  refine vo_assign_pv rfl rfl ?_
  refine vo_nil ?_
  refine hK9 _ ?_
  refine vc_seq fun K10 hK10 => ?_
  refine vc_region ?_
  refine vo_move_pv rfl rfl ?_
  refine vo_binI rfl rfl rfl rfl trivial ?_
  refine vo_nil ?_
  refine hK10 _ ?_
  refine vc_cond rfl (fun hc2 => ?_) (fun hc2 => ?_)
  ·try simp only [zq0, zq1, zq2, zq3, zq4, zq5, zq6, zq7, zq8, zq9, zqa, zqb, zqc, zqd, zqe, zqf] at hc2
   omega
  ·try simp only [zq0, zq1, zq2, zq3, zq4, zq5, zq6, zq7, zq8, zq9, zqa, zqb, zqc, zqd, zqe, zqf] at hc2
   refine vc_skip ?_
   refine hK7 _ ?_
   refine vc_region ?_
   refine vo_binI rfl rfl rfl rfl sd ?_
   refine vo_move_pv rfl rfl ?_
   refine vo_nil ?_
   change againE _ _ _ _ _ _ _ _ _ _
   refine againE_mk rfl rfl rfl rfl rfl rfl ⟨_, ?_, k + 1, _, rfl, ?_, ?_, ?_, rfl, rfl⟩
   ·omega
   ·omega
   ·rw [flat_len (by omega), hz]; omega
   ·omega
 ·try simp only [zq0, zq1, zq2, zq3, zq4, zq5, zq6, zq7, zq8, zq9, zqa, zqb, zqc, zqd, zqe, zqf] at hc1
  refine vc_exit ?_
  refine hK3 _ ?_
  refine vc_seq fun K11 hK11 => ?_
  refine vc_region ?_
  refine vo_move_pv rfl rfl ?_
  refine vo_call [] Try.func132 rfl rfl rfl rfl rfl rfl rfl (SatAt.nil1 (Grow_nil_sat (by omega) (by omega))) ?_
  rintro _ _ ⟨rfl, nl9, rfl⟩
  refine ⟨Nat.le_of_ble_eq_true rfl, ⟨rfl, rfl, rfl, rfl⟩, .inl rfl, ?_⟩
  refine vo_stM ?_
  refine vo_assign_ref rfl rfl ?_
  refine vo_nil ?_
  refine hK11 _ ?_
  refine vc_seq fun K12 hK12 => ?_
  refine vc_seq fun K13 hK13 => ?_
  refine vc_region ?_
  refine vo_move_pv rfl rfl ?_
  refine vo_len_pv rfl rfl Try.underlying23 ?_
  refine vo_move_pv rfl rfl ?_
  refine vo_nil ?_
  refine hK13 _ ?_
  refine vc_block ?_
  refine vc_stM ?_
  refine vc_loopE [25, 26] [6, 27] [0] _ _ (fun mz vs rs => ∃ (k : Nat) (nl5 : Option Bool), mz = L.length - k ∧ (k ≤ L.length) ∧ ((L.take k).flatten.length ≤ 10000 * k) ∧ vs = [.ref 0, i64 k] ∧ rs = [Row.own 3 1 nl5 true ((L.take k).flatten.map intP)]) (L.length) rfl rfl (le_len hC rfl) ⟨rfl, rfl, rfl⟩ rfl ⟨0, nl9, rfl, (Nat.zero_le _), (by simp), rfl, rfl⟩ ?_
  rintro mz vs rs - - ⟨k, nl5, rfl, hk, hz, rfl, rfl⟩
  refine vc_stM ?_
  have hlk := getD_all (p := fun l : List Int => l.length ≤ 10000) h2 [] (by simp) k
  have hml : (List.map intP (L.getD k [])).length = (L.getD k []).length := List.length_map ..
  refine vc_seq fun K14 hK14 => ?_
  refine vc_region ?_
  refine vo_binI rfl rfl rfl rfl trivial ?_
  refine vo_nil ?_
  refine hK14 _ ?_
  refine vc_seq fun K15 hK15 => ?_
  refine vc_cond rfl (fun hc3 => ?_) (fun hc3 => ?_)
  ·try simp only [zq0, zq1, zq2, zq3, zq4, zq5, zq6, zq7, zq8, zq9, zqa, zqb, zqc, zqd, zqe, zqf] at hc3
   refine vc_skip ?_
   refine hK15 _ ?_
   refine vc_seq fun K16 hK16 => ?_
   refine vc_block ?_
   refine vc_seq fun K17 hK17 => ?_
   refine vc_region ?_
   refine vo_index_pv (.sl none 1 []) rfl rfl rfl E23.und inf28 sz28 sd sd ?_
   simp only [Int.toNat_natCast, Int.toNat_zero, getD_ints, getD_intss, getD_bools, getD_bytes, PV.cells, getD_ops, getD_pairs, getD_insts, getD_attrs, getD_attrss, getD_objs]
   refine vo_load_adr rfl rfl Try.underlying28 rfl ?_
   refine vo_assign_pv rfl rfl ?_
   refine vo_nil ?_
   refine hK17 _ ?_
   refine vc_region ?_
   refine vo_move_ref rfl rfl ?_
   refine vo_move_pv rfl rfl ?_
   refine vo_append E28 rfl (by omega) rfl rfl rfl sd sd ?_
   refine vo_stM ?_
   try simp only [app_ints, app_intss, app_bools, ← List.map_append]
   refine vo_clean 0 rfl (scal_ints _) ?_
   refine vo_stM ?_
   refine vo_assign_ref rfl rfl ?_
   refine vo_nil ?_
   refine hK16 _ ?_
   refine vc_region ?_
   refine vo_binI rfl rfl rfl rfl sd ?_
   refine vo_move_pv rfl rfl ?_
   refine vo_nil ?_
   change againE _ _ _ _ _ _ _ _ _ _
   refine againE_mk rfl rfl rfl rfl rfl rfl ⟨_, ?_, k + 1, _, rfl, ?_, ?_, rfl, (rowI_eq (by rw [flat_succ (by omega)]))⟩
   ·omega
   ·omega
   ·rw [flat_len (by omega)]; omega
  ·try simp only [zq0, zq1, zq2, zq3, zq4, zq5, zq6, zq7, zq8, zq9, zqa, zqb, zqc, zqd, zqe, zqf] at hc3
   refine vc_exit ?_
   refine hK12 _ ?_
   refine vc_seq fun K18 hK18 => ?_
   refine vc_region ?_
   refine vo_move_ref rfl rfl ?_
   refine vo_assign_ref rfl rfl ?_
   refine vo_nil ?_
   refine hK18 _ ?_
   refine vc_ret ?_
   change retQ _ _ _ _ _
   refine retQ_sel [0] (srows := [_]) (.inr rfl) hC rfl rfl rfl rfl rfl rfl rfl ?_
   rw [take_all (by omega)]; exact ⟨_, rfl, rfl⟩


theorem szWorks_sat {a : WorksM} {left : Int}  (ha : GK63 a) (h0 : 0 ≤ left) (h1 : left ≤ 1048576) : SatAt Try.prog 20 [.pv false (worksP a), i64 left] [] (fun res rows => ∃ v : Int, (v < 0 ∨ (0 ≤ v ∧ v ≤ left ∧ SK a)) ∧ res = [i64 v] ∧ rows = []) := by
 obtain ⟨⟨b1, b2⟩, ⟨a1, a2⟩, r1, r2⟩ := ha
 refine sat_entry_G (rs := [(4, none)]) Try.func20 rfl rfl (Nat.le_of_ble_eq_true rfl) (Nat.le_of_ble_eq_true rfl) (resTs1 trivial) fun C hC => ?_
 rw [Try.ntmps20]
 replace hC : C.nb = 0 := hC
 refine vc_seq fun K1 hK1 => ?_
 refine vc_region ?_
 refine vo_box rfl rfl ?_
 refine vo_stM ?_
 refine vo_assign_pv rfl rfl ?_
 refine vo_nil ?_
 refine hK1 _ ?_
 refine vc_seq fun K2 hK2 => ?_
 refine vc_region ?_
 refine vo_fieldAddr_ptr rfl rfl Try.underlying32 rfl inf23 (by rw [sz23]; decide) ?_
 try simp only [Nat.zero_add]
 refine vo_load_var rfl rfl rfl Try.underlying23 rfl rfl ?_
 refine vo_move_pv rfl rfl ?_
 refine vo_call0 Try.func43 rfl rfl rfl rfl (szIntSS_sat b1 b2 (by omega) (by omega)) ?_
 rintro _ _ ⟨v0, hv0, rfl, rfl⟩
 refine ⟨rfl, rfl, .inl rfl, ?_⟩
 refine vo_stM ?_
 refine vo_assign_pv rfl rfl ?_
 refine vo_nil ?_
 refine hK2 _ ?_
 refine vc_seq fun K3 hK3 => ?_
 refine vc_seq fun K4 hK4 => ?_
 refine vc_region ?_
 refine vo_move_pv rfl rfl ?_
 refine vo_binI rfl rfl rfl rfl trivial ?_
 refine vo_nil ?_
 refine hK4 _ ?_
 refine vc_cond rfl (fun hc1 => ?_) (fun hc1 => ?_)
 ·try simp only [zq0, zq1, zq2, zq3, zq4, zq5, zq6, zq7, zq8, zq9, zqa, zqb, zqc, zqd, zqe, zqf] at hc1
  refine vc_seq fun K5 hK5 => ?_
  refine vc_region ?_
  refine vo_assign_pv rfl rfl ?_
  refine vo_nil ?_
  refine hK5 _ ?_
  refine vc_ret ?_
  change retQ _ _ _ _ _
  refine retQ_sel [] (srows := []) (.inr rfl) hC rfl rfl rfl rfl rfl rfl rfl ?_
  exact ⟨_, .inl (by omega), rfl, rfl⟩
 ·try simp only [zq0, zq1, zq2, zq3, zq4, zq5, zq6, zq7, zq8, zq9, zqa, zqb, zqc, zqd, zqe, zqf] at hc1
  have hb0 := hv0.resolve_left (by omega)
  refine vc_skip ?_
  refine hK3 _ ?_
  refine vc_seq fun K6 hK6 => ?_
  refine vc_region ?_
  refine vo_fieldAddr_ptr rfl rfl Try.underlying32 rfl inf23 (by rw [sz23]; decide) ?_
  try simp only [Nat.zero_add]
  refine vo_load_var rfl rfl rfl Try.underlying23 rfl rfl ?_
  refine vo_move_pv rfl rfl ?_
  refine vo_call0 Try.func43 rfl rfl rfl rfl (szIntSS_sat a1 a2 (by omega) (by omega)) ?_
  rintro _ _ ⟨v1, hv1, rfl, rfl⟩
  refine ⟨rfl, rfl, .inl rfl, ?_⟩
  refine vo_stM ?_
  refine vo_assign_pv rfl rfl ?_
  refine vo_nil ?_
  refine hK6 _ ?_
  refine vc_seq fun K7 hK7 => ?_
  refine vc_seq fun K8 hK8 => ?_
  refine vc_region ?_
  refine vo_move_pv rfl rfl ?_
  refine vo_binI rfl rfl rfl rfl trivial ?_
  refine vo_nil ?_
  refine hK8 _ ?_
  refine vc_cond rfl (fun hc2 => ?_) (fun hc2 => ?_)
  ·try simp only [zq0, zq1, zq2, zq3, zq4, zq5, zq6, zq7, zq8, zq9, zqa, zqb, zqc, zqd, zqe, zqf] at hc2
   refine vc_seq fun K9 hK9 => ?_
   refine vc_region ?_
   refine vo_assign_pv rfl rfl ?_
   refine vo_nil ?_
   refine hK9 _ ?_
   refine vc_ret ?_
   change retQ _ _ _ _ _
   refine retQ_sel [] (srows := []) (.inr rfl) hC rfl rfl rfl rfl rfl rfl rfl ?_
   exact ⟨_, .inl (by omega), rfl, rfl⟩
  ·try simp only [zq0, zq1, zq2, zq3, zq4, zq5, zq6, zq7, zq8, zq9, zqa, zqb, zqc, zqd, zqe, zqf] at hc2
   have hb1 := hv1.resolve_left (by omega)
   refine vc_skip ?_
   refine hK7 _ ?_
   refine vc_seq fun K10 hK10 => ?_
   refine vc_region ?_
   refine vo_fieldAddr_ptr rfl rfl Try.underlying32 rfl inf23 (by rw [sz23]; decide) ?_
   try simp only [Nat.zero_add]
   refine vo_load_var rfl rfl rfl Try.underlying23 rfl rfl ?_
   refine vo_move_pv rfl rfl ?_
   refine vo_call0 Try.func43 rfl rfl rfl rfl (szIntSS_sat r1 r2 (by omega) (by omega)) ?_
   rintro _ _ ⟨v2, hv2, rfl, rfl⟩
   refine ⟨rfl, rfl, .inl rfl, ?_⟩
   refine vo_stM ?_
   refine vo_assign_pv rfl rfl ?_
   refine vo_nil ?_
   refine hK10 _ ?_
   refine vc_seq fun K11 hK11 => ?_
   refine vc_seq fun K12 hK12 => ?_
   refine vc_region ?_
   refine vo_move_pv rfl rfl ?_
   refine vo_binI rfl rfl rfl rfl trivial ?_
   refine vo_nil ?_
   refine hK12 _ ?_
   refine vc_cond rfl (fun hc3 => ?_) (fun hc3 => ?_)
   ·try simp only [zq0, zq1, zq2, zq3, zq4, zq5, zq6, zq7, zq8, zq9, zqa, zqb, zqc, zqd, zqe, zqf] at hc3
    refine vc_seq fun K13 hK13 => ?_
    refine vc_region ?_
    refine vo_assign_pv rfl rfl ?_
    refine vo_nil ?_
    refine hK13 _ ?_
    refine vc_ret ?_
    change retQ _ _ _ _ _
    refine retQ_sel [] (srows := []) (.inr rfl) hC rfl rfl rfl rfl rfl rfl rfl ?_
    exact ⟨_, .inl (by omega), rfl, rfl⟩
   ·try simp only [zq0, zq1, zq2, zq3, zq4, zq5, zq6, zq7, zq8, zq9, zqa, zqb, zqc, zqd, zqe, zqf] at hc3
    have hb2 := hv2.resolve_left (by omega)
    refine vc_skip ?_
    refine hK11 _ ?_
    refine vc_seq fun K14 hK14 => ?_
    refine vc_region ?_
    refine vo_move_pv rfl rfl ?_
    refine vo_assign_pv rfl rfl ?_
    refine vo_nil ?_
    refine hK14 _ ?_
    refine vc_ret ?_
    change retQ _ _ _ _ _
    refine retQ_sel [] (srows := []) (.inr rfl) hC rfl rfl rfl rfl rfl rfl rfl ?_
    exact ⟨_, .inr ⟨by omega, by omega, ⟨by omega, fun l hl => by have := hb0.2.2 l hl; omega⟩, ⟨by omega, fun l hl => by have := hb1.2.2 l hl; omega⟩, by omega, fun l hl => by have := hb2.2.2 l hl; omega⟩, rfl, rfl⟩


theorem toWorks_sat {a : WorksM}  (ha : SK a) : SatAt Try.prog 21 [.pv false (worksP a)] [] (fun res rows => res = [.pv true (worksP a)] ∧ rows = []) := by
 obtain ⟨⟨b1, b2⟩, ⟨a1, a2⟩, r1, r2⟩ := ha
 refine sat_entry_G (rs := [(2, some (25, 3))]) Try.func21 rfl rfl (Nat.le_of_ble_eq_true rfl) (Nat.le_of_ble_eq_true rfl) (resTs1 ⟨_, _, Try.underlying25, rfl, inf25, sz25⟩) fun C hC => ?_
 rw [Try.ntmps21]
 replace hC : C.nb = 0 := hC
 refine vc_seq fun K1 hK1 => ?_
 refine vc_region ?_
 refine vo_box rfl rfl ?_
 refine vo_stM ?_
 refine vo_alloc Z25 rfl ?_
 refine vo_stM ?_
 refine vo_nil ?_
 refine hK1 _ ?_
 refine vc_seq fun K2 hK2 => ?_
 refine vc_region ?_
 refine vo_alloc Z25 rfl ?_
 refine vo_stM ?_
 refine vo_nil ?_
 refine hK2 _ ?_
 refine vc_seq fun K3 hK3 => ?_
 refine vc_region ?_
 refine vo_fieldAddr_ptr rfl rfl Try.underlying32 rfl inf23 (by rw [sz23]; decide) ?_
 try simp only [Nat.zero_add]
 refine vo_load_var rfl rfl rfl Try.underlying23 rfl rfl ?_
 refine vo_call [] Try.func45 rfl rfl rfl rfl rfl rfl rfl (toIntSS_sat (by omega) (fun l hl => by have := b2 l hl; omega)) ?_
 rintro _ _ ⟨rfl, rfl⟩
 refine ⟨Nat.le_of_ble_eq_true rfl, ⟨rfl, rfl, rfl, rfl⟩, .inl rfl, ?_⟩
 refine vo_stM ?_
 refine vo_expose 3 (by omega) rfl ?_
 refine vo_stM ?_
 refine vo_weaken 6 rfl ?_
 refine vo_stM ?_
 refine vo_fieldAddr_ptr rfl rfl Try.underlying25 rfl inf23 (by rw [sz23]; decide) ?_
 try simp only [Nat.zero_add]
 refine vo_store_var rfl rfl rfl rfl inf23 sz23 rfl ?_
 refine vo_stM ?_
 refine vo_nil ?_
 refine hK3 _ ?_
 refine vc_seq fun K4 hK4 => ?_
 refine vc_region ?_
 refine vo_fieldAddr_ptr rfl rfl Try.underlying32 rfl inf23 (by rw [sz23]; decide) ?_
 try simp only [Nat.zero_add]
 refine vo_load_var rfl rfl rfl Try.underlying23 rfl rfl ?_
 refine vo_call [] Try.func45 rfl rfl rfl rfl rfl rfl rfl (toIntSS_sat (by omega) (fun l hl => by have := a2 l hl; omega)) ?_
 rintro _ _ ⟨rfl, rfl⟩
 refine ⟨Nat.le_of_ble_eq_true rfl, ⟨rfl, rfl, rfl, rfl⟩, .inl rfl, ?_⟩
 refine vo_stM ?_
 refine vo_expose 4 (by omega) rfl ?_
 refine vo_stM ?_
 refine vo_weaken 10 rfl ?_
 refine vo_stM ?_
 refine vo_fieldAddr_ptr rfl rfl Try.underlying25 rfl inf23 (by rw [sz23]; decide) ?_
 try simp only [Nat.zero_add]
 refine vo_store_var rfl rfl rfl rfl inf23 sz23 rfl ?_
 refine vo_stM ?_
 refine vo_nil ?_
 refine hK4 _ ?_
 refine vc_seq fun K5 hK5 => ?_
 refine vc_region ?_
 refine vo_fieldAddr_ptr rfl rfl Try.underlying32 rfl inf23 (by rw [sz23]; decide) ?_
 try simp only [Nat.zero_add]
 refine vo_load_var rfl rfl rfl Try.underlying23 rfl rfl ?_
 refine vo_call [] Try.func45 rfl rfl rfl rfl rfl rfl rfl (toIntSS_sat (by omega) (fun l hl => by have := r2 l hl; omega)) ?_
 rintro _ _ ⟨rfl, rfl⟩
 refine ⟨Nat.le_of_ble_eq_true rfl, ⟨rfl, rfl, rfl, rfl⟩, .inl rfl, ?_⟩
 refine vo_stM ?_
 refine vo_expose 5 (by omega) rfl ?_
 refine vo_stM ?_
 refine vo_weaken 14 rfl ?_
 refine vo_stM ?_
 refine vo_fieldAddr_ptr rfl rfl Try.underlying25 rfl inf23 (by rw [sz23]; decide) ?_
 try simp only [Nat.zero_add]
 refine vo_store_var rfl rfl rfl rfl inf23 sz23 rfl ?_
 refine vo_stM ?_
 refine vo_nil ?_
 refine hK5 _ ?_
 refine vc_seq fun K6 hK6 => ?_
 refine vc_region ?_
 refine vo_load_varS rfl rfl rfl Try.underlying25 rfl inf25 sz25 rfl rfl ?_
 refine vo_store_varS rfl rfl rfl inf25 sz25 rfl ?_
 refine vo_stM ?_
 refine vo_nil ?_
 refine hK6 _ ?_
 refine vc_ret ?_
 change retQ _ _ _ _ _
 refine retQ_sel [] (srows := []) (.inr rfl) hC rfl rfl rfl rfl rfl rfl rfl ?_
 exact ⟨rfl, rfl⟩


theorem eqWorks_sat {a : WorksM} {b : WorksM}  (ha : SK a) (hb : SK b) : SatAt Try.prog 22 [.pv false (worksP a), .pv false (worksP b)] [] (fun res rows => res = [bo (decide (a = b))] ∧ rows = []) := by
 obtain ⟨⟨b1, b2⟩, ⟨a1, a2⟩, r1, r2⟩ := ha
 obtain ⟨⟨b3, b4⟩, ⟨a3, a4⟩, r3, r4⟩ := hb
 refine sat_entry_G (rs := [(4, none)]) Try.func22 rfl rfl (Nat.le_of_ble_eq_true rfl) (Nat.le_of_ble_eq_true rfl) (resTs1 trivial) fun C hC => ?_
 rw [Try.ntmps22]
 replace hC : C.nb = 0 := hC
 refine vc_seq fun K1 hK1 => ?_
 refine vc_region ?_
 refine vo_box rfl rfl ?_
 refine vo_stM ?_
 refine vo_box rfl rfl ?_
 refine vo_stM ?_
 refine vo_assign_pv rfl rfl ?_
 refine vo_nil ?_
 refine hK1 _ ?_
 refine vc_seq fun K2 hK2 => ?_
 refine vc_seq fun K3 hK3 => ?_
 refine vc_region ?_
 refine vo_fieldAddr_ptr rfl rfl Try.underlying25 rfl inf23 (by rw [sz23]; decide) ?_
 try simp only [Nat.zero_add]
 refine vo_load_var rfl rfl rfl Try.underlying23 rfl rfl ?_
 refine vo_fieldAddr_ptr rfl rfl Try.underlying25 rfl inf23 (by rw [sz23]; decide) ?_
 try simp only [Nat.zero_add]
 refine vo_load_var rfl rfl rfl Try.underlying23 rfl rfl ?_
 refine vo_call0 Try.func47 rfl rfl rfl rfl (eqIntSS_sat (by omega) (fun l hl => by have := b2 l hl; omega) (by omega) (fun l hl => by have := b4 l hl; omega)) ?_
 rintro _ _ ⟨rfl, rfl⟩
 refine ⟨rfl, rfl, .inl rfl, ?_⟩
 refine vo_stM ?_
 refine vo_not rfl rfl ?_
 refine vo_nil ?_
 refine hK3 _ ?_
 refine vc_cond rfl (fun hc1 => ?_) (fun hc1 => ?_)
 ·try simp only [zq0, zq1, zq2, zq3, zq4, zq5, zq6, zq7, zq8, zq9, zqa, zqb, zqc, zqd, zqe, zqf] at hc1
  refine vc_seq fun K4 hK4 => ?_
  refine vc_region ?_
  refine vo_assign_pv rfl rfl ?_
  refine vo_nil ?_
  refine hK4 _ ?_
  refine vc_ret ?_
  change retQ _ _ _ _ _
  refine retQ_sel [] (srows := []) (.inr rfl) hC rfl rfl rfl rfl rfl rfl rfl ?_
  refine ⟨?_, rfl⟩
  refine (congrArg (fun b => [bo b]) (?_ : _ = _) : [bo _] = [bo _])
  cases a; cases b; simp_all
 ·try simp only [zq0, zq1, zq2, zq3, zq4, zq5, zq6, zq7, zq8, zq9, zqa, zqb, zqc, zqd, zqe, zqf] at hc1
  refine vc_skip ?_
  refine hK2 _ ?_
  refine vc_seq fun K5 hK5 => ?_
  refine vc_seq fun K6 hK6 => ?_
  refine vc_region ?_
  refine vo_fieldAddr_ptr rfl rfl Try.underlying25 rfl inf23 (by rw [sz23]; decide) ?_
  try simp only [Nat.zero_add]
  refine vo_load_var rfl rfl rfl Try.underlying23 rfl rfl ?_
  refine vo_fieldAddr_ptr rfl rfl Try.underlying25 rfl inf23 (by rw [sz23]; decide) ?_
  try simp only [Nat.zero_add]
  refine vo_load_var rfl rfl rfl Try.underlying23 rfl rfl ?_
  refine vo_call0 Try.func47 rfl rfl rfl rfl (eqIntSS_sat (by omega) (fun l hl => by have := a2 l hl; omega) (by omega) (fun l hl => by have := a4 l hl; omega)) ?_
  rintro _ _ ⟨rfl, rfl⟩
  refine ⟨rfl, rfl, .inl rfl, ?_⟩
  refine vo_stM ?_
  refine vo_not rfl rfl ?_
  refine vo_nil ?_
  refine hK6 _ ?_
  refine vc_cond rfl (fun hc2 => ?_) (fun hc2 => ?_)
  ·try simp only [zq0, zq1, zq2, zq3, zq4, zq5, zq6, zq7, zq8, zq9, zqa, zqb, zqc, zqd, zqe, zqf] at hc2
   refine vc_seq fun K7 hK7 => ?_
   refine vc_region ?_
   refine vo_assign_pv rfl rfl ?_
   refine vo_nil ?_
   refine hK7 _ ?_
   refine vc_ret ?_
   change retQ _ _ _ _ _
   refine retQ_sel [] (srows := []) (.inr rfl) hC rfl rfl rfl rfl rfl rfl rfl ?_
   refine ⟨?_, rfl⟩
   refine (congrArg (fun b => [bo b]) (?_ : _ = _) : [bo _] = [bo _])
   cases a; cases b; simp_all
  ·try simp only [zq0, zq1, zq2, zq3, zq4, zq5, zq6, zq7, zq8, zq9, zqa, zqb, zqc, zqd, zqe, zqf] at hc2
   refine vc_skip ?_
   refine hK5 _ ?_
   refine vc_seq fun K8 hK8 => ?_
   refine vc_seq fun K9 hK9 => ?_
   refine vc_region ?_
   refine vo_fieldAddr_ptr rfl rfl Try.underlying25 rfl inf23 (by rw [sz23]; decide) ?_
   try simp only [Nat.zero_add]
   refine vo_load_var rfl rfl rfl Try.underlying23 rfl rfl ?_
   refine vo_fieldAddr_ptr rfl rfl Try.underlying25 rfl inf23 (by rw [sz23]; decide) ?_
   try simp only [Nat.zero_add]
   refine vo_load_var rfl rfl rfl Try.underlying23 rfl rfl ?_
   refine vo_call0 Try.func47 rfl rfl rfl rfl (eqIntSS_sat (by omega) (fun l hl => by have := r2 l hl; omega) (by omega) (fun l hl => by have := r4 l hl; omega)) ?_
   rintro _ _ ⟨rfl, rfl⟩
   refine ⟨rfl, rfl, .inl rfl, ?_⟩
   refine vo_stM ?_
   refine vo_not rfl rfl ?_
   refine vo_nil ?_
   refine hK9 _ ?_
   refine vc_cond rfl (fun hc3 => ?_) (fun hc3 => ?_)
   ·try simp only [zq0, zq1, zq2, zq3, zq4, zq5, zq6, zq7, zq8, zq9, zqa, zqb, zqc, zqd, zqe, zqf] at hc3
    refine vc_seq fun K10 hK10 => ?_
    refine vc_region ?_
    refine vo_assign_pv rfl rfl ?_
    refine vo_nil ?_
    refine hK10 _ ?_
    refine vc_ret ?_
    change retQ _ _ _ _ _
    refine retQ_sel [] (srows := []) (.inr rfl) hC rfl rfl rfl rfl rfl rfl rfl ?_
    refine ⟨?_, rfl⟩
    refine (congrArg (fun b => [bo b]) (?_ : _ = _) : [bo _] = [bo _])
    cases a; cases b; simp_all
   ·try simp only [zq0, zq1, zq2, zq3, zq4, zq5, zq6, zq7, zq8, zq9, zqa, zqb, zqc, zqd, zqe, zqf] at hc3
    refine vc_skip ?_
    refine hK8 _ ?_
    refine vc_seq fun K11 hK11 => ?_
    refine vc_region ?_
    refine vo_assign_pv rfl rfl ?_
    refine vo_nil ?_
    refine hK11 _ ?_
    refine vc_ret ?_
    change retQ _ _ _ _ _
    refine retQ_sel [] (srows := []) (.inr rfl) hC rfl rfl rfl rfl rfl rfl rfl ?_
    refine ⟨?_, rfl⟩
    refine (congrArg (fun b => [bo b]) (?_ : _ = _) : [bo _] = [bo _])
    cases a; cases b; simp_all


theorem specValidWork_sat {x : WorksM}  (hx : SK x) : SatAt Try.prog 59 [.pv false (worksP x)] [] (fun res rows => res = [bo (decide (VWorks x))] ∧ rows = []) := by
  obtain ⟨⟨b1, b2⟩, ⟨a1, a2⟩, r1, r2⟩ := hx
  refine sat_entry_G (rs := [(2, none)]) Try.func59 rfl rfl (Nat.le_of_ble_eq_true rfl) (Nat.le_of_ble_eq_true rfl) (resTs1 trivial) fun C hC => ?_
  rw [Try.ntmps59]
  replace hC : C.nb = 0 := hC
  refine vc_seq fun K1 hK1 => ?_
  refine vc_region ?_
  refine vo_box rfl rfl ?_
  refine vo_stM ?_
  refine vo_assign_pv rfl rfl ?_
  refine vo_nil ?_
  refine hK1 _ ?_
  refine vc_seq fun K2 hK2 => ?_
  refine vc_seq fun K3 hK3 => ?_
  refine vc_region ?_
  refine vo_fieldAddr_ptr rfl rfl Try.underlying25 rfl inf23 (by rw [sz23]; decide) ?_
  try simp only [Nat.zero_add]
  refine vo_load_var rfl rfl rfl Try.underlying23 rfl rfl ?_
  refine vo_call0 Try.func101 rfl rfl rfl rfl (specValidBases0_sat (by omega) (fun l hl => by have := b2 l hl; omega)) ?_
  rintro _ _ ⟨rfl, rfl⟩
  refine ⟨rfl, rfl, .inl rfl, ?_⟩
  refine vo_stM ?_
  refine vo_not rfl rfl ?_
  refine vo_move_pv rfl rfl ?_
  refine vo_split 9 rfl (fun hg1 => ?_) (fun hg1 => ?_)
  · try simp only [zq0, zq1, zq2, zq3, zq4, zq5, zq6, zq7, zq8, zq9, zqa, zqb, zqc, zqd, zqe, zqf] at hg1
    refine vo_guard_off rfl rfl rfl rfl rfl ?_
    refine vo_guard_off rfl rfl rfl rfl rfl ?_
    refine vo_guard_off rfl rfl rfl rfl rfl ?_
    refine vo_guard_off rfl rfl rfl rfl rfl ?_
    refine vo_pick_t rfl rfl ?_
    refine vo_move_pv rfl rfl ?_
    refine vo_guard_off rfl rfl rfl rfl rfl ?_
    refine vo_guard_off rfl rfl rfl rfl rfl ?_
    refine vo_guard_off rfl rfl rfl rfl rfl ?_
    refine vo_guard_off rfl rfl rfl rfl rfl ?_
    refine vo_guard_off rfl rfl rfl rfl rfl ?_
    refine vo_guard_off rfl rfl rfl rfl rfl ?_
    refine vo_guard_off rfl rfl rfl rfl rfl ?_
    refine vo_pick_t rfl rfl ?_
    refine vo_move_pv rfl rfl ?_
    refine vo_guard_off rfl rfl rfl rfl rfl ?_
    refine vo_guard_off rfl rfl rfl rfl rfl ?_
    refine vo_guard_off rfl rfl rfl rfl rfl ?_
    refine vo_guard_off rfl rfl rfl rfl rfl ?_
    refine vo_guard_off rfl rfl rfl rfl rfl ?_
    refine vo_guard_off rfl rfl rfl rfl rfl ?_
    refine vo_guard_off rfl rfl rfl rfl rfl ?_
    refine vo_pick_t rfl rfl ?_
    refine vo_nil ?_
    refine hK3 _ ?_
    refine vc_cond_t rfl ?_
    refine vc_seq fun K4 hK4 => ?_
    refine vc_region ?_
    refine vo_assign_pv rfl rfl ?_
    refine vo_nil ?_
    refine hK4 _ ?_
    refine vc_ret ?_
    change retQ _ _ _ _ _
    refine retQ_sel [] (srows := []) (.inr rfl) hC rfl rfl rfl rfl rfl rfl rfl ?_
    refine ⟨?_, rfl⟩
    refine (congrArg (fun b => [bo b]) (?_ : _ = _) : [bo _] = [bo _])
    first
      | (refine bF fun h0 => ?_
         have h1 := h0.2.1; have h2 := h0.2.2.1
         first
           | omega
           | exact absurd h0.1 (by assumption)
           | exact absurd h0.1.1 (by assumption)
           | exact absurd h0.1.2 (by assumption)
           | exact absurd (h0.2.2.2 k (by omega)) (by assumption)
           | exact absurd (h0.2.2.2 k (by omega)).1 (by assumption)
           | exact absurd (h0.2.2.2 k (by omega)).2 (by assumption))
      | exact bT ⟨by first | assumption | exact ⟨hg1, hg2⟩, by omega, by omega, fun i hi => hf i (by omega)⟩
  · try simp only [zq0, zq1, zq2, zq3, zq4, zq5, zq6, zq7, zq8, zq9, zqa, zqb, zqc, zqd, zqe, zqf] at hg1
    refine vo_guard_on rfl rfl rfl ?_
    refine vo_fieldAddr_ptr rfl rfl Try.underlying25 rfl inf23 (by rw [sz23]; decide) ?_
    try simp only [Nat.zero_add]
    refine vo_guard_on rfl rfl rfl ?_
    refine vo_load_var rfl rfl rfl Try.underlying23 rfl rfl ?_
    refine vo_guard_on rfl rfl rfl ?_
    refine vo_call0 Try.func102 rfl rfl rfl rfl (allOrders_sat (by omega) (fun l hl => by have := b2 l hl; omega) hg1) ?_
    rintro _ _ ⟨rfl, rfl⟩
    refine ⟨rfl, rfl, .inl rfl, ?_⟩
    refine vo_stM ?_
    refine vo_guard_on rfl rfl rfl ?_
    refine vo_not rfl rfl ?_
    refine vo_pick_f rfl rfl ?_
    refine vo_move_pv rfl rfl ?_
    refine vo_split 15 rfl (fun hg2 => ?_) (fun hg2 => ?_)
    · try simp only [zq0, zq1, zq2, zq3, zq4, zq5, zq6, zq7, zq8, zq9, zqa, zqb, zqc, zqd, zqe, zqf] at hg2
      refine vo_guard_off rfl rfl rfl rfl rfl ?_
      refine vo_guard_off rfl rfl rfl rfl rfl ?_
      refine vo_guard_off rfl rfl rfl rfl rfl ?_
      refine vo_guard_off rfl rfl rfl rfl rfl ?_
      refine vo_guard_off rfl rfl rfl rfl rfl ?_
      refine vo_guard_off rfl rfl rfl rfl rfl ?_
      refine vo_guard_off rfl rfl rfl rfl rfl ?_
      refine vo_pick_t rfl rfl ?_
      refine vo_move_pv rfl rfl ?_
      refine vo_guard_off rfl rfl rfl rfl rfl ?_
      refine vo_guard_off rfl rfl rfl rfl rfl ?_
      refine vo_guard_off rfl rfl rfl rfl rfl ?_
      refine vo_guard_off rfl rfl rfl rfl rfl ?_
      refine vo_guard_off rfl rfl rfl rfl rfl ?_
      refine vo_guard_off rfl rfl rfl rfl rfl ?_
      refine vo_guard_off rfl rfl rfl rfl rfl ?_
      refine vo_pick_t rfl rfl ?_
      refine vo_nil ?_
      refine hK3 _ ?_
      refine vc_cond_t rfl ?_
      refine vc_seq fun K5 hK5 => ?_
      refine vc_region ?_
      refine vo_assign_pv rfl rfl ?_
      refine vo_nil ?_
      refine hK5 _ ?_
      refine vc_ret ?_
      change retQ _ _ _ _ _
      refine retQ_sel [] (srows := []) (.inr rfl) hC rfl rfl rfl rfl rfl rfl rfl ?_
      refine ⟨?_, rfl⟩
      refine (congrArg (fun b => [bo b]) (?_ : _ = _) : [bo _] = [bo _])
      first
        | (refine bF fun h0 => ?_
           have h1 := h0.2.1; have h2 := h0.2.2.1
           first
             | omega
             | exact absurd h0.1 (by assumption)
             | exact absurd h0.1.1 (by assumption)
             | exact absurd h0.1.2 (by assumption)
             | exact absurd (h0.2.2.2 k (by omega)) (by assumption)
             | exact absurd (h0.2.2.2 k (by omega)).1 (by assumption)
             | exact absurd (h0.2.2.2 k (by omega)).2 (by assumption))
        | exact bT ⟨by first | assumption | exact ⟨hg1, hg2⟩, by omega, by omega, fun i hi => hf i (by omega)⟩
    · try simp only [zq0, zq1, zq2, zq3, zq4, zq5, zq6, zq7, zq8, zq9, zqa, zqb, zqc, zqd, zqe, zqf] at hg2
      refine vo_guard_on rfl rfl rfl ?_
      refine vo_fieldAddr_ptr rfl rfl Try.underlying25 rfl inf23 (by rw [sz23]; decide) ?_
      try simp only [Nat.zero_add]
      refine vo_guard_on rfl rfl rfl ?_
      refine vo_load_var rfl rfl rfl Try.underlying23 rfl rfl ?_
      refine vo_guard_on rfl rfl rfl ?_
      refine vo_len_pv rfl rfl Try.underlying23 ?_
      refine vo_guard_on rfl rfl rfl ?_
      refine vo_fieldAddr_ptr rfl rfl Try.underlying25 rfl inf23 (by rw [sz23]; decide) ?_
      try simp only [Nat.zero_add]
      refine vo_guard_on rfl rfl rfl ?_
      refine vo_load_var rfl rfl rfl Try.underlying23 rfl rfl ?_
      refine vo_guard_on rfl rfl rfl ?_
      refine vo_len_pv rfl rfl Try.underlying23 ?_
      refine vo_guard_on rfl rfl rfl ?_
      refine vo_binI rfl rfl rfl rfl trivial ?_
      refine vo_pick_f rfl rfl ?_
      refine vo_move_pv rfl rfl ?_
      refine vo_split 24 rfl (fun hg3 => ?_) (fun hg3 => ?_)
      · try simp only [zq0, zq1, zq2, zq3, zq4, zq5, zq6, zq7, zq8, zq9, zqa, zqb, zqc, zqd, zqe, zqf] at hg3
        refine vo_guard_off rfl rfl rfl rfl rfl ?_
        refine vo_guard_off rfl rfl rfl rfl rfl ?_
        refine vo_guard_off rfl rfl rfl rfl rfl ?_
        refine vo_guard_off rfl rfl rfl rfl rfl ?_
        refine vo_guard_off rfl rfl rfl rfl rfl ?_
        refine vo_guard_off rfl rfl rfl rfl rfl ?_
        refine vo_guard_off rfl rfl rfl rfl rfl ?_
        refine vo_pick_t rfl rfl ?_
        refine vo_nil ?_
        refine hK3 _ ?_
        refine vc_cond_t rfl ?_
        refine vc_seq fun K6 hK6 => ?_
        refine vc_region ?_
        refine vo_assign_pv rfl rfl ?_
        refine vo_nil ?_
        refine hK6 _ ?_
        refine vc_ret ?_
        change retQ _ _ _ _ _
        refine retQ_sel [] (srows := []) (.inr rfl) hC rfl rfl rfl rfl rfl rfl rfl ?_
        refine ⟨?_, rfl⟩
        refine (congrArg (fun b => [bo b]) (?_ : _ = _) : [bo _] = [bo _])
        first
          | (refine bF fun h0 => ?_
             have h1 := h0.2.1; have h2 := h0.2.2.1
             first
               | omega
               | exact absurd h0.1 (by assumption)
               | exact absurd h0.1.1 (by assumption)
               | exact absurd h0.1.2 (by assumption)
               | exact absurd (h0.2.2.2 k (by omega)) (by assumption)
               | exact absurd (h0.2.2.2 k (by omega)).1 (by assumption)
               | exact absurd (h0.2.2.2 k (by omega)).2 (by assumption))
          | exact bT ⟨by first | assumption | exact ⟨hg1, hg2⟩, by omega, by omega, fun i hi => hf i (by omega)⟩
      · try simp only [zq0, zq1, zq2, zq3, zq4, zq5, zq6, zq7, zq8, zq9, zqa, zqb, zqc, zqd, zqe, zqf] at hg3
        refine vo_guard_on rfl rfl rfl ?_
        refine vo_fieldAddr_ptr rfl rfl Try.underlying25 rfl inf23 (by rw [sz23]; decide) ?_
        try simp only [Nat.zero_add]
        refine vo_guard_on rfl rfl rfl ?_
        refine vo_load_var rfl rfl rfl Try.underlying23 rfl rfl ?_
        refine vo_guard_on rfl rfl rfl ?_
        refine vo_len_pv rfl rfl Try.underlying23 ?_
        refine vo_guard_on rfl rfl rfl ?_
        refine vo_fieldAddr_ptr rfl rfl Try.underlying25 rfl inf23 (by rw [sz23]; decide) ?_
        try simp only [Nat.zero_add]
        refine vo_guard_on rfl rfl rfl ?_
        refine vo_load_var rfl rfl rfl Try.underlying23 rfl rfl ?_
        refine vo_guard_on rfl rfl rfl ?_
        refine vo_len_pv rfl rfl Try.underlying23 ?_
        refine vo_guard_on rfl rfl rfl ?_
        refine vo_binI rfl rfl rfl rfl trivial ?_
        refine vo_pick_f rfl rfl ?_
        refine vo_nil ?_
        refine hK3 _ ?_
        refine vc_cond rfl (fun hc4 => ?_) (fun hc4 => ?_)
        · try simp only [zq0, zq1, zq2, zq3, zq4, zq5, zq6, zq7, zq8, zq9, zqa, zqb, zqc, zqd, zqe, zqf] at hc4
          refine vc_seq fun K7 hK7 => ?_
          refine vc_region ?_
          refine vo_assign_pv rfl rfl ?_
          refine vo_nil ?_
          refine hK7 _ ?_
          refine vc_ret ?_
          change retQ _ _ _ _ _
          refine retQ_sel [] (srows := []) (.inr rfl) hC rfl rfl rfl rfl rfl rfl rfl ?_
          refine ⟨?_, rfl⟩
          refine (congrArg (fun b => [bo b]) (?_ : _ = _) : [bo _] = [bo _])
          first
            | (refine bF fun h0 => ?_
               have h1 := h0.2.1; have h2 := h0.2.2.1
               first
                 | omega
                 | exact absurd h0.1 (by assumption)
                 | exact absurd h0.1.1 (by assumption)
                 | exact absurd h0.1.2 (by assumption)
                 | exact absurd (h0.2.2.2 k (by omega)) (by assumption)
                 | exact absurd (h0.2.2.2 k (by omega)).1 (by assumption)
                 | exact absurd (h0.2.2.2 k (by omega)).2 (by assumption))
            | exact bT ⟨by first | assumption | exact ⟨hg1, hg2⟩, by omega, by omega, fun i hi => hf i (by omega)⟩
        · try simp only [zq0, zq1, zq2, zq3, zq4, zq5, zq6, zq7, zq8, zq9, zqa, zqb, zqc, zqd, zqe, zqf] at hc4
          refine vc_skip ?_
          refine hK2 _ ?_
          refine vc_seq fun K8 hK8 => ?_
          refine vc_seq fun K9 hK9 => ?_
          refine vc_region ?_
          refine vo_assign_pv rfl rfl ?_
          refine vo_nil ?_
          refine hK9 _ ?_
          refine vc_block ?_
          refine vc_stM ?_
          refine vc_loopE [1] [3] [] _ _ (fun mz vs rs => ∃ (k : Nat), mz = x.bases.length - k ∧ (k ≤ x.bases.length) ∧ (∀ i, i < k → okWk (x.abs.getD i []) (x.real.getD i [])) ∧ vs = [i64 k] ∧ rs = []) (x.bases.length) rfl rfl (le_len hC rfl) ⟨rfl, rfl, rfl⟩ rfl ⟨0, rfl, Nat.zero_le _, (fun i h => by omega), rfl, rfl⟩ ?_
          rintro mz vs rs - - ⟨k, rfl, hk, hf, rfl, rfl⟩
          refine vc_stM ?_
          have hal := getD_all (p := fun l : List Int => l.length ≤ 2000000) a2 [] (by simp) k
          have hrl := getD_all (p := fun l : List Int => l.length ≤ 2000000) r2 [] (by simp) k
          refine vc_seq fun K10 hK10 => ?_
          refine vc_seq fun K11 hK11 => ?_
          refine vc_region ?_
          refine vo_move_pv rfl rfl ?_
          refine vo_fieldAddr_ptr rfl rfl Try.underlying25 rfl inf23 (by rw [sz23]; decide) ?_
          try simp only [Nat.zero_add]
          refine vo_load_var rfl rfl rfl Try.underlying23 rfl rfl ?_
          refine vo_len_pv rfl rfl Try.underlying23 ?_
          refine vo_binI rfl rfl rfl rfl trivial ?_
          refine vo_nil ?_
          refine hK11 _ ?_
          refine vc_cond rfl (fun hc5 => ?_) (fun hc5 => ?_)
          · try simp only [zq0, zq1, zq2, zq3, zq4, zq5, zq6, zq7, zq8, zq9, zqa, zqb, zqc, zqd, zqe, zqf] at hc5
            refine vc_skip ?_
            refine hK10 _ ?_
            refine vc_seq fun K12 hK12 => ?_
            refine vc_block ?_
            refine vc_seq fun K13 hK13 => ?_
            refine vc_drawL [11, 12] (by kernel_rfl) ?_
            change VL [11, 12] _ _ _ 13 _ _ _
            refine vl_light 0 [2, 6, 7, 8, 9, 10] rfl rfl rfl (by kernel_rfl) (by kernel_rfl) (by kernel_rfl) (by kernel_rfl) (by kernel_rfl) (wnt_none rfl) (lt_fieldAddr_ptr rfl Try.underlying25 rfl inf23 (by rw [sz23]; decide)) ?_
            try simp only [Nat.zero_add]
            refine vl_light 1 [0, 2, 6, 7, 8, 9, 10] rfl rfl rfl (by kernel_rfl) (by kernel_rfl) (by kernel_rfl) (by kernel_rfl) (by kernel_rfl) (wnt_none rfl) (lt_load_var rfl rfl Try.underlying23 rfl rfl) ?_
            refine vl_light 2 [0, 1, 6, 7, 8, 9, 10] rfl rfl rfl (by kernel_rfl) (by kernel_rfl) (by kernel_rfl) (by kernel_rfl) (by kernel_rfl) (wnt_none rfl) (lt_move_pv rfl) ?_
            refine vl_light 3 [0, 1, 2, 6, 7, 8, 9, 10] rfl rfl rfl (by kernel_rfl) (by kernel_rfl) (by kernel_rfl) (by kernel_rfl) (by kernel_rfl) (wnt_none rfl) (lt_index_pv (.sl none 1 []) rfl rfl E23.und inf28 sz28 sd sd) ?_
            simp only [Int.toNat_natCast, Int.toNat_zero, getD_ints, getD_intss, getD_bools, getD_bytes, PV.cells, getD_ops, getD_pairs, getD_insts, getD_attrs, getD_attrss, getD_objs]
            refine vl_light 4 [0, 1, 2, 3, 6, 7, 8, 9, 10] rfl rfl rfl (by kernel_rfl) (by kernel_rfl) (by kernel_rfl) (by kernel_rfl) (by kernel_rfl) (wnt_none rfl) (lt_load_adr rfl Try.underlying28 rfl) ?_
            refine vl_light 6 [0, 1, 2, 3, 4, 5, 8] rfl rfl rfl (by kernel_rfl) (by kernel_rfl) (by kernel_rfl) (by kernel_rfl) (by kernel_rfl) (wnt_none rfl) (lt_fieldAddr_ptr rfl Try.underlying25 rfl inf23 (by rw [sz23]; decide)) ?_
            try simp only [Nat.zero_add]
            refine vl_light 7 [0, 1, 2, 3, 4, 5, 6, 8] rfl rfl rfl (by kernel_rfl) (by kernel_rfl) (by kernel_rfl) (by kernel_rfl) (by kernel_rfl) (wnt_none rfl) (lt_load_var rfl rfl Try.underlying23 rfl rfl) ?_
            refine vl_light 8 [0, 1, 2, 3, 4, 5, 6, 7] rfl rfl rfl (by kernel_rfl) (by kernel_rfl) (by kernel_rfl) (by kernel_rfl) (by kernel_rfl) (wnt_none rfl) (lt_move_pv rfl) ?_
            refine vl_light 9 [0, 1, 2, 3, 4, 5, 6, 7, 8] rfl rfl rfl (by kernel_rfl) (by kernel_rfl) (by kernel_rfl) (by kernel_rfl) (by kernel_rfl) (wnt_none rfl) (lt_index_pv (.sl none 1 []) rfl rfl E23.und inf28 sz28 sd sd) ?_
            simp only [Int.toNat_natCast, Int.toNat_zero, getD_ints, getD_intss, getD_bools, getD_bytes, PV.cells, getD_ops, getD_pairs, getD_insts, getD_attrs, getD_attrss, getD_objs]
            refine vl_light 10 [0, 1, 2, 3, 4, 5, 6, 7, 8, 9] rfl rfl rfl (by kernel_rfl) (by kernel_rfl) (by kernel_rfl) (by kernel_rfl) (by kernel_rfl) (wnt_none rfl) (lt_load_adr rfl Try.underlying28 rfl) ?_
            refine vl_callR 5 [] rfl rfl (by kernel_rfl) (wnt_none rfl) Try.func103 rfl rfl rfl rfl (copyInts_sat (list := x.abs.getD k []) (by omega)) rfl rfl rfl ?_
            rintro _ _ ⟨nl9, rfl, rfl⟩
            refine ⟨Nat.le_of_ble_eq_true rfl, ⟨rfl, rfl, rfl, rfl⟩, .inl rfl, ?_⟩
            refine vl_stM ?_
            refine vl_one 11 rfl (by kernel_rfl) rfl ?_
            refine vo_append E28 rfl (by omega) rfl rfl rfl sd sd ?_
            refine vo_stM ?_
            try simp only [app_ints, app_intss, app_bools, ← List.map_append]
            refine vo_done ⟨rfl, ?_⟩
            refine vl_one 12 rfl (by kernel_rfl) rfl ?_
            refine vo_assign_ref rfl rfl ?_
            refine vo_done ⟨rfl, ?_⟩
            refine vl_nil (by kernel_rfl) ?_
            refine hK13 _ ?_
            refine vc_seq fun K14 hK14 => ?_
            refine vc_region ?_
            refine vo_move_ref rfl rfl ?_
            refine vo_expose 1 (by omega) rfl ?_
            refine vo_stM ?_
            refine vo_weaken 52 rfl ?_
            refine vo_stM ?_
            refine vo_call0 Try.func104 rfl rfl rfl rfl (different_sat (list := (x.abs.getD k [] ++ x.real.getD k [])) (by rw [List.length_append]; omega)) ?_
            rintro _ _ ⟨rfl, rfl⟩
            refine ⟨rfl, rfl, .inl rfl, ?_⟩
            refine vo_stM ?_
            refine vo_not rfl rfl ?_
            refine vo_move_pv rfl rfl ?_
            refine vo_split 55 rfl (fun hg6 => ?_) (fun hg6 => ?_)
            · try simp only [zq0, zq1, zq2, zq3, zq4, zq5, zq6, zq7, zq8, zq9, zqa, zqb, zqc, zqd, zqe, zqf] at hg6
              refine vo_guard_off rfl rfl rfl rfl rfl ?_
              refine vo_guard_off rfl rfl rfl rfl rfl ?_
              refine vo_guard_off rfl rfl rfl rfl rfl ?_
              refine vo_pick_t rfl rfl ?_
              refine vo_nil ?_
              refine hK14 _ ?_
              refine vc_cond_t rfl ?_
              refine vc_seq fun K15 hK15 => ?_
              refine vc_region ?_
              refine vo_assign_pv rfl rfl ?_
              refine vo_nil ?_
              refine hK15 _ ?_
              refine vc_ret ?_
              change retQ _ _ _ _ _
              refine retQ_sel [] (srows := []) (.inr rfl) hC rfl rfl rfl rfl rfl rfl rfl ?_
              refine ⟨?_, rfl⟩
              refine (congrArg (fun b => [bo b]) (?_ : _ = _) : [bo _] = [bo _])
              first
                | (refine bF fun h0 => ?_
                   have h1 := h0.2.1; have h2 := h0.2.2.1
                   first
                     | omega
                     | exact absurd h0.1 (by assumption)
                     | exact absurd h0.1.1 (by assumption)
                     | exact absurd h0.1.2 (by assumption)
                     | exact absurd (h0.2.2.2 k (by omega)) (by assumption)
                     | exact absurd (h0.2.2.2 k (by omega)).1 (by assumption)
                     | exact absurd (h0.2.2.2 k (by omega)).2 (by assumption))
                | exact bT ⟨by first | assumption | exact ⟨hg1, hg2⟩, by omega, by omega, fun i hi => hf i (by omega)⟩
            · try simp only [zq0, zq1, zq2, zq3, zq4, zq5, zq6, zq7, zq8, zq9, zqa, zqb, zqc, zqd, zqe, zqf] at hg6
              refine vo_guard_on rfl rfl rfl ?_
              refine vo_move_pv rfl rfl ?_
              refine vo_guard_on rfl rfl rfl ?_
              refine vo_call0 Try.func105 rfl rfl rfl rfl (allIn_sat (list := (x.abs.getD k [] ++ x.real.getD k [])) (by rw [List.length_append]; omega)) ?_
              rintro _ _ ⟨rfl, rfl⟩
              refine ⟨rfl, rfl, .inl rfl, ?_⟩
              refine vo_stM ?_
              refine vo_guard_on rfl rfl rfl ?_
              refine vo_not rfl rfl ?_
              refine vo_pick_f rfl rfl ?_
              refine vo_nil ?_
              refine hK14 _ ?_
              refine vc_cond rfl (fun hc7 => ?_) (fun hc7 => ?_)
              · try simp only [zq0, zq1, zq2, zq3, zq4, zq5, zq6, zq7, zq8, zq9, zqa, zqb, zqc, zqd, zqe, zqf] at hc7
                refine vc_seq fun K16 hK16 => ?_
                refine vc_region ?_
                refine vo_assign_pv rfl rfl ?_
                refine vo_nil ?_
                refine hK16 _ ?_
                refine vc_ret ?_
                change retQ _ _ _ _ _
                refine retQ_sel [] (srows := []) (.inr rfl) hC rfl rfl rfl rfl rfl rfl rfl ?_
                refine ⟨?_, rfl⟩
                refine (congrArg (fun b => [bo b]) (?_ : _ = _) : [bo _] = [bo _])
                first
                  | (refine bF fun h0 => ?_
                     have h1 := h0.2.1; have h2 := h0.2.2.1
                     first
                       | omega
                       | exact absurd h0.1 (by assumption)
                       | exact absurd h0.1.1 (by assumption)
                       | exact absurd h0.1.2 (by assumption)
                       | exact absurd (h0.2.2.2 k (by omega)) (by assumption)
                       | exact absurd (h0.2.2.2 k (by omega)).1 (by assumption)
                       | exact absurd (h0.2.2.2 k (by omega)).2 (by assumption))
                  | exact bT ⟨by first | assumption | exact ⟨hg1, hg2⟩, by omega, by omega, fun i hi => hf i (by omega)⟩
              · try simp only [zq0, zq1, zq2, zq3, zq4, zq5, zq6, zq7, zq8, zq9, zqa, zqb, zqc, zqd, zqe, zqf] at hc7
                refine vc_skip ?_
                refine hK12 _ ?_
                refine vc_region ?_
                refine vo_move_pv rfl rfl ?_
                refine vo_binI rfl rfl rfl rfl sd ?_
                refine vo_assign_pv rfl rfl ?_
                refine vo_nil ?_
                change againE _ _ _ _ _ _ _ _ _ _
                refine againE_mk rfl rfl rfl rfl rfl rfl ⟨_, ?_, k + 1, rfl, ?_, ?_, rfl, rfl⟩
                · omega
                · omega
                · intro i hi; rcases Nat.lt_or_ge i k with h1 | h1; exact hf i h1; rw [show i = k by omega]; first | assumption | exact ⟨by assumption, by assumption⟩
          · try simp only [zq0, zq1, zq2, zq3, zq4, zq5, zq6, zq7, zq8, zq9, zqa, zqb, zqc, zqd, zqe, zqf] at hc5
            refine vc_exit ?_
            refine hK8 _ ?_
            refine vc_seq fun K17 hK17 => ?_
            refine vc_region ?_
            refine vo_assign_pv rfl rfl ?_
            refine vo_nil ?_
            refine hK17 _ ?_
            refine vc_ret ?_
            change retQ _ _ _ _ _
            refine retQ_sel [] (srows := []) (.inr rfl) hC rfl rfl rfl rfl rfl rfl rfl ?_
            refine ⟨?_, rfl⟩
            refine (congrArg (fun b => [bo b]) (?_ : _ = _) : [bo _] = [bo _])
            first
              | (refine bF fun h0 => ?_
                 have h1 := h0.2.1; have h2 := h0.2.2.1
                 first
                   | omega
                   | exact absurd h0.1 (by assumption)
                   | exact absurd h0.1.1 (by assumption)
                   | exact absurd h0.1.2 (by assumption)
                   | exact absurd (h0.2.2.2 k (by omega)) (by assumption)
                   | exact absurd (h0.2.2.2 k (by omega)).1 (by assumption)
                   | exact absurd (h0.2.2.2 k (by omega)).2 (by assumption))
              | exact bT ⟨by first | assumption | exact ⟨hg1, hg2⟩, by omega, by omega, fun i hi => hf i (by omega)⟩


theorem specValidWorks_sat {x : WorksM}  (hx : SK x) : SatAt Try.prog 17 [.pv false (worksP x)] [] (fun res rows => res = [bo (decide (VWorks x))] ∧ rows = []) := by
 refine sat_entry_G (rs := [(2, none)]) Try.func17 rfl rfl (Nat.le_of_ble_eq_true rfl) (Nat.le_of_ble_eq_true rfl) (resTs1 trivial) fun C hC => ?_
 rw [Try.ntmps17]
 replace hC : C.nb = 0 := hC
 refine vc_seq fun K1 hK1 => ?_
 refine vc_region ?_
 refine vo_box rfl rfl ?_
 refine vo_stM ?_
 refine vo_assign_pv rfl rfl ?_
 refine vo_nil ?_
 refine hK1 _ ?_
 refine vc_seq fun K2 hK2 => ?_
 refine vc_region ?_
 refine vo_load_varS rfl rfl rfl Try.underlying25 rfl inf25 sz25 rfl rfl ?_
 refine vo_call0 Try.func59 rfl rfl rfl rfl (specValidWork_sat hx) ?_
 rintro _ _ ⟨rfl, rfl⟩
 refine ⟨rfl, rfl, .inl rfl, ?_⟩
 refine vo_stM ?_
 refine vo_assign_pv rfl rfl ?_
 refine vo_nil ?_
 refine hK2 _ ?_
 refine vc_ret ?_
 change retQ _ _ _ _ _
 refine retQ_sel [] (srows := []) (.inr rfl) hC rfl rfl rfl rfl rfl rfl rfl ?_
 refine ⟨?_, rfl⟩
 refine (congrArg (fun b => [bo b]) (?_ : _ = _) : [bo _] = [bo _])
 rfl

end Go.Vl

namespace Go.Vl
set_option linter.unusedVariables false
set_option linter.unusedSimpArgs false
open Go.Proofs

end Go.Vl

namespace Go.Vl
set_option linter.unusedVariables false
set_option linter.unusedSimpArgs false
open Go.Proofs

/-- A reader that has given p numbers. -/
abbrev rdr (nl : Option Bool) (c : List (Fin 256)) (p : Nat) : Row := .var 118 [.pv false (.sl nl 1 (c.map byteP)), i64 p]
/-- Bases as the readers make them. -/
def SB (B : List (List Int)) : Prop := 1 ≤ B.length ∧ B.getD 0 [] = [] ∧ ∀ i, i < B.length → 0 < i → B.getD i [] ≠ [] ∧ (B.getD i []).length ≤ 3 ∧ (B.getD i []).Nodup ∧ ∀ x ∈ B.getD i [], 0 ≤ x ∧ x < i
theorem SB.lens {B : List (List Int)} (h : SB B) : ∀ l ∈ B, l.length ≤ 3 := by
  intro l hl
  obtain ⟨i, hi, rfl⟩ := List.getElem_of_mem hl
  have e : B[i] = B.getD i [] := by simp [List.getD, List.getElem?_eq_getElem hi]
  rw [e]
  rcases Nat.eq_zero_or_pos i with rfl | h0
  · rw [h.2.1]; simp
  · exact (h.2.2 i hi h0).2.1

end Go.Vl

namespace Go.Vl
set_option linter.unusedVariables false
set_option linter.unusedSimpArgs false
open Go.Proofs

end Go.Vl

namespace Go.Vl
set_option linter.unusedVariables false
set_option linter.unusedSimpArgs false
open Go.Proofs

end Go.Vl

namespace Go.Vl
set_option linter.unusedVariables false
set_option linter.unusedSimpArgs false
open Go.Proofs
end Go.Vl

namespace Go.Vl
set_option linter.unusedVariables false
set_option linter.unusedSimpArgs false
open Go.Proofs
end Go.Vl

namespace Go.Vl
set_option linter.unusedVariables false
set_option linter.unusedSimpArgs false
open Go.Proofs

def srtL (l : List Int) (n : Nat) : List Int := ((List.range n).filter (fun (i : Nat) => decide ((i : Int) ∈ l))).map (fun (i : Nat) => (i : Int))
end Go.Vl

namespace Go.Vl
set_option linter.unusedVariables false
set_option linter.unusedSimpArgs false
open Go.Proofs
/-- Is a name abstract, as the first class of an order that has it tells? -/
def isAbs (A R : List (List Int)) (n : Int) : List Int → Bool
  | [] => false
  | x :: r => if n ∈ A.getD x.toNat [] then true else if n ∈ R.getD x.toNat [] then false else isAbs A R n r
def absP (x : WorksM) (c : Nat) (n : Int) : Bool := isAbs x.abs x.real n (ordM x.bases c)
def selI (p : Int → Bool) (k : Nat) : List Int := ((List.range k).map fun i : Nat => (i : Int)).filter p
def absM (x : WorksM) (c : Int) : List Int := if VWorks x ∧ 0 ≤ c ∧ c ≤ (x.bases.length : Int) - 1 then selI (absP x c.toNat) 10 else []
/-- Classes of an order are classes. -/
def OrdIx (n : Nat) (o : List Int) : Prop := o.length < 1000000000 ∧ ∀ x ∈ o, 0 ≤ x ∧ x < n
theorem areWorks_sat {nl0 : Option Bool} {a : List Int} {nl1 : Option Bool} {r : List Int} (ha : a.length < 1000000000) (hr : r.length < 1000000000)  : SatAt Try.prog 58 [.pv false (.sl nl0 1 (a.map intP)), .pv false (.sl nl1 1 (r.map intP))] [] (fun res rows => res = [bo (decide (okWk a r))] ∧ rows = []) := by
  refine sat_entry_G (rs := [(4, none)]) Try.func58 rfl rfl (Nat.le_of_ble_eq_true rfl) (Nat.le_of_ble_eq_true rfl) (resTs1 trivial) fun C hC => ?_
  rw [Try.ntmps58]
  replace hC : C.nb = 0 := hC
  refine vc_seq fun K1 hK1 => ?_
  refine vc_region ?_
  refine vo_assign_pv rfl rfl ?_
  refine vo_nil ?_
  refine hK1 _ ?_
  refine vc_seq fun K2 hK2 => ?_
  refine vc_seq fun K3 hK3 => ?_
  refine vc_region ?_
  refine vo_move_pv rfl rfl ?_
  refine vo_len_pv rfl rfl Try.underlying28 ?_
  refine vo_binI rfl rfl rfl rfl trivial ?_
  refine vo_move_pv rfl rfl ?_
  refine vo_split 9 rfl (fun hg1 => ?_) (fun hg1 => ?_)
  · try simp only [zq0, zq1, zq2, zq3, zq4, zq5, zq6, zq7, zq8, zq9, zqa, zqb, zqc, zqd, zqe, zqf] at hg1
    refine vo_guard_off rfl rfl rfl rfl rfl ?_
    refine vo_guard_off rfl rfl rfl rfl rfl ?_
    refine vo_guard_off rfl rfl rfl rfl rfl ?_
    refine vo_pick_t rfl rfl ?_
    refine vo_nil ?_
    refine hK3 _ ?_
    refine vc_cond_t rfl ?_
    refine vc_seq fun K4 hK4 => ?_
    refine vc_region ?_
    refine vo_assign_pv rfl rfl ?_
    refine vo_nil ?_
    refine hK4 _ ?_
    refine vc_ret ?_
    change retQ _ _ _ _ _
    refine retQ_sel [] (srows := []) (.inr rfl) hC rfl rfl rfl rfl rfl rfl rfl ?_
    refine ⟨?_, rfl⟩
    refine (congrArg (fun b => [bo b]) (?_ : _ = _) : [bo _] = [bo _])
    have hk : okWk a r ↔ [a, r].flatten.Nodup ∧ ∀ n ∈ [a, r].flatten, 0 ≤ n ∧ n ≤ 9 := by rw [show [a, r].flatten = a ++ r by simp]; exact Iff.rfl
    first
      | exact bF fun h => by have := okWk_len h; omega
      | (refine bF fun h => ?_
         have h9 := nodup_le10 (hk.1 h).1 (hk.1 h).2
         first | exact absurd ⟨by omega, (hk.1 h).1⟩ ‹¬ OKL [a, r].flatten 10› | exact absurd (hk.1 h).2 (by assumption))
      | exact decide_eq_decide.2 ⟨fun h => hk.2 ⟨(‹OKL [a, r].flatten 10›).2, h⟩, fun h => (hk.1 h).2⟩
  · try simp only [zq0, zq1, zq2, zq3, zq4, zq5, zq6, zq7, zq8, zq9, zqa, zqb, zqc, zqd, zqe, zqf] at hg1
    refine vo_guard_on rfl rfl rfl ?_
    refine vo_move_pv rfl rfl ?_
    refine vo_guard_on rfl rfl rfl ?_
    refine vo_len_pv rfl rfl Try.underlying28 ?_
    refine vo_guard_on rfl rfl rfl ?_
    refine vo_binI rfl rfl rfl rfl trivial ?_
    refine vo_pick_f rfl rfl ?_
    refine vo_nil ?_
    refine hK3 _ ?_
    refine vc_cond rfl (fun hc2 => ?_) (fun hc2 => ?_)
    · try simp only [zq0, zq1, zq2, zq3, zq4, zq5, zq6, zq7, zq8, zq9, zqa, zqb, zqc, zqd, zqe, zqf] at hc2
      refine vc_seq fun K5 hK5 => ?_
      refine vc_region ?_
      refine vo_assign_pv rfl rfl ?_
      refine vo_nil ?_
      refine hK5 _ ?_
      refine vc_ret ?_
      change retQ _ _ _ _ _
      refine retQ_sel [] (srows := []) (.inr rfl) hC rfl rfl rfl rfl rfl rfl rfl ?_
      refine ⟨?_, rfl⟩
      refine (congrArg (fun b => [bo b]) (?_ : _ = _) : [bo _] = [bo _])
      have hk : okWk a r ↔ [a, r].flatten.Nodup ∧ ∀ n ∈ [a, r].flatten, 0 ≤ n ∧ n ≤ 9 := by rw [show [a, r].flatten = a ++ r by simp]; exact Iff.rfl
      first
        | exact bF fun h => by have := okWk_len h; omega
        | (refine bF fun h => ?_
           have h9 := nodup_le10 (hk.1 h).1 (hk.1 h).2
           first | exact absurd ⟨by omega, (hk.1 h).1⟩ ‹¬ OKL [a, r].flatten 10› | exact absurd (hk.1 h).2 (by assumption))
        | exact decide_eq_decide.2 ⟨fun h => hk.2 ⟨(‹OKL [a, r].flatten 10›).2, h⟩, fun h => (hk.1 h).2⟩
    · try simp only [zq0, zq1, zq2, zq3, zq4, zq5, zq6, zq7, zq8, zq9, zqa, zqb, zqc, zqd, zqe, zqf] at hc2
      refine vc_skip ?_
      refine hK2 _ ?_
      refine vc_seq fun K6 hK6 => ?_
      refine vc_region ?_
      refine vo_move_pv rfl rfl ?_
      refine vo_move_pv rfl rfl ?_
      refine vo_weaken 14 rfl ?_
      refine vo_stM ?_
      refine vo_weaken 15 rfl ?_
      refine vo_stM ?_
      refine vo_buildSlice E23 rfl rfl rfl rfl rfl ?_
      refine vo_stM ?_
      refine vo_call [] Try.func99 rfl rfl rfl rfl rfl rfl rfl (Concat_sat (L := [a, r]) (by simp) (by intro l hl; simp at hl; rcases hl with rfl | rfl <;> omega)) ?_
      rintro _ _ ⟨nl9, rfl, rfl⟩
      refine ⟨Nat.le_of_ble_eq_true rfl, ⟨rfl, rfl, rfl, rfl⟩, .inr ⟨rfl, rfl⟩, ?_⟩
      refine vo_stM ?_
      refine vo_expose 1 (by omega) rfl ?_
      refine vo_stM ?_
      refine vo_weaken 17 rfl ?_
      refine vo_stM ?_
      refine vo_assign_pv rfl rfl ?_
      refine vo_nil ?_
      refine hK6 _ ?_
      refine vc_seq fun K7 hK7 => ?_
      refine vc_region ?_
      refine vo_move_pv rfl rfl ?_
      refine vo_call0 Try.func100 rfl rfl rfl rfl (isList_sat (list := [a, r].flatten) (by simp; omega)) ?_
      rintro _ _ ⟨rfl, rfl⟩
      refine ⟨rfl, rfl, .inl rfl, ?_⟩
      refine vo_stM ?_
      refine vo_move_pv rfl rfl ?_
      refine vo_split 20 rfl (fun hg3 => ?_) (fun hg3 => ?_)
      · try simp only [zq0, zq1, zq2, zq3, zq4, zq5, zq6, zq7, zq8, zq9, zqa, zqb, zqc, zqd, zqe, zqf] at hg3
        refine vo_guard_on rfl rfl rfl ?_
        refine vo_move_pv rfl rfl ?_
        refine vo_guard_on rfl rfl rfl ?_
        refine vo_call0 Try.func78 rfl rfl rfl rfl (areUpTo_sat (list := [a, r].flatten) (by simp; omega)) ?_
        rintro _ _ ⟨rfl, rfl⟩
        refine ⟨rfl, rfl, .inl rfl, ?_⟩
        refine vo_stM ?_
        refine vo_pick_t rfl rfl ?_
        refine vo_assign_pv rfl rfl ?_
        refine vo_nil ?_
        refine hK7 _ ?_
        refine vc_ret ?_
        change retQ _ _ _ _ _
        refine retQ_sel [] (srows := []) (.inr rfl) hC rfl rfl rfl rfl rfl rfl rfl ?_
        refine ⟨?_, rfl⟩
        refine (congrArg (fun b => [bo b]) (?_ : _ = _) : [bo _] = [bo _])
        have hk : okWk a r ↔ [a, r].flatten.Nodup ∧ ∀ n ∈ [a, r].flatten, 0 ≤ n ∧ n ≤ 9 := by rw [show [a, r].flatten = a ++ r by simp]; exact Iff.rfl
        first
          | exact bF fun h => by have := okWk_len h; omega
          | (refine bF fun h => ?_
             have h9 := nodup_le10 (hk.1 h).1 (hk.1 h).2
             first | exact absurd ⟨by omega, (hk.1 h).1⟩ ‹¬ OKL [a, r].flatten 10› | exact absurd (hk.1 h).2 (by assumption))
          | exact decide_eq_decide.2 ⟨fun h => hk.2 ⟨(‹OKL [a, r].flatten 10›).2, h⟩, fun h => (hk.1 h).2⟩
      · try simp only [zq0, zq1, zq2, zq3, zq4, zq5, zq6, zq7, zq8, zq9, zqa, zqb, zqc, zqd, zqe, zqf] at hg3
        refine vo_guard_off rfl rfl rfl rfl rfl ?_
        refine vo_guard_off rfl rfl rfl rfl rfl ?_
        refine vo_pick_f rfl rfl ?_
        refine vo_assign_pv rfl rfl ?_
        refine vo_nil ?_
        refine hK7 _ ?_
        refine vc_ret ?_
        change retQ _ _ _ _ _
        refine retQ_sel [] (srows := []) (.inr rfl) hC rfl rfl rfl rfl rfl rfl rfl ?_
        refine ⟨?_, rfl⟩
        refine (congrArg (fun b => [bo b]) (?_ : _ = _) : [bo _] = [bo _])
        have hk : okWk a r ↔ [a, r].flatten.Nodup ∧ ∀ n ∈ [a, r].flatten, 0 ≤ n ∧ n ≤ 9 := by rw [show [a, r].flatten = a ++ r by simp]; exact Iff.rfl
        first
          | exact bF fun h => by have := okWk_len h; omega
          | (refine bF fun h => ?_
             have h9 := nodup_le10 (hk.1 h).1 (hk.1 h).2
             first | exact absurd ⟨by omega, (hk.1 h).1⟩ ‹¬ OKL [a, r].flatten 10› | exact absurd (hk.1 h).2 (by assumption))
          | exact decide_eq_decide.2 ⟨fun h => hk.2 ⟨(‹OKL [a, r].flatten 10›).2, h⟩, fun h => (hk.1 h).2⟩

theorem implValidWorks_sat {x : WorksM}  (hx : SK x) : SatAt Try.prog 16 [.pv false (worksP x)] [] (fun res rows => res = [bo (decide (VWorks x))] ∧ rows = []) := by
  obtain ⟨⟨b1, b2⟩, ⟨a1, a2⟩, r1, r2⟩ := hx
  refine sat_entry_G (rs := [(2, none)]) Try.func16 rfl rfl (Nat.le_of_ble_eq_true rfl) (Nat.le_of_ble_eq_true rfl) (resTs1 trivial) fun C hC => ?_
  rw [Try.ntmps16]
  replace hC : C.nb = 0 := hC
  refine vc_seq fun K1 hK1 => ?_
  refine vc_region ?_
  refine vo_box rfl rfl ?_
  refine vo_stM ?_
  refine vo_assign_pv rfl rfl ?_
  refine vo_nil ?_
  refine hK1 _ ?_
  refine vc_seq fun K2 hK2 => ?_
  refine vc_seq fun K3 hK3 => ?_
  refine vc_region ?_
  refine vo_fieldAddr_ptr rfl rfl Try.underlying25 rfl inf23 (by rw [sz23]; decide) ?_
  try simp only [Nat.zero_add]
  refine vo_load_var rfl rfl rfl Try.underlying23 rfl rfl ?_
  refine vo_call0 Try.func57 rfl rfl rfl rfl (implAllOrders_sat (by omega) (fun l hl => by have := b2 l hl; omega)) ?_
  rintro _ _ ⟨rfl, rfl⟩
  refine ⟨rfl, rfl, .inl rfl, ?_⟩
  refine vo_stM ?_
  refine vo_not rfl rfl ?_
  refine vo_move_pv rfl rfl ?_
  refine vo_split 9 rfl (fun hg1 => ?_) (fun hg1 => ?_)
  · try simp only [zq0, zq1, zq2, zq3, zq4, zq5, zq6, zq7, zq8, zq9, zqa, zqb, zqc, zqd, zqe, zqf] at hg1
    refine vo_guard_off rfl rfl rfl rfl rfl ?_
    refine vo_guard_off rfl rfl rfl rfl rfl ?_
    refine vo_guard_off rfl rfl rfl rfl rfl ?_
    refine vo_guard_off rfl rfl rfl rfl rfl ?_
    refine vo_guard_off rfl rfl rfl rfl rfl ?_
    refine vo_guard_off rfl rfl rfl rfl rfl ?_
    refine vo_guard_off rfl rfl rfl rfl rfl ?_
    refine vo_pick_t rfl rfl ?_
    refine vo_move_pv rfl rfl ?_
    refine vo_guard_off rfl rfl rfl rfl rfl ?_
    refine vo_guard_off rfl rfl rfl rfl rfl ?_
    refine vo_guard_off rfl rfl rfl rfl rfl ?_
    refine vo_guard_off rfl rfl rfl rfl rfl ?_
    refine vo_guard_off rfl rfl rfl rfl rfl ?_
    refine vo_guard_off rfl rfl rfl rfl rfl ?_
    refine vo_guard_off rfl rfl rfl rfl rfl ?_
    refine vo_pick_t rfl rfl ?_
    refine vo_nil ?_
    refine hK3 _ ?_
    refine vc_cond_t rfl ?_
    refine vc_seq fun K4 hK4 => ?_
    refine vc_region ?_
    refine vo_assign_pv rfl rfl ?_
    refine vo_nil ?_
    refine hK4 _ ?_
    refine vc_ret ?_
    change retQ _ _ _ _ _
    refine retQ_sel [] (srows := []) (.inr rfl) hC rfl rfl rfl rfl rfl rfl rfl ?_
    refine ⟨?_, rfl⟩
    refine (congrArg (fun b => [bo b]) (?_ : _ = _) : [bo _] = [bo _])
    first
      | (refine bF fun h0 => ?_
         have h1 := h0.2.1; have h2 := h0.2.2.1
         first
           | omega
           | exact absurd h0.1 (by assumption)
           | exact absurd h0.1.1 (by assumption)
           | exact absurd h0.1.2 (by assumption)
           | exact absurd (h0.2.2.2 k (by omega)) (by assumption)
           | exact absurd (h0.2.2.2 k (by omega)).1 (by assumption)
           | exact absurd (h0.2.2.2 k (by omega)).2 (by assumption))
      | exact bT ⟨by first | assumption | exact ⟨hg1, hg2⟩, by omega, by omega, fun i hi => hf i (by omega)⟩
  · try simp only [zq0, zq1, zq2, zq3, zq4, zq5, zq6, zq7, zq8, zq9, zqa, zqb, zqc, zqd, zqe, zqf] at hg1
    refine vo_guard_on rfl rfl rfl ?_
    refine vo_fieldAddr_ptr rfl rfl Try.underlying25 rfl inf23 (by rw [sz23]; decide) ?_
    try simp only [Nat.zero_add]
    refine vo_guard_on rfl rfl rfl ?_
    refine vo_load_var rfl rfl rfl Try.underlying23 rfl rfl ?_
    refine vo_guard_on rfl rfl rfl ?_
    refine vo_len_pv rfl rfl Try.underlying23 ?_
    refine vo_guard_on rfl rfl rfl ?_
    refine vo_fieldAddr_ptr rfl rfl Try.underlying25 rfl inf23 (by rw [sz23]; decide) ?_
    try simp only [Nat.zero_add]
    refine vo_guard_on rfl rfl rfl ?_
    refine vo_load_var rfl rfl rfl Try.underlying23 rfl rfl ?_
    refine vo_guard_on rfl rfl rfl ?_
    refine vo_len_pv rfl rfl Try.underlying23 ?_
    refine vo_guard_on rfl rfl rfl ?_
    refine vo_binI rfl rfl rfl rfl trivial ?_
    refine vo_pick_f rfl rfl ?_
    refine vo_move_pv rfl rfl ?_
    refine vo_split 18 rfl (fun hg2 => ?_) (fun hg2 => ?_)
    · try simp only [zq0, zq1, zq2, zq3, zq4, zq5, zq6, zq7, zq8, zq9, zqa, zqb, zqc, zqd, zqe, zqf] at hg2
      refine vo_guard_off rfl rfl rfl rfl rfl ?_
      refine vo_guard_off rfl rfl rfl rfl rfl ?_
      refine vo_guard_off rfl rfl rfl rfl rfl ?_
      refine vo_guard_off rfl rfl rfl rfl rfl ?_
      refine vo_guard_off rfl rfl rfl rfl rfl ?_
      refine vo_guard_off rfl rfl rfl rfl rfl ?_
      refine vo_guard_off rfl rfl rfl rfl rfl ?_
      refine vo_pick_t rfl rfl ?_
      refine vo_nil ?_
      refine hK3 _ ?_
      refine vc_cond_t rfl ?_
      refine vc_seq fun K5 hK5 => ?_
      refine vc_region ?_
      refine vo_assign_pv rfl rfl ?_
      refine vo_nil ?_
      refine hK5 _ ?_
      refine vc_ret ?_
      change retQ _ _ _ _ _
      refine retQ_sel [] (srows := []) (.inr rfl) hC rfl rfl rfl rfl rfl rfl rfl ?_
      refine ⟨?_, rfl⟩
      refine (congrArg (fun b => [bo b]) (?_ : _ = _) : [bo _] = [bo _])
      first
        | (refine bF fun h0 => ?_
           have h1 := h0.2.1; have h2 := h0.2.2.1
           first
             | omega
             | exact absurd h0.1 (by assumption)
             | exact absurd h0.1.1 (by assumption)
             | exact absurd h0.1.2 (by assumption)
             | exact absurd (h0.2.2.2 k (by omega)) (by assumption)
             | exact absurd (h0.2.2.2 k (by omega)).1 (by assumption)
             | exact absurd (h0.2.2.2 k (by omega)).2 (by assumption))
        | exact bT ⟨by first | assumption | exact ⟨hg1, hg2⟩, by omega, by omega, fun i hi => hf i (by omega)⟩
    · try simp only [zq0, zq1, zq2, zq3, zq4, zq5, zq6, zq7, zq8, zq9, zqa, zqb, zqc, zqd, zqe, zqf] at hg2
      refine vo_guard_on rfl rfl rfl ?_
      refine vo_fieldAddr_ptr rfl rfl Try.underlying25 rfl inf23 (by rw [sz23]; decide) ?_
      try simp only [Nat.zero_add]
      refine vo_guard_on rfl rfl rfl ?_
      refine vo_load_var rfl rfl rfl Try.underlying23 rfl rfl ?_
      refine vo_guard_on rfl rfl rfl ?_
      refine vo_len_pv rfl rfl Try.underlying23 ?_
      refine vo_guard_on rfl rfl rfl ?_
      refine vo_fieldAddr_ptr rfl rfl Try.underlying25 rfl inf23 (by rw [sz23]; decide) ?_
      try simp only [Nat.zero_add]
      refine vo_guard_on rfl rfl rfl ?_
      refine vo_load_var rfl rfl rfl Try.underlying23 rfl rfl ?_
      refine vo_guard_on rfl rfl rfl ?_
      refine vo_len_pv rfl rfl Try.underlying23 ?_
      refine vo_guard_on rfl rfl rfl ?_
      refine vo_binI rfl rfl rfl rfl trivial ?_
      refine vo_pick_f rfl rfl ?_
      refine vo_nil ?_
      refine hK3 _ ?_
      refine vc_cond rfl (fun hc3 => ?_) (fun hc3 => ?_)
      · try simp only [zq0, zq1, zq2, zq3, zq4, zq5, zq6, zq7, zq8, zq9, zqa, zqb, zqc, zqd, zqe, zqf] at hc3
        refine vc_seq fun K6 hK6 => ?_
        refine vc_region ?_
        refine vo_assign_pv rfl rfl ?_
        refine vo_nil ?_
        refine hK6 _ ?_
        refine vc_ret ?_
        change retQ _ _ _ _ _
        refine retQ_sel [] (srows := []) (.inr rfl) hC rfl rfl rfl rfl rfl rfl rfl ?_
        refine ⟨?_, rfl⟩
        refine (congrArg (fun b => [bo b]) (?_ : _ = _) : [bo _] = [bo _])
        first
          | (refine bF fun h0 => ?_
             have h1 := h0.2.1; have h2 := h0.2.2.1
             first
               | omega
               | exact absurd h0.1 (by assumption)
               | exact absurd h0.1.1 (by assumption)
               | exact absurd h0.1.2 (by assumption)
               | exact absurd (h0.2.2.2 k (by omega)) (by assumption)
               | exact absurd (h0.2.2.2 k (by omega)).1 (by assumption)
               | exact absurd (h0.2.2.2 k (by omega)).2 (by assumption))
          | exact bT ⟨by first | assumption | exact ⟨hg1, hg2⟩, by omega, by omega, fun i hi => hf i (by omega)⟩
      · try simp only [zq0, zq1, zq2, zq3, zq4, zq5, zq6, zq7, zq8, zq9, zqa, zqb, zqc, zqd, zqe, zqf] at hc3
        refine vc_skip ?_
        refine hK2 _ ?_
        refine vc_seq fun K7 hK7 => ?_
        refine vc_seq fun K8 hK8 => ?_
        refine vc_region ?_
        refine vo_fieldAddr_ptr rfl rfl Try.underlying25 rfl inf23 (by rw [sz23]; decide) ?_
        try simp only [Nat.zero_add]
        refine vo_load_var rfl rfl rfl Try.underlying23 rfl rfl ?_
        refine vo_len_pv rfl rfl Try.underlying23 ?_
        refine vo_move_pv rfl rfl ?_
        refine vo_nil ?_
        refine hK8 _ ?_
        refine vc_block ?_
        refine vc_stM ?_
        refine vc_loopE [1, 28, 29] [30] [] _ _ (fun mz vs rs => ∃ (k : Nat), mz = x.abs.length - k ∧ (k ≤ x.abs.length) ∧ (∀ i, i < k → okWk (x.abs.getD i []) (x.real.getD i [])) ∧ vs = [i64 k] ∧ rs = []) (x.abs.length) rfl rfl (le_len hC rfl) ⟨rfl, rfl, rfl⟩ rfl ⟨0, rfl, Nat.zero_le _, (fun i h => by omega), rfl, rfl⟩ ?_
        rintro mz vs rs - - ⟨k, rfl, hk, hf, rfl, rfl⟩
        refine vc_stM ?_
        have hal := getD_all (p := fun l : List Int => l.length ≤ 2000000) a2 [] (by simp) k
        have hrl := getD_all (p := fun l : List Int => l.length ≤ 2000000) r2 [] (by simp) k
        refine vc_seq fun K9 hK9 => ?_
        refine vc_region ?_
        refine vo_binI rfl rfl rfl rfl trivial ?_
        refine vo_nil ?_
        refine hK9 _ ?_
        refine vc_seq fun K10 hK10 => ?_
        refine vc_cond rfl (fun hc4 => ?_) (fun hc4 => ?_)
        · try simp only [zq0, zq1, zq2, zq3, zq4, zq5, zq6, zq7, zq8, zq9, zqa, zqb, zqc, zqd, zqe, zqf] at hc4
          refine vc_skip ?_
          refine hK10 _ ?_
          refine vc_seq fun K11 hK11 => ?_
          refine vc_block ?_
          refine vc_seq fun K12 hK12 => ?_
          refine vc_region ?_
          refine vo_move_pv rfl rfl ?_
          refine vo_index_pv (.sl none 1 []) rfl rfl rfl E23.und inf28 sz28 sd sd ?_
          simp only [Int.toNat_natCast, Int.toNat_zero, getD_ints, getD_intss, getD_bools, getD_bytes, PV.cells, getD_ops, getD_pairs, getD_insts, getD_attrs, getD_attrss, getD_objs, getD_ordP]
          refine vo_load_adr rfl rfl Try.underlying28 rfl ?_
          refine vo_assign_pv rfl rfl ?_
          refine vo_assign_pv rfl rfl ?_
          refine vo_nil ?_
          refine hK12 _ ?_
          refine vc_seq fun K13 hK13 => ?_
          refine vc_region ?_
          refine vo_move_pv rfl rfl ?_
          refine vo_fieldAddr_ptr rfl rfl Try.underlying25 rfl inf23 (by rw [sz23]; decide) ?_
          try simp only [Nat.zero_add]
          refine vo_load_var rfl rfl rfl Try.underlying23 rfl rfl ?_
          refine vo_move_pv rfl rfl ?_
          refine vo_index_pv (.sl none 1 []) rfl rfl rfl E23.und inf28 sz28 sd sd ?_
          simp only [Int.toNat_natCast, Int.toNat_zero, getD_ints, getD_intss, getD_bools, getD_bytes, PV.cells, getD_ops, getD_pairs, getD_insts, getD_attrs, getD_attrss, getD_objs, getD_ordP]
          refine vo_load_adr rfl rfl Try.underlying28 rfl ?_
          refine vo_call0 Try.func58 rfl rfl rfl rfl (areWorks_sat (by omega) (by omega)) ?_
          rintro _ _ ⟨rfl, rfl⟩
          refine ⟨rfl, rfl, .inl rfl, ?_⟩
          refine vo_stM ?_
          refine vo_not rfl rfl ?_
          refine vo_nil ?_
          refine hK13 _ ?_
          refine vc_cond rfl (fun hc5 => ?_) (fun hc5 => ?_)
          · try simp only [zq0, zq1, zq2, zq3, zq4, zq5, zq6, zq7, zq8, zq9, zqa, zqb, zqc, zqd, zqe, zqf] at hc5
            refine vc_seq fun K14 hK14 => ?_
            refine vc_region ?_
            refine vo_assign_pv rfl rfl ?_
            refine vo_nil ?_
            refine hK14 _ ?_
            refine vc_ret ?_
            change retQ _ _ _ _ _
            refine retQ_sel [] (srows := []) (.inr rfl) hC rfl rfl rfl rfl rfl rfl rfl ?_
            refine ⟨?_, rfl⟩
            refine (congrArg (fun b => [bo b]) (?_ : _ = _) : [bo _] = [bo _])
            first
              | (refine bF fun h0 => ?_
                 have h1 := h0.2.1; have h2 := h0.2.2.1
                 first
                   | omega
                   | exact absurd h0.1 (by assumption)
                   | exact absurd h0.1.1 (by assumption)
                   | exact absurd h0.1.2 (by assumption)
                   | exact absurd (h0.2.2.2 k (by omega)) (by assumption)
                   | exact absurd (h0.2.2.2 k (by omega)).1 (by assumption)
                   | exact absurd (h0.2.2.2 k (by omega)).2 (by assumption))
              | exact bT ⟨by first | assumption | exact ⟨hg1, hg2⟩, by omega, by omega, fun i hi => hf i (by omega)⟩
          · try simp only [zq0, zq1, zq2, zq3, zq4, zq5, zq6, zq7, zq8, zq9, zqa, zqb, zqc, zqd, zqe, zqf] at hc5
            refine vc_skip ?_
            refine hK11 _ ?_
            refine vc_region ?_
            refine vo_binI rfl rfl rfl rfl sd ?_
            refine vo_move_pv rfl rfl ?_
            refine vo_nil ?_
            change againE _ _ _ _ _ _ _ _ _ _
            refine againE_mk rfl rfl rfl rfl rfl rfl ⟨_, ?_, k + 1, rfl, ?_, ?_, rfl, rfl⟩
            · omega
            · omega
            · intro i hi; rcases Nat.lt_or_ge i k with h1 | h1; exact hf i h1; rw [show i = k by omega]; assumption
        · try simp only [zq0, zq1, zq2, zq3, zq4, zq5, zq6, zq7, zq8, zq9, zqa, zqb, zqc, zqd, zqe, zqf] at hc4
          refine vc_exit ?_
          refine hK7 _ ?_
          refine vc_seq fun K15 hK15 => ?_
          refine vc_region ?_
          refine vo_assign_pv rfl rfl ?_
          refine vo_nil ?_
          refine hK15 _ ?_
          refine vc_ret ?_
          change retQ _ _ _ _ _
          refine retQ_sel [] (srows := []) (.inr rfl) hC rfl rfl rfl rfl rfl rfl rfl ?_
          refine ⟨?_, rfl⟩
          refine (congrArg (fun b => [bo b]) (?_ : _ = _) : [bo _] = [bo _])
          first
            | (refine bF fun h0 => ?_
               have h1 := h0.2.1; have h2 := h0.2.2.1
               first
                 | omega
                 | exact absurd h0.1 (by assumption)
                 | exact absurd h0.1.1 (by assumption)
                 | exact absurd h0.1.2 (by assumption)
                 | exact absurd (h0.2.2.2 k (by omega)) (by assumption)
                 | exact absurd (h0.2.2.2 k (by omega)).1 (by assumption)
                 | exact absurd (h0.2.2.2 k (by omega)).2 (by assumption))
            | exact bT ⟨by first | assumption | exact ⟨hg1, hg2⟩, by omega, by omega, fun i hi => hf i (by omega)⟩


end Go.Vl

namespace Go.Vl
set_option linter.unusedVariables false
set_option linter.unusedSimpArgs false
open Go.Proofs

theorem FnExactValidWorks_sat {a : WorksM}  (ha : GK63 a) : SatAt Try.prog 4 [.pv false (worksP a)] [] (fun res rows => res = [bo true] ∧ rows = []) := by
 refine sat_entry_G (rs := [(2, none)]) Try.func4 rfl rfl (Nat.le_of_ble_eq_true rfl) (Nat.le_of_ble_eq_true rfl) (resTs1 trivial) fun C hC => ?_
 rw [Try.ntmps4]
 replace hC : C.nb = 0 := hC
 refine vc_seq fun K1 hK1 => ?_
 refine vc_region ?_
 refine vo_box rfl rfl ?_
 refine vo_stM ?_
 refine vo_assign_pv rfl rfl ?_
 refine vo_nil ?_
 refine hK1 _ ?_
 refine vc_seq fun K2 hK2 => ?_
 refine vc_region ?_
 refine vo_assign_pv rfl rfl ?_
 refine vo_nil ?_
 refine hK2 _ ?_
 refine vc_seq fun K3 hK3 => ?_
 refine vc_region ?_
 refine vo_load_varS rfl rfl rfl Try.underlying32 rfl inf32 sz32 rfl rfl ?_
 refine vo_move_pv rfl rfl ?_
 refine vo_call0 Try.func20 rfl rfl rfl rfl (szWorks_sat ha (by omega) (by omega)) ?_
 rintro _ _ ⟨v, hv, rfl, rfl⟩
 refine ⟨rfl, rfl, .inl rfl, ?_⟩
 refine vo_stM ?_
 refine vo_assign_pv rfl rfl ?_
 refine vo_nil ?_
 refine hK3 _ ?_
 refine vc_seq fun K4 hK4 => ?_
 refine vc_seq fun K5 hK5 => ?_
 refine vc_region ?_
 refine vo_move_pv rfl rfl ?_
 refine vo_binI rfl rfl rfl rfl trivial ?_
 refine vo_nil ?_
 refine hK5 _ ?_
 refine vc_cond rfl (fun hc1 => ?_) (fun hc1 => ?_)
 ·try simp only [zq0, zq1, zq2, zq3, zq4, zq5, zq6, zq7, zq8, zq9, zqa, zqb, zqc, zqd, zqe, zqf] at hc1
  refine vc_seq fun K6 hK6 => ?_
  refine vc_region ?_
  refine vo_assign_pv rfl rfl ?_
  refine vo_nil ?_
  refine hK6 _ ?_
  refine vc_ret ?_
  change retQ _ _ _ _ _
  refine retQ_sel [] (srows := []) (.inr rfl) hC rfl rfl rfl rfl rfl rfl rfl ?_
  exact ⟨rfl, rfl⟩
 ·try simp only [zq0, zq1, zq2, zq3, zq4, zq5, zq6, zq7, zq8, zq9, zqa, zqb, zqc, zqd, zqe, zqf] at hc1
  rcases hv with hv | hv
  ·omega
  have hs := hv.2.2
  refine vc_skip ?_
  refine hK4 _ ?_
  refine vc_seq fun K7 hK7 => ?_
  refine vc_region ?_
  refine vo_load_varS rfl rfl rfl Try.underlying32 rfl inf32 sz32 rfl rfl ?_
  refine vo_call0 Try.func21 rfl rfl rfl rfl (toWorks_sat hs) ?_
  rintro _ _ ⟨rfl, rfl⟩
  refine ⟨rfl, rfl, .inl rfl, ?_⟩
  refine vo_stM ?_
  refine vo_call0 Try.func17 rfl rfl rfl rfl (specValidWorks_sat hs) ?_
  rintro _ _ ⟨rfl, rfl⟩
  refine ⟨rfl, rfl, .inl rfl, ?_⟩
  refine vo_stM ?_
  refine vo_assign_pv rfl rfl ?_
  refine vo_nil ?_
  refine hK7 _ ?_
  refine vc_seq fun K8 hK8 => ?_
  refine vc_region ?_
  refine vo_load_varS rfl rfl rfl Try.underlying32 rfl inf32 sz32 rfl rfl ?_
  refine vo_call0 Try.func21 rfl rfl rfl rfl (toWorks_sat hs) ?_
  rintro _ _ ⟨rfl, rfl⟩
  refine ⟨rfl, rfl, .inl rfl, ?_⟩
  refine vo_stM ?_
  refine vo_alloc Z25 rfl ?_
  refine vo_stM ?_
  refine vo_store_varS rfl rfl rfl inf25 sz25 rfl ?_
  refine vo_stM ?_
  refine vo_nil ?_
  refine hK8 _ ?_
  refine vc_seq fun K9 hK9 => ?_
  refine vc_region ?_
  refine vo_load_varS rfl rfl rfl Try.underlying25 rfl inf25 sz25 rfl rfl ?_
  refine vo_call0 Try.func16 rfl rfl rfl rfl (implValidWorks_sat hs) ?_
  rintro _ _ ⟨rfl, rfl⟩
  refine ⟨rfl, rfl, .inl rfl, ?_⟩
  refine vo_stM ?_
  refine vo_assign_pv rfl rfl ?_
  refine vo_nil ?_
  refine hK9 _ ?_
  refine vc_seq fun K10 hK10 => ?_
  refine vc_seq fun K11 hK11 => ?_
  refine vc_region ?_
  refine vo_move_pv rfl rfl ?_
  refine vo_move_pv rfl rfl ?_
  refine vo_binB rfl rfl rfl rfl Try.underlying4 ?_
  refine vo_nil ?_
  refine hK11 _ ?_
  refine vc_cond rfl (fun hc2 => ?_) (fun hc2 => ?_)
  ·try simp only [zq0, zq1, zq2, zq3, zq4, zq5, zq6, zq7, zq8, zq9, zqa, zqb, zqc, zqd, zqe, zqf] at hc2
   refine vc_seq fun K12 hK12 => ?_
   refine vc_region ?_
   refine vo_assign_pv rfl rfl ?_
   refine vo_nil ?_
   refine hK12 _ ?_
   refine vc_ret ?_
   change retQ _ _ _ _ _
   refine retQ_sel [] (srows := []) (.inr rfl) hC rfl rfl rfl rfl rfl rfl rfl ?_
   first | exact ⟨rfl, rfl⟩ | (exfalso; simp_all; done) | (exfalso; omega)
  ·try simp only [zq0, zq1, zq2, zq3, zq4, zq5, zq6, zq7, zq8, zq9, zqa, zqb, zqc, zqd, zqe, zqf] at hc2
   refine vc_skip ?_
   refine hK10 _ ?_
   refine vc_seq fun K13 hK13 => ?_
   refine vc_seq fun K14 hK14 => ?_
   refine vc_draw (by kernel_rfl) ?_
   change VD _ _ _ 5 _ _ _
   refine vd_light 0 rfl rfl rfl (by kernel_rfl) (by kernel_rfl) (by kernel_rfl) (wnt_none rfl) (lt_load_varS rfl rfl Try.underlying25 rfl inf25 sz25 rfl rfl) ?_
   refine vd_light 1 rfl rfl rfl (by kernel_rfl) (by kernel_rfl) (by kernel_rfl) (wnt_none rfl) (lt_load_varS rfl rfl Try.underlying32 rfl inf32 sz32 rfl rfl) ?_
   refine vd_call 2 rfl (by kernel_rfl) (wnt_none rfl) Try.func21 rfl rfl rfl rfl (toWorks_sat hs) ?_
   rintro _ _ ⟨rfl, rfl⟩
   refine ⟨rfl, rfl, .inl rfl, ?_⟩
   refine vd_stM ?_
   refine vd_call 3 rfl (by kernel_rfl) (wnt_none rfl) Try.func22 rfl rfl rfl rfl (eqWorks_sat hs hs) ?_
   rintro _ _ ⟨rfl, rfl⟩
   refine ⟨rfl, rfl, .inl rfl, ?_⟩
   refine vd_stM ?_
   refine vd_light 4 rfl rfl rfl (by kernel_rfl) (by kernel_rfl) (by kernel_rfl) (wnt_none rfl) (lt_not rfl) ?_
   refine vd_nil (by kernel_rfl) ?_
   refine hK14 _ ?_
   refine vc_cond rfl (fun hc3 => ?_) (fun hc3 => ?_)
   ·try simp only [zq0, zq1, zq2, zq3, zq4, zq5, zq6, zq7, zq8, zq9, zqa, zqb, zqc, zqd, zqe, zqf] at hc3
    refine vc_seq fun K15 hK15 => ?_
    refine vc_region ?_
    refine vo_assign_pv rfl rfl ?_
    refine vo_nil ?_
    refine hK15 _ ?_
    refine vc_ret ?_
    change retQ _ _ _ _ _
    refine retQ_sel [] (srows := []) (.inr rfl) hC rfl rfl rfl rfl rfl rfl rfl ?_
    first | exact ⟨rfl, rfl⟩ | (exfalso; simp_all; done) | (exfalso; omega)
   ·try simp only [zq0, zq1, zq2, zq3, zq4, zq5, zq6, zq7, zq8, zq9, zqa, zqb, zqc, zqd, zqe, zqf] at hc3
    refine vc_skip ?_
    refine hK13 _ ?_
    refine vc_seq fun K16 hK16 => ?_
    refine vc_region ?_
    refine vo_assign_pv rfl rfl ?_
    refine vo_nil ?_
    refine hK16 _ ?_
    refine vc_ret ?_
    change retQ _ _ _ _ _
    refine retQ_sel [] (srows := []) (.inr rfl) hC rfl rfl rfl rfl rfl rfl rfl ?_
    first | exact ⟨rfl, rfl⟩ | (exfalso; simp_all; done) | (exfalso; omega)


end Go.Vl

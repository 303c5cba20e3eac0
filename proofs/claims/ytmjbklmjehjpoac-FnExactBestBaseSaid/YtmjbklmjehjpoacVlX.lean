/- Bits of numbers that are not negative; bytes; readers. -/
import Derived.Test.YtmjbklmjehjpoacVlDraw
import Derived.Laws.Entries
namespace Go.Vl
set_option linter.unusedVariables false
set_option linter.unusedSimpArgs false
open Go.RowKit
def lenGe : Nat → List Row → Bool
  | 0, _ => true
  | _ + 1, [] => false
  | n + 1, _ :: l => lenGe n l
theorem lenGe_le : ∀ (n : Nat) (l : List Row), lenGe n l = true → n ≤ l.length
  | 0, _, _ => Nat.zero_le _
  | _ + 1, [], h => by cases h
  | n + 1, _ :: l, h => Nat.succ_le_succ (lenGe_le n l h)
theorem le_len {k m : Nat} {rows : List Row} (hC : k = m) (h : lenGe m rows = true) : k ≤ rows.length := hC ▸ lenGe_le m rows h

section
variable {P : Program} {C : Ctx} {Q : Go.Exit → St → Prop} {s : St}
variable {ops : Array Oper} {rest : List Oper} {t : Nat} {ty : TypeId} {pos : String} {af : Array Edge}

theorem vc_expose {code : Code} (id : Nat) {el e : Nat} {nl : Option Bool} {f : Bool} {xs : List PV} (hnb : C.nb ≤ id) (hrow : s.rows[id]? = some (.own el e nl f xs))
    (next : VC P C code Q ⟨s.n, exposeE id (.pv f (.sl nl e xs)) s.env, (s.rows.map (Row.expose id (.pv f (.sl nl e xs)))).set id .dead⟩) : VC P C code Q s :=
  fun a w ⟨m, hs⟩ => next a w ⟨m, hs.expose hnb hrow⟩

theorem vo_st {l : List Oper} {s' : St} (h : s = s') (next : VO P C ops l Q s') : VO P C ops l Q s := h ▸ next
theorem vc_st {code : Code} {s' : St} (h : s = s') (next : VC P C code Q s') : VC P C code Q s := h ▸ next
theorem eq_refl {α : Type} (a : α) : a = a := rfl

theorem rowsAfter_nil (rows rows' : List Row) : rowsAfter [] rows rows' = rows ++ rows' := by
  have h : (rows.mapIdx fun j r => match placeOf [] j with
    | some q => (rows'[q]?).getD .dead
    | none => r) = rows := by
    apply List.ext_getElem? ; intro i; simp [placeOf]
  exact congrArg (· ++ rows') h

theorem rowsAfter_one (b : Nat) (rows : List Row) (r' : Row) (rows' : List Row) : rowsAfter [b] rows (r' :: rows') = rows.set b r' ++ rows' := by
  have h : (rows.mapIdx fun j r => match placeOf [b] j with
    | some q => ((r' :: rows')[q]?).getD .dead
    | none => r) = rows.set b r' := by
    apply List.ext_getElem?
    intro i
    rw [List.getElem?_mapIdx, List.getElem?_set]
    by_cases h : b = i
    · subst h
      by_cases hb : b < rows.length
      · simp [placeOf, List.getElem?_eq_getElem hb, hb]
      · simp [List.getElem?_eq_none (by omega : rows.length ≤ b), hb]
    · have hn : Nat.beq i b = false := by
        cases e : Nat.beq i b with
        | false => rfl
        | true => exact absurd (Nat.eq_of_beq_eq_true e).symm h
      simp [placeOf, hn, h]
  exact congrArg (· ++ rows') h

theorem retG_one {ts : List Nat} {R : List SV → List Row → Prop} {k : Nat} {row : Row} (id : Nat) (hnb : C.nb = k) (hkl : Nat.ble k s.rows.length = true) (hrow : s.rows[id]? = some row) (hge : Nat.ble k id = true)
    (hb1 : (s.rows.take k).all (Row.bdd k) = true) (hb2 : row.bdd 0 = true) (hR : R (ts.map fun t => renS k [id] (look s.env t)) (s.rows.take k ++ [row])) : retG C ts R .ret s :=
  retG_sel [id] [row] hnb hkl (by simp [placeOf, List.range, List.range.loop]) (by simp [hrow]) (by simp [hge]) hb1 (by simp [hb2]) hR

def xorI (a b : Int) : Int := ((a.toNat ^^^ b.toNat : Nat) : Int)

theorem xorI_nonneg (a b : Int) : 0 ≤ xorI a b := Int.natCast_nonneg _

theorem wrap_xor {a b : Int} (ha : 0 ≤ a) (ha2 : a < 9223372036854775808) (hb : 0 ≤ b) (hb2 : b < 9223372036854775808) :
    IntKind.i64.wrap ((BitVec.ofInt IntKind.i64.bits a ^^^ BitVec.ofInt IntKind.i64.bits b).toNat : Int) = xorI a b := by
  obtain ⟨x, rfl⟩ := Int.eq_ofNat_of_zero_le ha
  obtain ⟨y, rfl⟩ := Int.eq_ofNat_of_zero_le hb
  have hx : x < 2 ^ 63 := by omega
  have hy : y < 2 ^ 63 := by omega
  have h := Nat.xor_lt_two_pow hx hy
  have e : (BitVec.ofInt IntKind.i64.bits (x : Int) ^^^ BitVec.ofInt IntKind.i64.bits (y : Int)).toNat = x ^^^ y := by
    rw [BitVec.toNat_xor]
    show (BitVec.ofInt 64 (x : Int)).toNat ^^^ (BitVec.ofInt 64 (y : Int)).toNat = _
    rw [BitVec.ofInt_natCast, BitVec.ofInt_natCast, BitVec.toNat_ofNat, BitVec.toNat_ofNat, Nat.mod_eq_of_lt (by omega), Nat.mod_eq_of_lt (by omega)]
  rw [e]
  refine wrap_in ?_
  simp only [inR]
  omega

theorem lt_xor {xt yt : TypeId} {x y : Operand} {a b : Int} {f1 f2 : Bool} (hx : getO s.env x = .pv f1 (.int .i64 a)) (hy : getO s.env y = .pv f2 (.int .i64 b))
    (ha : 0 ≤ a) (ha2 : a < 9223372036854775808) (hb : 0 ≤ b) (hb2 : b < 9223372036854775808) : Lt P C s ⟨some t, .binOp .xor xt x y yt, ty, pos, af, none⟩ (.pv true (.int .i64 (xorI a b))) := by
  intro m a' w hs
  have e1 := hs.int hx
  have e2 := hs.int hy
  refine ⟨.int .i64 (xorI a b), fun w' _ => ?_, .pv _ _ _ (.int _ _)⟩
  have hg : (eqGuard .xor xt x y (.int .i64 a) (.int .i64 b)).run P w' = .ok () w' := rfl
  simp only [execOp, e1, e2, binOp_xor, Op.intBits, Sem.run_bind, hg, Result.andThen_ok, wrap_xor ha ha2 hb hb2]
  rfl

theorem vo_xor {xt yt : TypeId} {x y : Operand} {a b : Int} {f1 f2 : Bool} (ht : Nat.blt t s.n = true) (hx : getO s.env x = .pv f1 (.int .i64 a)) (hy : getO s.env y = .pv f2 (.int .i64 b))
    (ha : 0 ≤ a) (ha2 : a < 9223372036854775808) (hb : 0 ≤ b) (hb2 : b < 9223372036854775808)
    (next : VO P C ops rest Q (s.put t (.pv true (.int .i64 (xorI a b))))) : VO P C ops (⟨some t, .binOp .xor xt x y yt, ty, pos, af, none⟩ :: rest) Q s := vo_pure ht (lt_xor hx hy ha ha2 hb hb2) next
end

/-- The nil that is written as a constant has no size of element of its own. -/
def SV.nil1 : SV → SV
  | .pv f (.sl (some true) 0 []) => .pv f (.sl (some true) 1 [])
  | s => s

theorem SatAt.nil1 {P : Program} {f : FuncId} {args : List SV} {rows : List Row} {R : List SV → List Row → Prop} (h : SatAt P f (args.map SV.nil1) rows R) : SatAt P f args rows R := by
  intro C m vals h1 h2 h3 h4
  refine h C m vals h1 h2 (by simpa using h3) { h4 with env := fun t => ?_ }
  have hv := h4.env t
  show RS _ _ _ _ (look (enumE 0 (args.map SV.nil1)) t) _
  rw [look_enumE] at hv ⊢
  simp only [List.getElem?_map]
  split at hv
  · rename_i h0
    rw [if_pos h0]
    cases ha : args[t - 0]? with
    | none => rw [ha] at hv; exact hv
    | some x =>
      rw [ha] at hv
      simp only [Option.getD_some, Option.map_some] at hv ⊢
      unfold SV.nil1
      split
      · generalize (#[] : Array Value) = z at *
        generalize vals.getD t undef = u at *
        cases hv with
        | pv _ _ _ hp =>
          cases hp with
          | nilsl _ _ hn => exact .pv _ _ _ (.nilsl _ _ hn)
          | sl nl e xs a len cap f hn => exact absurd rfl hn
      · exact hv
  · rename_i h0; rw [if_neg h0]; exact .any _

abbrev byteP (b : Fin 256) : PV := .int .u8 (b.val : Int)
theorem getD_bytes (l : List (Fin 256)) (k : Nat) : (l.map byteP).getD k (.int .u8 0) = .int .u8 ((l.getD k 0).val : Int) := by
  simp only [List.getD, List.getElem?_map]
  cases l[k]? <;> rfl
theorem app_ints (l : List Int) (x : Int) : l.map intP ++ [.int .i64 x] = (l ++ [x]).map intP := by simp
theorem app_intss (l : List (List Int)) (x : List Int) : l.map ints ++ [.sl none 1 (x.map intP)] = (l ++ [x]).map ints := by simp
theorem set_ints (l : List Int) (i : Nat) (x : Int) : (l.map intP).set i (.int .i64 x) = (l.set i x).map intP := by simp [List.map_set]
theorem set_intss (l : List (List Int)) (i : Nat) (x : List Int) : (l.map ints).set i (.sl none 1 (x.map intP)) = (l.set i x).map ints := by simp [List.map_set]
end Go.Vl

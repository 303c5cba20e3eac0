/- Rules: rows of the call's own: built, made, appended to, written. -/
import Derived.Test.YtmjbklmjehjpoacVlCall
namespace Go.Vl
set_option linter.unusedVariables false
set_option linter.unusedSimpArgs false
open Go.RowKit

/-- What is known of a slice type's element: its cells, its bytes, its zero value. -/
structure ElInfo (P : Program) (T el e by' : Nat) (d : PV) : Prop where
  und : P.underlying T = some (.slice el)
  inf : ∃ i z, P.info? el = some i ∧ i.size = e ∧ i.bytes = by' ∧ i.zero = some z ∧ z.cells.size = e ∧ ∀ w G, RP w G d z
  fit : d.fits e
  pos : 0 < e

theorem Addr_add (a : Addr) (hs : a.spot = none) (q : Nat) : a.add q = ⟨a.block, a.off + q, none⟩ := by
  unfold Addr.add
  split
  · rename_i h0
    rw [h0]
    cases a
    simp at hs
    simp [hs]
  · rw [← hs]

theorem div_mul_add_mod (q e : Nat) : q / e * e + q % e = q := by rw [Nat.mul_comm]; exact Nat.div_add_mod q e

theorem flat_of_RP {w : World} {G : Nat → Prop} {nl : Option Bool} {e : Nat} {xs : List PV} {a : Addr} {len cap : Nat} (h : RP w G (.sl nl e xs) (.slice (some a) len cap)) (he : 0 < e) :
    ∃ news : List Value, news.length = xs.length * e ∧ (∀ j u, news[j]? = some u → w.cell? (a.add j) = some u) ∧
      (∀ (i : Nat) (x : PV) (j : Nat) (c : PV), xs[i]? = some x → x.cells[j]? = some c → ∃ u, news[i * e + j]? = some u ∧ RP w G c u) ∧ (∀ u ∈ news, u.oneCell' = true) := by
  cases h with
  | sl nl e xs a len cap f h hs hl hcap hg hw hc hr =>
    have hcell : ∀ q, q < xs.length * e → ∃ x c, xs[q / e]? = some x ∧ x.cells[q % e]? = some c := by
      intro q hq
      have h1 : q / e < xs.length := (Nat.div_lt_iff_lt_mul he).2 hq
      have h2 : q % e < e := Nat.mod_lt _ he
      have hx : xs[q / e]? = some xs[q / e] := List.getElem?_eq_getElem h1
      have hf := (hw _ _ hx).1
      exact ⟨_, _, hx, List.getElem?_eq_getElem (by rw [hf]; exact h2)⟩
    refine ⟨(List.range (xs.length * e)).map fun q => f (q / e) (q % e), by simp, fun j u hj => ?_, fun i x j c hx hcj => ?_, fun u hu => ?_⟩
    · simp only [List.getElem?_map, Option.map_eq_some_iff] at hj
      obtain ⟨q, hq, rfl⟩ := hj
      have hq' := hq
      rw [List.getElem?_eq_some_iff] at hq
      obtain ⟨hlt, e1⟩ := hq
      simp at hlt e1
      subst e1
      obtain ⟨x, c, hx, hcx⟩ := hcell j hlt
      have hs := hs (fun h0 => by subst h0; simp at hlt)
      rw [Addr_add a hs, ← hc _ x _ c hx hcx]
      congr 2
      have := div_mul_add_mod j e
      omega
    · have hj : j < e := by rw [← (hw i x hx).1]; exact (List.getElem?_eq_some_iff.1 hcj).1
      have hi : i < xs.length := (List.getElem?_eq_some_iff.1 hx).1
      have hlt : i * e + j < xs.length * e := by
        have := Nat.mul_le_mul_right e (show i + 1 ≤ xs.length by omega)
        rw [Nat.add_mul] at this
        omega
      have e1 : (i * e + j) / e = i := by rw [Nat.add_comm, Nat.add_mul_div_right _ _ he, Nat.div_eq_of_lt hj]; omega
      have e2 : (i * e + j) % e = j := by rw [Nat.add_comm, Nat.add_mul_mod_self_right]; exact Nat.mod_eq_of_lt hj
      refine ⟨f i j, ?_, hr i x j c hx hcj⟩
      simp [hlt, e1, e2]
    · simp only [List.mem_map, List.mem_range] at hu
      obtain ⟨q, hq, rfl⟩ := hu
      obtain ⟨x, c, hx, hcx⟩ := hcell q hq
      exact (hr _ x _ c hx hcx).oneCell ((hw _ x hx).2 _ c hcx)

theorem own_append {w w' : World} {G G' : Nat → Prop} (hG : ∀ b, G b → G' b ∧ w'.heap[b]? = w.heap[b]?) {e : Nat} {xs ys : List PV} {vs news : List Value} (hvl : vs.length = xs.length * e)
    (hr : ∀ (i : Nat) (x : PV) (j : Nat) (c : PV), xs[i]? = some x → x.cells[j]? = some c → ∃ u, vs[i * e + j]? = some u ∧ RP w G c u)
    (hw : ∀ (i : Nat) (x : PV), xs[i]? = some x → x.fits e)
    (hr2 : ∀ (i : Nat) (x : PV) (j : Nat) (c : PV), ys[i]? = some x → x.cells[j]? = some c → ∃ u, news[i * e + j]? = some u ∧ RP w' G' c u) :
    ∀ (i : Nat) (x : PV) (j : Nat) (c : PV), (xs ++ ys)[i]? = some x → x.cells[j]? = some c → ∃ u, (vs ++ news)[i * e + j]? = some u ∧ RP w' G' c u := by
  intro i x j c hx hc
  rw [List.getElem?_append] at hx
  split at hx
  · rename_i hlt
    obtain ⟨u, hu, hp⟩ := hr i x j c hx hc
    refine ⟨u, ?_, hp.mono hG⟩
    rw [List.getElem?_append_left]
    · exact hu
    · exact (List.getElem?_eq_some_iff.1 hu).1
  · rename_i hge
    obtain ⟨u, hu, hp⟩ := hr2 _ x j c hx hc
    refine ⟨u, ?_, hp⟩
    rw [List.getElem?_append_right (by rw [hvl]; have := Nat.mul_le_mul_right e (show xs.length ≤ i by omega); omega)]
    rw [← hu, hvl]
    congr 1
    have : i * e = xs.length * e + (i - xs.length) * e := by rw [← Nat.add_mul]; congr 1; omega
    omega

theorem fits_append {e : Nat} {xs ys : List PV} (h1 : ∀ (i : Nat) (x : PV), xs[i]? = some x → x.fits e) (h2 : ∀ (i : Nat) (x : PV), ys[i]? = some x → x.fits e) :
    ∀ (i : Nat) (x : PV), (xs ++ ys)[i]? = some x → x.fits e := by
  intro i x hx
  rw [List.getElem?_append] at hx
  split at hx
  · exact h1 i x hx
  · exact h2 _ x hx

theorem ownBlock_blk {v : Value} {ao : Option Addr} {n c : Nat} (h : v = .slice ao n c) : v.ownBlock = blk v := by
  subst h
  cases ao <;> rfl

section
variable {P : Program} {C : Ctx} {Q : Go.Exit → St → Prop} {s : St}
variable {ops : Array Oper} {rest : List Oper} {t : Nat} {ty : TypeId} {pos : String} {af : Array Edge}

/-- What the second operand of an append holds: nothing that is written while it runs. -/
def srcOf (rows : List Row) : SV → Option (Bool × Nat × List PV)
  | .pv f (.sl _ e ys) => some (f, e, ys)
  | .ref id => match rows[id]? with
    | some (.own _ e _ f ys) => some (f, e, ys)
    | _ => none
  | _ => none

theorem SimM.src {m : Nat → MV} {a : Act} {w : World} (h : SimM C s m a w) {x : Operand} {f : Bool} {e : Nat} {ys : List PV} (hx : srcOf s.rows (getO s.env x) = some (f, e, ys)) (he : 0 < e) :
    (a.eval x = .slice none 0 0 ∧ ys = []) ∨
    ∃ (ad : Addr) (len cap : Nat) (news : List Value), a.eval x = .slice (some ad) len cap ∧ len = ys.length ∧ news.length = ys.length * e ∧ (∀ j u, news[j]? = some u → w.cell? (ad.add j) = some u) ∧
      (∀ (i : Nat) (x : PV) (j : Nat) (c : PV), ys[i]? = some x → x.cells[j]? = some c → ∃ u, news[i * e + j]? = some u ∧ RP w (Gd C s.rows m w f) c u) ∧ (∀ u ∈ news, u.oneCell' = true) ∧
      (∀ (i : Nat) (x : PV), ys[i]? = some x → x.fits e) := by
  have hv := h.get x
  generalize hgx : getO s.env x = gx at *
  generalize a.eval x = v at *
  cases hv with
  | pv fr p v hp =>
    cases p with
    | sl nl e' ys' =>
      simp only [srcOf, Option.some.injEq, Prod.mk.injEq] at hx
      obtain ⟨rfl, rfl, rfl⟩ := hx
      cases hp with
      | nilsl => exact .inl ⟨rfl, rfl⟩
      | sl nl e xs ad len cap fv h hs hl hcap hg hw hc hr =>
        right
        obtain ⟨news, h1, h2, h3, h4⟩ := flat_of_RP (.sl nl e' ys' ad len cap fv h hs hl hcap hg hw hc hr) he
        exact ⟨ad, len, cap, news, rfl, hl, h1, h2, h3, h4, hw⟩
    | _ => simp [srcOf] at hx
  | ref id hid =>
    simp only [srcOf] at hx
    split at hx
    · rename_i t' e' nl' f' ys' hrow
      simp at hx
      obtain ⟨rfl, rfl, rfl⟩ := hx
      have := h.rows id _ hrow
      generalize hmv : m id = v at *
      cases this with
      | own v t e nl fr xs vs hown h1 h2 hw hr =>
        rcases hown.2 with ⟨rfl, hn⟩ | ⟨g, cap, cur, rfl, h0, hh, hle, hmx, hsz, htk⟩
        · exact .inl ⟨rfl, List.eq_nil_of_length_eq_zero hn⟩
        · right
          refine ⟨⟨g, 0, none⟩, _, cap, vs, rfl, rfl, hown.1, ?_, hr, ?_, hw⟩
          · exact World.ownsRow.cells hown rfl
          · intro u hu
            obtain ⟨q, hq⟩ := List.getElem?_of_mem hu
            have hq1 : q < ys'.length * e' := by rw [← hown.1]; exact (List.getElem?_eq_some_iff.1 hq).1
            have h1 : q / e' < ys'.length := (Nat.div_lt_iff_lt_mul he).2 hq1
            have h2 : q % e' < e' := Nat.mod_lt _ he
            have hx : ys'[q / e']? = some ys'[q / e'] := List.getElem?_eq_getElem h1
            have hf := hw _ _ hx
            have h3 : q % e' < ys'[q / e'].cells.length := by rw [hf.1]; exact h2
            have hcx : ys'[q / e'].cells[q % e']? = some ys'[q / e'].cells[q % e'] := List.getElem?_eq_getElem h3
            obtain ⟨u', hu', hp⟩ := hr _ _ _ _ hx hcx
            rw [div_mul_add_mod, hq] at hu'
            cases hu'
            exact hp.oneCell (hf.2 _ _ hcx)
    · simp at hx
  | _ => simp [srcOf] at hx

theorem rowfits {w : World} {G : Bool → Nat → Prop} {m : Nat → MV} {N : Nat} {v : MV} {T : TypeId} {e : Nat} {nl : Option Bool} {fr : Bool} {xs : List PV} (h : RowOK w G m N v (.own T e nl fr xs)) :
    ∀ (i : Nat) (x : PV), xs[i]? = some x → x.fits e := by
  cases h; assumption

/-- 'append' to a row of the call's own. -/
theorem vo_append {x y : Operand} {id T el e by' : Nat} {nl : Option Bool} {fr f : Bool} {xs ys : List PV} {d : PV} (hI : ElInfo P T el e by' d) (ht : Nat.blt t s.n = true) (hnb : C.nb ≤ id)
    (hx : getO s.env x = .ref id) (hrow : s.rows[id]? = some (.own el e nl fr xs)) (hy : srcOf s.rows (getO s.env y) = some (f, e, ys))
    (hby : (xs.length + ys.length) * by' ≤ 140737488355328) (hmx : xs.length + ys.length ≤ 9223372036854775807)
    (next : VO P C ops rest Q ⟨s.n, (t, .ref id) :: killE id s.env, (s.rows.map (Row.kill id)).set id (.own el e (if nl = some false then some false else none) (fr && f) (xs ++ ys))⟩) :
    VO P C ops (⟨some t, .call ⟨.builtin .append, #[x, y], #[T, T]⟩, ty, pos, af, none⟩ :: rest) Q s := by
  obtain ⟨hT, ⟨inf, z, hinf, hsz, hbytes, hz, hzs, hzr⟩, hfit, he⟩ := hI
  refine vo_value (s1 := { s with env := killE id s.env, rows := (s.rows.map (Row.kill id)).set id (.own el e (if nl = some false then some false else none) (fr && f) (xs ++ ys)) }) (sv := .ref id) ht (fun m a w hs => ?_) next
  obtain ⟨hv, hid⟩ := hs.row hx
  have hlive : liveAt s.rows id := ⟨_, hrow, rfl⟩
  have hR := hs.rows id _ hrow
  have hsrc := hs.src hy he
  obtain ⟨ao, cap0, hshape, hcap0⟩ := own_shape hR
  have hV : (m id).v = .slice ao xs.length cap0 := by rw [hshape]; rfl
  have hSb : ∀ b, blk (m id).v = some b → (m id).S b := by rw [hshape]; exact fun _ h => h
  have hob : (m id).v.ownBlock = blk (m id).v := ownBlock_blk hV
  have hdone : ∀ (v' : Value) (w' : World), (Builtin.append_ #[T, T] ty #[a.eval x, a.eval y]).run P w = .ok v' w' →
      ∃ v' w' , (execOp a.eval ⟨some t, .call ⟨.builtin .append, #[x, y], #[T, T]⟩, ty, pos, af, none⟩).run P w = .ok (.value v') w' ∧ (Builtin.append_ #[T, T] ty #[a.eval x, a.eval y]).run P w = .ok v' w' := by
    intro v' w' h
    exact ⟨v', w', by simp [execOp, resolve, invoke, builtin, h], h⟩
  have hRk : Row.kill id (.own el e (if nl = some false then some false else none) (fr && f) (xs ++ ys)) = .own el e (if nl = some false then some false else none) (fr && f) (xs ++ ys) := rfl
  have fin : ∀ (v' : Value) (w' : World) (news : List Value), (Builtin.append_ #[T, T] ty #[a.eval x, a.eval y]).run P w = .ok v' w' → w.grownBy w' (blk (m id).v) → (∀ vs, w.ownsRow 0 el e (m id).v xs.length vs → w'.ownsRow 0 el e v' (xs.length + ys.length) (vs ++ news)) →
      (v' = .slice none 0 0 → (m id).v = .slice none 0 0) → (∀ b, blk v' = some b → (m id).S b ∨ w.heap.size ≤ b) →
      (∀ (i : Nat) (x : PV) (j : Nat) (c : PV), ys[i]? = some x → x.cells[j]? = some c → ∃ u, news[i * e + j]? = some u ∧ RP w (Gd C s.rows m w f) c u) → (∀ (i : Nat) (x : PV), ys[i]? = some x → x.fits e) →
      ∃ v w' m', (execOp a.eval ⟨some t, .call ⟨.builtin .append, #[x, y], #[T, T]⟩, ty, pos, af, none⟩).run P w = .ok (.value v) w' ∧
        SimM C { s with env := killE id s.env, rows := (s.rows.map (Row.kill id)).set id (.own el e (if nl = some false then some false else none) (fr && f) (xs ++ ys)) } m' a w' ∧
        RS w' (Gd C ((s.rows.map (Row.kill id)).set id (.own el e (if nl = some false then some false else none) (fr && f) (xs ++ ys))) m' w') m' ((s.rows.map (Row.kill id)).set id (.own el e (if nl = some false then some false else none) (fr && f) (xs ++ ys))).length (.ref id) v := by
    intro v' w' news hrun hg hown hnil hblk hnews hfits
    refine ⟨v', w', updM m id (.of v'), by simp [execOp, resolve, invoke, builtin, hrun], ?_, ?_⟩
    · refine hs.moveRow hlive hnb hSb hg _ (.of v') hRk hblk (fun hG => ?_)
      generalize hmv : m id = v at *
      cases hR with
      | own v t' e nl fr xs vs hown0 h1 h2 hw hr =>
        have hw0 : ∀ fl b, Gd C s.rows m w fl b → Gd C s.rows m w false b := fun fl b h => h.weak
        have hcomb : ∀ b, (Gd C s.rows m w fr b ∨ Gd C s.rows m w f b) → Gd C s.rows m w (fr && f) b := by
          intro b hb
          cases hf1 : fr && f with
          | false => rcases hb with hb | hb <;> exact hb.weak
          | true =>
            simp only [Bool.and_eq_true] at hf1
            obtain ⟨rfl, rfl⟩ := hf1
            rcases hb with hb | hb <;> exact hb
        refine .own v' el e _ _ (xs ++ ys) (vs ++ news) (by simpa using hown vs hown0) (fun h => by split at h <;> simp at h) (fun h => ?_) (fits_append hw hfits)
          (own_append (G := Gd C s.rows m w (fr && f)) (hG _) hown0.1 (fun i x j c hx hc => ?_) hw (fun i x j c hx hc => ?_))
        · split at h
          · rename_i hnl
            intro hv'
            exact h2 hnl (hnil hv')
          · simp at h
        · obtain ⟨u, hu, hp⟩ := hr i x j c hx hc
          exact ⟨u, hu, hp.mono fun b hb => ⟨hcomb b (.inl hb), rfl⟩⟩
        · obtain ⟨u, hu, hp⟩ := hnews i x j c hx hc
          exact ⟨u, hu, hp.mono fun b hb => hG _ b (hcomb b (.inr hb))⟩
    · have := RS.ref (w := w') (G := Gd C ((s.rows.map (Row.kill id)).set id (.own el e (if nl = some false then some false else none) (fr && f) (xs ++ ys))) (updM m id (.of v')) w') (m := updM m id (.of v'))
        (N := ((s.rows.map (Row.kill id)).set id (.own el e (if nl = some false then some false else none) (fr && f) (xs ++ ys))).length) id (by simpa using hid)
      rw [updM_same] at this
      exact this
  rcases hsrc with ⟨hvy, rfl⟩ | ⟨ad, len, cap, news, hvy, rfl, hnl, hnews, hnr, hn1, hfy⟩
  · have hown1 : ∃ vs, w.ownsRow 0 el e (m id).v xs.length vs := by
      generalize m id = v at *
      cases hR with
      | own v t' e nl fr xs vs hown0 => exact ⟨vs, hown0⟩
    obtain ⟨vs1, hown1⟩ := hown1
    refine fin (m id).v w [] ?_ ⟨rfl, rfl, rfl, Nat.le_refl _, fun _ _ _ => rfl⟩ (fun vs h => by simpa using h) (fun h => h) (fun b hb => .inl (hSb b hb)) (fun i x j c hx => by simp at hx) (fun i x hx => by simp at hx)
    rw [hv, hvy]
    exact run_append_owned_none (P := P) (w := w) 0 T ty el inf e hT hinf (m id).v xs.length vs1 hown1
  · have hown1 : ∃ vs, w.ownsRow 0 el e (m id).v xs.length vs := by
      generalize m id = v at *
      cases hR with
      | own v t' e nl fr xs vs hown0 => exact ⟨vs, hown0⟩
    obtain ⟨vs1, hown1⟩ := hown1
    obtain ⟨v', w', hrun, hown', hg, hnil, hblk⟩ := run_append_own_at (P := P) w 0 T ty el inf z e by' hT hinf hz hsz hbytes hzs he (m id).v xs.length vs1 hown1 ad ys.length cap news hnl hnews hn1
      (by simpa [maxLen] using hmx) hby (Nat.zero_le _)
    have hv'shape : v'.ownBlock = blk v' := by
      rcases hown'.2 with ⟨rfl, _⟩ | ⟨g, cp, cur, rfl, _⟩ <;> rfl
    refine fin v' w' news (by rw [hv, hvy]; exact hrun) (by rw [← hob]; exact hg) (fun vs h => ?_) (fun h => (hnil.1 h).1) (fun b hb => ?_) hnr hfy
    · have e1 : vs = vs1 := by
        rcases h.2 with ⟨e1, h0⟩ | ⟨g, cp, cur, e1, _, hh, _, _, _, htk⟩
        · have l1 := h.1
          have l2 := hown1.1
          rw [h0] at l1 l2
          simp at l1 l2
          rw [l1, l2]
        · rcases hown1.2 with ⟨e2, h0⟩ | ⟨g2, cp2, cur2, e2, _, hh2, _, _, _, htk2⟩
          · rw [e1] at e2; cases e2
          · rw [e1] at e2
            cases e2
            rw [hh] at hh2
            cases hh2
            rw [← htk, ← htk2]
      rw [e1]
      exact hown'
    · rw [← hv'shape] at hb
      rcases hblk with h1 | h1
      · left; refine hSb b ?_; rw [← hob, ← h1]; exact hb
      · right; rw [h1] at hb; cases hb; exact Nat.le_refl _

end
end Go.Vl

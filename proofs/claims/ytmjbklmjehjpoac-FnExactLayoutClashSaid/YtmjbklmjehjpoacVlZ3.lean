/- 'copy' of a whole slice; a slice held against nil; ghost steps on slots. -/
import Derived.Test.YtmjbklmjehjpoacVlTree2
namespace Go.Vl
set_option linter.unusedVariables false
set_option linter.unusedSimpArgs false
open Go.RowKit

section
variable {P : Program} {C : Ctx} {Q : Go.Exit → St → Prop} {s : St} {ops : Array Oper} {rest : List Oper} {t : Nat} {ty : TypeId} {pos : String} {af : Array Edge}

/-- A ghost step: a slot forgets whether its slice is nil. -/
theorem vc_weaken {code : Code} (u : Nat) {e : Nat} {nl : Option Bool} {f : Bool} {xs : List PV} (hu : look s.env u = .pv f (.sl nl e xs))
    (next : VC P C code Q ⟨s.n, (u, .pv f (.sl none e xs)) :: s.env, s.rows⟩) : VC P C code Q s := by
  intro a w ⟨m, hs⟩
  refine next a w ⟨m, { hs with env := fun q => ?_ }⟩
  show RS _ _ _ _ (look ((u, .pv f (.sl none e xs)) :: s.env) q) _
  rw [look_cons]
  split
  · rename_i e
    subst e
    have hv := hs.env q
    rw [hu] at hv
    exact .pv _ _ _ hv.pv_inv.weaken
  · exact hs.env q

/-- A ghost step: a slot forgets that its value is new. -/
theorem vo_flag {l : List Oper} (u : Nat) {f : Bool} {p : PV} (hu : look s.env u = .pv f p)
    (next : VO P C ops l Q ⟨s.n, (u, .pv false p) :: s.env, s.rows⟩) : VO P C ops l Q s := by
  intro a w ⟨m, hs⟩
  refine next a w ⟨m, { hs with env := fun q => ?_ }⟩
  show RS _ _ _ _ (look ((u, .pv false p) :: s.env) q) _
  rw [look_cons]
  split
  · rename_i e
    subst e
    have hv := hs.env q
    rw [hu] at hv
    exact .pv _ _ _ (hv.pv_inv.mono fun b hb => ⟨hb.weak, rfl⟩)
  · exact hs.env q

/-- A slice held against the literal nil. -/
theorem vo_eqnil {x : Operand} {T T2 el : TypeId} {f : Bool} {nl : Option Bool} {e : Nat} {xs : List PV} (ht : Nat.blt t s.n = true) (hx : getO s.env x = .pv f (.sl nl e xs)) (hT : P.underlying T = some (.slice el))
    (next : ∀ b : Bool, (b = true → xs = []) → (nl = some true → b = true) → (nl = some false → b = false) → VO P C ops rest Q (s.put t (.pv true (.bool b)))) :
    VO P C ops (⟨some t, .binOp .eql T x (.const (.slice none 0 0)) T2, ty, pos, af, none⟩ :: rest) Q s := by
  intro a w ⟨m, hs⟩
  have hv := hs.get x
  rw [hx] at hv
  have hv := hv.pv_inv
  have key : ∃ b : Bool, (b = true → xs = []) ∧ (nl = some true → b = true) ∧ (nl = some false → b = false) ∧ (execOp a.eval ⟨some t, .binOp .eql T x (.const (.slice none 0 0)) T2, ty, pos, af, none⟩).run P w = .ok (.value (.bool b)) w := by
    have hrun : ∀ (o : Option Addr) (l c : Nat), a.eval x = .slice o l c → (execOp a.eval ⟨some t, .binOp .eql T x (.const (.slice none 0 0)) T2, ty, pos, af, none⟩).run P w = .ok (.value (.bool o.isNone)) w := by
      intro o l c e
      have hg : (eqGuard .eql T x (.const (.slice none 0 0)) (.slice o l c) (.slice none 0 0)).run P w = .ok () w := rfl
      have heq : (Op.equal T (.slice o l c) (.slice none 0 0)).run P w = .ok o.isNone w := by
        show (Op.equalIn (9999 + 1) T (.slice o l c) (.slice none 0 0)).run P w = _
        unfold Op.equalIn
        cases o <;> simp [run_underlying hT]
      have hb : (binOp .eql T (.slice o l c) (.slice none 0 0)).run P w = .ok (.bool o.isNone) w := by
        show (do pure (Value.bool (← Op.equal T (.slice o l c) (.slice none 0 0))) : Sem Value).run P w = _
        simp [heq]
      have e3 : a.eval (.const (.slice none 0 0)) = .slice none 0 0 := rfl
      simp only [execOp, e, e3]
      simp [hg, hb]
    generalize hav : a.eval x = v at *
    cases hv with
    | nilsl nl e hn => exact ⟨true, fun _ => rfl, fun _ => rfl, fun h => (hn h).elim, hrun none 0 0 rfl⟩
    | sl nl e xs ad len cap fv h hsp hl hcap hg hw hc hr => exact ⟨false, (fun h => by cases h), fun e => (h e).elim, fun _ => rfl, hrun (some ad) len cap rfl⟩
  obtain ⟨b, h1, h2, h3, hrun⟩ := key
  refine wpList_plain rfl fun K hK => ?_
  unfold Oper.wp
  rw [hrun, Oper.upon_value]
  exact hK _ _ (next b h1 h2 h3 _ _ ⟨m, hs.put (blt_lt ht) (.pv _ _ _ (.bool b))⟩)

/-- 'copy' of as many elements as there are. -/
theorem vo_copy {x y : Operand} {id R : Nat} {Ts T2 el : TypeId} {nl : Option Bool} {fr f : Bool} {xs ys : List PV} {inf : TypeInfo} (ht : Nat.blt t s.n = true) (hx : getO s.env x = .ref id) (hrow : s.rows[id]? = some (.own R 1 nl fr xs))
    (hy : srcOf s.rows (getO s.env y) = some (f, 1, ys)) (hT : P.underlying Ts = some (.slice el)) (hinf : P.info? el = some inf) (hsz : inf.size = 1) (hl : ys.length = xs.length)
    (next : VO P C ops rest Q ⟨s.n, (t, .pv true (.int .i64 xs.length)) :: s.env, s.rows.set id (.own R 1 nl (fr && f) ys)⟩) :
    VO P C ops (⟨some t, .call ⟨.builtin .copy, #[x, y], #[Ts, T2]⟩, ty, pos, af, none⟩ :: rest) Q s := by
  refine vo_value (s1 := { s with rows := s.rows.set id (.own R 1 nl (fr && f) ys) }) (sv := .pv true (.int .i64 xs.length)) ht (fun m a w hs => ?_) next
  obtain ⟨hv, hid⟩ := hs.row hx
  have hlive : liveAt s.rows id := ⟨_, hrow, rfl⟩
  have hR := hs.rows id _ hrow
  have hsrc := hs.src hy (by omega)
  have hop : ∀ (v : Value) (w' : World), (Builtin.copy_ #[Ts, T2] ty #[a.eval x, a.eval y]).run P w = .ok v w' → (execOp a.eval ⟨some t, .call ⟨.builtin .copy, #[x, y], #[Ts, T2]⟩, ty, pos, af, none⟩).run P w = .ok (.value v) w' := by
    intro v w' h
    simp [execOp, resolve, invoke, builtin, h]
  have hcomb : ∀ b, (Gd C s.rows m w f b) → Gd C s.rows m w (fr && f) b := by
    intro b hb
    cases fr with
    | false => exact hb.weak
    | true => exact hb
  generalize hmv : m id = v at *
  cases hR with
  | own v t' e nl fr xs vs hown h1 h2 hw hr =>
    have hint : RS w (Gd C (s.rows.set id (.own R 1 nl (fr && f) ys)) m w) m (s.rows.set id (.own R 1 nl (fr && f) ys)).length (.pv true (.int .i64 xs.length)) (.int .i64 xs.length) := .pv _ _ _ (.int _ _)
    rcases hsrc with ⟨hvy, rfl⟩ | ⟨ad, len, cap, news, hvy, rfl, hnl, hnews, hnr, hn1, hfy⟩
    · have hx0 : xs = [] := List.eq_nil_of_length_eq_zero (by simpa using hl.symm)
      subst hx0
      have hs2 : SimM C { s with rows := s.rows.set id (.own R 1 nl (fr && f) []) } m a w := hs.storeRow (w' := w) (bo := none) hlive (fun _ e => by cases e) ⟨rfl, rfl, rfl, Nat.le_refl _, fun _ _ _ => rfl⟩ _ (fun hG => by
        rw [hmv]; exact .own v R 1 nl _ [] vs hown h1 h2 (fun i x hx => by simp at hx) (fun i x j c hx => by simp at hx))
      refine ⟨.int .i64 0, w, m, hop _ _ ?_, hs2, .pv _ _ _ (.int _ _)⟩
      rw [hv, hvy]
      rcases hown.2 with ⟨rfl, _⟩ | ⟨g, cp, cur, rfl, _⟩
      · simp [MV.of, Builtin.copy_, run_underlying hT, Builtin.lenOf, Builtin.firstCells, sizeOf, typeInfo, hinf, goInt]
      · exact run_copy_nil (P := P) w Ts T2 ty el ⟨g, 0, none⟩ 0 cp hT (by simp [hinf])
    · rcases hown.2 with ⟨rfl, hn0⟩ | ⟨g, cp, cur, rfl, _, hheap, hle, hmx, hcs, htk⟩
      · have hy0 : ys = [] := List.eq_nil_of_length_eq_zero (by omega)
        subst hy0
        have hx0 : xs = [] := List.eq_nil_of_length_eq_zero hn0
        subst hx0
        have hs2 : SimM C { s with rows := s.rows.set id (.own R 1 nl (fr && f) []) } m a w := hs.storeRow (w' := w) (bo := none) hlive (fun _ e => by cases e) ⟨rfl, rfl, rfl, Nat.le_refl _, fun _ _ _ => rfl⟩ _ (fun hG => by
          rw [hmv]; exact .own _ R 1 nl _ [] vs hown h1 h2 (fun i x hx => by simp at hx) (fun i x j c hx => by simp at hx))
        refine ⟨.int .i64 0, w, m, hop _ _ ?_, hs2, .pv _ _ _ (.int _ _)⟩
        rw [hv, hvy]
        simp [MV.of, Builtin.copy_, run_underlying hT, Builtin.lenOf, Builtin.firstCells, sizeOf, typeInfo, hinf, goInt, loadCells, loadCellsFrom]
      · have hnl' : news.length = ys.length := by omega
        have hrun := run_copy_row (P := P) w Ts T2 ty el g 0 xs.length cp ad ys.length cap cur R news hT (by simp [hinf, hsz]) hheap (by rw [hnl', hl]; simp) hnews (by rw [hcs]; omega) hn1
        let cur' : Array Value := (cur.toList.take 0 ++ news ++ cur.toList.drop (0 + news.length)).toArray
        have hg : w.grownBy (w.setRow g cur') (some g) := grown_setRow w g _
        refine ⟨goInt news.length, w.setRow g cur', m, hop _ _ (by rw [hv, hvy]; exact hrun), ?_, ?_⟩
        · refine hs.storeRow hlive (fun b' e => by cases e; rw [hmv]; rfl) hg _ (fun hG => ?_)
          rw [hmv]
          refine .own _ R 1 nl _ ys news ⟨by omega, .inr ⟨g, cp, cur', by rw [hl], Nat.zero_le _, setRow_heap w g cur _ R _ hheap, by omega, hmx, ?_, ?_⟩⟩ (fun h => by have := h1 h; simp at this) (fun _ h => by cases h) hfy (fun i x j c hx hc => ?_)
          · simp [cur']; omega
          · simp [cur', hnl']
          · obtain ⟨u, hu, hp⟩ := hnr i x j c hx hc
            exact ⟨u, hu, hp.mono fun b hb => hG _ b (hcomb b hb)⟩
        · rw [hnl', hl]
          exact .pv _ _ _ (.int _ _)
end
end Go.Vl

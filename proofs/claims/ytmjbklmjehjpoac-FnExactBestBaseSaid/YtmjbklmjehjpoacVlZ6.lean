/- A slice is taken out of a row whose slices are its own: it becomes a row. -/
import Derived.Test.YtmjbklmjehjpoacVlZ5
namespace Go.Vl
set_option linter.unusedVariables false
set_option linter.unusedSimpArgs false
open Go.RowKit

theorem RS.monoV {w w' : World} {G G' : Bool → Nat → Prop} {m m' : Nat → MV} {N N' : Nat} (hG : ∀ fr b, G fr b → G' fr b ∧ w'.heap[b]? = w.heap[b]?)
    (hN : N ≤ N') (hm : ∀ id, id < N → (m' id).v = (m id).v) {s : SV} {v : Value} (h : RS w G m N s v) : RS w' G' m' N' s v := by
  induction h with
  | any v => exact .any v
  | val u => exact .val _
  | und => exact .und
  | pv fr p v h => exact .pv fr p v (h.mono (hG fr))
  | ref id h => rw [← hm id h]; exact .ref id (by omega)
  | ptr id e i o b hid h => exact .ptr id e i o b (by omega) (by rw [hm id hid]; exact h)
  | adr fr cs a f hs hg h1 hc hr =>
    refine .adr fr cs a f hs (fun hne => (hG fr _ (hg hne)).1) h1 (fun j c hj => ?_) (fun j c hj => (hr j c hj).mono (hG fr))
    have hne : cs ≠ [] := by intro h0; subst h0; simp at hj
    have := (hG fr _ (hg hne)).2
    rw [← hc j c hj]
    simp [World.cell?, this]
  | tup vs us hl h ih => exact .tup vs us hl ih

theorem RowOK.monoV {w w' : World} {G G' : Bool → Nat → Prop} {m m' : Nat → MV} {N N' : Nat} {v : MV} {r : Row} (hG : ∀ fr b, G fr b → G' fr b ∧ w'.heap[b]? = w.heap[b]?)
    (hN : N ≤ N') (hm : ∀ id, id < N → (m' id).v = (m id).v) (h : RowOK w G m N v r) (hb : r.live = true → ∀ b, v.S b → w'.heap[b]? = w.heap[b]?) : RowOK w' G' m' N' v r := by
  cases h with
  | dead v => exact .dead v
  | own v t e nl fr xs vs hown h1 h2 hw hr =>
    refine .own v t e nl fr xs vs ?_ h1 h2 hw (fun i x j c hx hc => ?_)
    · refine ⟨hown.1, ?_⟩
      rcases hown.2 with h | ⟨g, cap, cur, rfl, h0, hh, rest⟩
      · exact .inl h
      · exact .inr ⟨g, cap, cur, rfl, h0, by rw [hb rfl g rfl]; exact hh, rest⟩
    · obtain ⟨u, hu, hp⟩ := hr i x j c hx hc
      exact ⟨u, hu, hp.mono (hG fr)⟩
  | var b t cs cur hbk hl hr h1 =>
    exact .var b t cs cur (by rw [hb rfl b rfl]; exact hbk) hl (fun j c u hc hu => (hr j c u hc hu).monoV hG hN hm) h1
  | tree mv t e nl h xs vals Sf hown h1 h2 hw hr hd hn hz hS hkn =>
    exact .tree _ t e nl h xs vals Sf (ownsRow_blk hown fun b h => hb rfl b ((hS b).2 (.inl h))) h1 h2 hw
      (fun i x j c u hx hc hu => (hr i x j c u hx hc hu).mono fun b h => hb rfl b ((hS b).2 (.inr ⟨_, h⟩))) hd hn hz hS hkn


section
variable {P : Program} {C : Ctx} {Q : Go.Exit → St → Prop} {s : St} {ops : Array Oper} {rest : List Oper} {t : Nat} {ty : TypeId} {pos : String} {af : Array Edge}

theorem vo_take {l : List Oper} (id u0 : Nat) {R i : Nat} {nl nlc : Option Bool} {ec : Nat} {u : Value} {xs ys : List PV} (hnb : C.nb ≤ id) (hu0 : look s.env u0 = .val u)
    (hrow : s.rows[id]? = some (.tree R 1 nl (some (i, some u)) xs)) (hget : xs[i]? = some (.sl nlc ec ys)) (hpl : plainX ys)
    (next : ∀ Rc, VO P C ops l Q ⟨s.n, (u0, .ref s.rows.length) :: s.env, s.rows.set id (Row.tree R 1 nl (some (i, none)) xs) ++ [Row.own Rc ec nlc true ys]⟩) : VO P C ops l Q s := by
  intro a w ⟨m, hs⟩
  have hlid : liveAt s.rows id := ⟨_, hrow, rfl⟩
  have hidl : id < s.rows.length := (List.getElem?_eq_some_iff.1 hrow).1
  have hR := hs.rows id _ hrow
  have hev : a.tmps.getD u0 undef = u := by
    have := hs.env u0
    rw [hu0] at this
    generalize a.tmps.getD u0 undef = v at this
    cases this
    rfl
  have key : ∃ (Sf : Nat → Nat → Prop) (Rc : TypeId), (∀ b, Sf i b → (m id).S b) ∧ (∀ m2 N2, RowOK w (fun _ _ => False) m2 N2 ⟨u, Sf i⟩ (.own Rc ec nlc true ys)) ∧
      (∀ G m2 N2, RowOK w G m2 N2 ⟨(m id).v, fun b => (m id).S b ∧ ¬ Sf i b⟩ (.tree R 1 nl (some (i, none)) xs)) := by
    generalize hmv : m id = v at *
    cases hR with
    | tree mv t' e nl h xs vals Sf hown h1 h2 hw hr hd hn hz hS hkn =>
      have hui : vals[i]? = some u := hkn i u rfl
      have hTP : TP w (.sl nlc ec ys) u (Sf i) := by
        have := (hr i (.sl nlc ec ys) 0 (.sl nlc ec ys) u hget rfl (by simpa using hui)).tpK
        simpa using this
      have hone := hTP.oneCell
      obtain ⟨Rc, hRc⟩ : ∃ Rc, ∀ m2 N2, RowOK w (fun _ _ => False) m2 N2 ⟨u, Sf i⟩ (.own Rc ec nlc true ys) := by
        cases hTP with
        | scal _ _ _ hsc9 => simp [PV.scal] at hsc9
        | sl tc e nl xs v vals2 Sf2 S hown2 g1 g2 gw gr gd gn gz gS =>
          have hemp : ∀ q b, ¬ Sf2 q b := by
            intro q b hb
            rcases Nat.lt_or_ge q (ys.length * ec) with hq | hq
            · obtain ⟨y, c, uu, hy, hc, huu, e1⟩ := cellAt hown2 gw hq
              have h3 := gr _ y _ c uu hy hc huu
              have h4 := hpl y (List.mem_of_getElem? hy) c (List.mem_of_getElem? hc)
              rw [e1] at h3
              cases h3 with
              | scal _ _ _ _ _ hS3 => exact hS3 b hb
              | sl t9 e9 nl9 xs9 v9 vals9 Sf9 S9 hown9 k1 k2 kw kr kd kn kz kS =>
                unfold plainB at h4
                split at h4
                · rename_i e8 h8
                  cases h8
                  have hv9 := k1 rfl
                  rcases (kS b).1 hb with h5 | ⟨q9, h5⟩
                  · rw [hv9] at h5; simp [blk] at h5
                  · exact kz q9 b (by simp) h5
                · simp [PV.scal] at h4
            · exact gz q b hq hb
          have hSe : (⟨u, Sf i⟩ : MV) = .of u := by
            unfold MV.of
            congr 1
            funext b
            exact propext ((gS b).trans ⟨fun h => h.elim (fun h => h) (fun ⟨q, h⟩ => (hemp q b h).elim), .inl⟩)
          rw [hSe]
          refine ⟨tc, fun m2 N2 => .own u tc ec nlc true ys vals2 hown2 g1 g2 gw (fun k y j c hy hc => ?_)⟩
          have hj : j < ec := by rw [← (gw k y hy).1]; exact (List.getElem?_eq_some_iff.1 hc).1
          have hk : k < ys.length := (List.getElem?_eq_some_iff.1 hy).1
          have hlt2 : k * ec + j < vals2.length := by
            rw [hown2.1]
            have := Nat.mul_le_mul_right ec (show k + 1 ≤ ys.length by omega)
            rw [Nat.add_mul] at this
            omega
          refine ⟨_, List.getElem?_eq_getElem hlt2, ?_⟩
          have h3 := gr k y j c _ hy hc (List.getElem?_eq_getElem hlt2)
          exact (h3.rp (G := fun b => Sf2 (k * ec + j) b) (fun _ h => h)).mono fun b hb => (hemp _ b hb).elim

      refine ⟨Sf, Rc, fun b hb => (hS b).2 (.inr ⟨i, hb⟩), hRc, fun G m2 N2 => .tree _ _ _ _ _ _ vals (fun q b => q ≠ i ∧ Sf q b) hown h1 h2 hw (fun k y j c u' hy hc hu' => ?_) (fun q q' b h3 h4 => hd q q' b h3.2 h4.2) (fun q b h3 => hn q b h3.2) (fun q b hq h3 => hz q b hq h3.2) (fun b => ?_) (fun q u' h3 => by cases h3)⟩
      · have h5 := (hr k y j c u' hy hc hu').tpK
        by_cases e : k * 1 + j = i
        · exact .inr ⟨by rw [e], fun b h3 => h3.1 e, h5.oneCell⟩
        · have e2 : (fun b => k * 1 + j ≠ i ∧ Sf (k * 1 + j) b) = Sf (k * 1 + j) := by
            funext b
            exact propext ⟨fun h => h.2, fun h => ⟨e, h⟩⟩
          left
          show TP w c u' (fun b => k * 1 + j ≠ i ∧ Sf (k * 1 + j) b)
          rw [e2]; exact h5
      · show (_ ∧ ¬ Sf i b) ↔ _
        rw [hS b]
        constructor
        · rintro ⟨h3 | ⟨q, h3⟩, h4⟩
          · exact .inl h3
          · exact .inr ⟨q, fun e => h4 (e ▸ h3), h3⟩
        · rintro (h3 | ⟨q, h3, h4⟩)
          · exact ⟨.inl h3, fun h4 => hn i b h4 h3⟩
          · exact ⟨.inr ⟨q, h4⟩, fun h5 => h3 (hd q i b h4 h5)⟩
  obtain ⟨Sf, Rc, hsub, hown, htree⟩ := key
  let m' : Nat → MV := updM (updM m id ⟨(m id).v, fun b => (m id).S b ∧ ¬ Sf i b⟩) s.rows.length ⟨u, Sf i⟩
  have hmL : m' s.rows.length = ⟨u, Sf i⟩ := updM_same ..
  have hmI : m' id = ⟨(m id).v, fun b => (m id).S b ∧ ¬ Sf i b⟩ := by
    show updM _ _ _ id = _
    rw [updM_ne _ _ (by omega), updM_same]
  have hmO : ∀ j, j ≠ id → j ≠ s.rows.length → m' j = m j := fun j h1 h2 => by
    show updM _ _ _ j = _
    rw [updM_ne _ _ h2, updM_ne _ _ h1]
  have hmv : ∀ j, j < s.rows.length → (m' j).v = (m j).v := fun j hj => by
    by_cases e : j = id
    · subst e; rw [hmI]
    · rw [hmO j e (by omega)]
  have hlive : ∀ j, liveAt (s.rows.set id (Row.tree R 1 nl (some (i, none)) xs) ++ [Row.own Rc ec nlc true ys]) j → j = s.rows.length ∨ (j < s.rows.length ∧ liveAt s.rows j) := by
    intro j ⟨q, hq, hv⟩
    rw [List.getElem?_append] at hq
    split at hq
    · rename_i hlt
      exact .inr ⟨by simpa using hlt, liveAt_set ⟨q, hq, hv⟩ hlid⟩
    · rename_i hge
      simp only [List.length_set] at hge hq
      rcases Nat.lt_or_ge (j - s.rows.length) 1 with h1 | h1
      · exact .inl (by omega)
      · rw [List.getElem?_eq_none (by simpa using h1)] at hq; cases hq
  have hsrc : ∀ j b, liveAt (s.rows.set id (Row.tree R 1 nl (some (i, none)) xs) ++ [Row.own Rc ec nlc true ys]) j → (m' j).S b → ∃ k, liveAt s.rows k ∧ (m k).S b ∧ ((j = s.rows.length ∧ k = id ∧ Sf i b) ∨ (j < s.rows.length ∧ k = j ∧ (j = id → ¬ Sf i b))) := by
    intro j b hl hb
    rcases hlive j hl with rfl | ⟨h1, h2⟩
    · rw [hmL] at hb
      exact ⟨id, hlid, hsub b hb, .inl ⟨rfl, rfl, hb⟩⟩
    · by_cases e : j = id
      · subst e
        rw [hmI] at hb
        exact ⟨j, h2, hb.1, .inr ⟨h1, rfl, fun _ => hb.2⟩⟩
      · rw [hmO j e (by omega)] at hb
        exact ⟨j, h2, hb, .inr ⟨h1, rfl, fun h => (e h).elim⟩⟩
  have hG : ∀ fr b, Gd C s.rows m w fr b → Gd C (s.rows.set id (Row.tree R 1 nl (some (i, none)) xs) ++ [Row.own Rc ec nlc true ys]) m' w fr b ∧ w.heap[b]? = w.heap[b]? := by
    rintro fr b ⟨h1, h2, h3⟩
    refine ⟨⟨h1, fun ⟨j, hj, hb⟩ => ?_, h3⟩, rfl⟩
    obtain ⟨k, h4, h5, _⟩ := hsrc j b hj hb
    exact h2 ⟨k, h4, h5⟩
  have hlen : (s.rows.set id (Row.tree R 1 nl (some (i, none)) xs) ++ [Row.own Rc ec nlc true ys]).length = s.rows.length + 1 := by simp
  refine next Rc a w ⟨m', ?_⟩
  exact {
    defs := hs.defs
    size := hs.size
    os := hs.os
    tape := hs.tape
    output := hs.output
    hsz := hs.hsz
    old := hs.old
    bor := fun j hj => by have := hs.nbl; rw [hmO j (by omega) (by omega)]; exact hs.bor j hj
    nbl := by have := hs.nbl; show C.nb ≤ List.length _; rw [hlen]; omega
    newb := fun j b hj hl hb => by
      obtain ⟨k, h1, h2, h3⟩ := hsrc j b hl hb
      exact hs.newb k b (by rcases h3 with ⟨_, rfl, _⟩ | ⟨_, rfl, _⟩ <;> omega) h1 h2
    dist := fun j1 j2 b h1 h2 hb1 hb2 => by
      obtain ⟨k1, a1, a2, a3⟩ := hsrc j1 b h1 hb1
      obtain ⟨k2, c1, c2, c3⟩ := hsrc j2 b h2 hb2
      have e := hs.dist k1 k2 b a1 c1 a2 c2
      rcases a3 with ⟨d1, d2, d3⟩ | ⟨d1, d2, d3⟩ <;> rcases c3 with ⟨f1, f2, f3⟩ | ⟨f1, f2, f3⟩
      · omega
      · exact (f3 (by omega) d3).elim
      · exact (d3 (by omega) f3).elim
      · omega
    rows := fun j q hq => by
      show RowOK w _ _ (List.length _) _ q
      rw [hlen]
      change (s.rows.set id (Row.tree R 1 nl (some (i, none)) xs) ++ [Row.own Rc ec nlc true ys])[j]? = some q at hq
      rw [List.getElem?_append] at hq
      split at hq
      · rename_i hlt
        rw [List.length_set] at hlt
        rw [List.getElem?_set] at hq
        split at hq
        · rename_i e
          subst e
          cases hq
          rw [hmI]
          exact htree _ _ _
        · rename_i e
          rw [hmO j (Ne.symm e) (by omega)]
          exact (hs.rows j q hq).monoV hG (by omega) hmv (fun _ _ _ => rfl)
      · rename_i hge
        simp only [List.length_set] at hge hq
        have e : j = s.rows.length := by
          rcases Nat.lt_or_ge (j - s.rows.length) 1 with h1 | h1
          · omega
          · rw [List.getElem?_eq_none (by simpa using h1)] at hq; cases hq
        subst e
        simp at hq
        subst hq
        rw [hmL]
        exact (hown _ _).monoV (G := fun _ _ => False) (m := m') (N := s.rows.length) (fun _ _ h => h.elim) (by omega) (fun _ _ => rfl) (fun _ _ _ => rfl)
    env := fun q => by
      show RS w _ _ (List.length _) (look ((u0, .ref s.rows.length) :: s.env) q) _
      rw [hlen, look_cons]
      split
      · rename_i e
        subst e
        rw [hev]
        have := RS.ref (w := w) (G := Gd C (s.rows.set id (Row.tree R 1 nl (some (i, none)) xs) ++ [Row.own Rc ec nlc true ys]) m' w) (m := m') (N := s.rows.length + 1) s.rows.length (by omega)
        rw [hmL] at this
        exact this
      · exact (hs.env q).monoV hG (by omega) hmv }
end
end Go.Vl

/-
  AN ABSTRACT MACHINE, 10: calls; one operation, whatever it is.
-/
import Derived.Test.YtkoiogfhbipmjaaAm9
namespace Go.Proofs.Ytkoiogfhbipmjaa
open Go Go.RowKit

def addF (nid : Nat) (fo : Option (TypeId × SL)) (u : List (Nat × Ob)) : List (Nat × Ob) :=
  match fo with
  | none => u
  | some (T, q) => (nid, .row T q) :: u
section
variable {P : Program} {c : Cx} {ρ : Rho} {S : St} {a : Act} {w : World}
theorem XRep.mono {W W' : Nat → Prop} (hW : ∀ b, b < w.heap.size → W' b → W b) : ∀ {args : List XV} {vs : List Value} {bs : List Nat}, XRep w W args vs bs → XRep w W' args vs bs
  | [], [], [], _ => trivial
  | .g x :: l, v :: vs, bs, h => ⟨h.1.mono hW fun _ _ _ => rfl, XRep.mono hW h.2⟩
  | .agg cs :: l, v :: vs, bs, ⟨⟨us, e, h1⟩, h2⟩ => ⟨⟨us, e, h1.mono hW fun _ _ _ => rfl⟩, XRep.mono hW h2⟩
  | .ref T cs :: l, v :: vs, b :: bs, ⟨⟨e, us, h0, h1⟩, h2⟩ => ⟨⟨e, us, h0, h1.mono hW fun _ _ _ => rfl⟩, XRep.mono hW h2⟩
  | [], [], _ :: _, h => h.elim
  | [], _ :: _, _, h => h.elim
  | .g _ :: _, [], _, h => h.elim
  | .agg _ :: _, [], _, h => h.elim
  | .ref _ _ :: _, [], _, h => h.elim
  | .ref _ _ :: _, _ :: _, [], h => h.elim
theorem call_step (h : SR c ρ S a w) {nid : Nat} (hn : S.ob nid = .no) {bs ids : List Nat} (hb : Blks ρ ids bs) (hnd : ids.Nodup) (hnid : nid ∉ ids) {args : List XV} {rs : List (List GV)} {u : List (Nat × Ob)} (hu : refU args rs ids = some u) {w' : World} (hf : Fr (· ∈ bs) w w')
    {fv : Option Value} (hfv : ∀ b, Fresh fv b → w.heap.size ≤ b ∧ b < w'.heap.size) (hr : RefRep w' (fun b => (Wr c.X ρ b ∧ b ∉ bs) ∨ b ∈ bs ∨ Fresh fv b) args rs bs) (fo : Option (TypeId × SL))
    (hfo : ∀ T q, fo = some (T, q) → ∃ vf ys, fv = some vf ∧ w'.ownsRow 0 T q.k vf q.len ys ∧ ∀ (j : Nat) (r : List GV), q.at j = some r → GRepL w' (fun b => (Wr c.X ρ b ∧ b ∉ bs) ∨ b ∈ bs ∨ Fresh fv b) r ((ys.drop (j * q.k)).take q.k)) :
    ∃ ρ', SR c ρ' ⟨S.t, addF nid fo u ++ S.o⟩ a w' ∧ (∀ b, Wr c.X ρ' b → (Wr c.X ρ b ∧ b ∉ bs) ∨ b ∈ bs ∨ Fresh fv b) ∧ ∀ T q v, fo = some (T, q) → fv = some v → Rep1 c.X ρ' (St.ob ⟨S.t, addF nid fo u ++ S.o⟩) w' (.row nid q.len) v := by
  obtain ⟨h1, h2⟩ := refU_sound (ρ := ρ) hu hb hnd hr
  have hold : ∀ b, Wr c.X ρ b → (Wr c.X ρ b ∧ b ∉ bs) ∨ b ∈ bs ∨ Fresh fv b := fun b hw => by
    by_cases hm : b ∈ bs
    · exact .inr (.inl hm)
    · exact .inl ⟨hw, hm⟩
  have hblk : ∀ b, (∀ id, id ∈ ids → (ρ id).block ≠ some b) → b ∉ bs := fun b hne hm => by
    obtain ⟨i, hi, e⟩ := Blks.mem hb hm
    exact hne i hi (by rw [e]; rfl)
  cases fo with
  | none =>
    simp only [addF]
    refine ⟨ρ, h.step (I := fun id => id ∈ ids) ⟨fun _ _ => rfl, fun _ _ _ hb => .inl hb, hf.os, hf.tape, hf.output, hf.size, fun b hlt hne => hf.block b hlt (hblk b hne)⟩ rfl (fun id hid => h1 id hid S.o) (fun id hid => ?_) (fun id hid => ?_) (fun id id' b _ _ e e' => h.ij id id' b e e'), hold, fun T q v e => by cases e⟩
    · obtain ⟨T, cs, b, us, h3, h4, -⟩ := h2 id hid
      rw [show St.ob ⟨S.t, u ++ S.o⟩ id = .box T cs from h3 S.o]
      have h5 := h.ob id
      revert h5
      cases S.ob id <;> simp [ObStep, inO, h4]
    · obtain ⟨T, cs, b, us, h3, h4, h5, h6⟩ := h2 id hid
      rw [show St.ob ⟨S.t, u ++ S.o⟩ id = .box T cs from h3 S.o]
      exact ⟨b, us, h4, h5, h6.mono (fun b _ hw => hold b hw) fun _ _ _ => rfl⟩
  | some Tq =>
    obtain ⟨T, q⟩ := Tq
    simp only [addF]
    obtain ⟨vf, ys, hvf, hown, hreps⟩ := hfo T q rfl
    have hno : ρ nid = .none := by have := h.ob nid; rw [hn] at this; exact this
    have hwr : ∀ b, Wr c.X (upd ρ nid (.cur vf)) b → (Wr c.X ρ b ∧ b ∉ bs) ∨ b ∈ bs ∨ Fresh fv b := fun b hw => by
      rcases hw with hx | ⟨j, hj⟩
      · exact hold b (.inl hx)
      · by_cases e : j = nid
        · subst e; rw [upd_self] at hj; exact .inr (.inr ⟨vf, hvf, hj⟩)
        · rw [upd_ne e] at hj; exact hold b (.inr ⟨j, hj⟩)
    have hobn : St.ob ⟨S.t, (nid, Ob.row T q) :: u ++ S.o⟩ nid = .row T q := ob_self
    have hobne : ∀ id, id ≠ nid → St.ob ⟨S.t, (nid, Ob.row T q) :: u ++ S.o⟩ id = look .no (u ++ S.o) id := fun id e => ob_ne e
    refine ⟨upd ρ nid (.cur vf), h.step (I := fun id => id ∈ ids ∨ id = nid) ⟨fun id hid => upd_ne fun e => hid (.inr e), fun id b hid hbl => ?_, hf.os, hf.tape, hf.output, hf.size, fun b hlt hne => hf.block b hlt (hblk b fun id hid => hne id (.inl hid))⟩ rfl (fun id hid => ?_) (fun id hid => ?_) (fun id hid => ?_) (fun id id' b hid hid' e e' => ?_), hwr, fun T' q' v e e' => ?_⟩
    · by_cases e : id = nid
      · subst e; rw [upd_self] at hbl; exact .inr (hfv b ⟨vf, hvf, hbl⟩)
      · rw [upd_ne e] at hbl; exact .inl hbl
    · rw [not_or] at hid
      rw [hobne id hid.2]
      exact h1 id hid.1 S.o
    · by_cases e : id = nid
      · subst e; rw [hn]; trivial
      · have hid' : id ∈ ids := hid.resolve_right e
        obtain ⟨T', cs, b, us, h3, h4, -⟩ := h2 id hid'
        rw [hobne id e, h3 S.o]
        have h5 := h.ob id
        revert h5
        cases S.ob id <;> simp [ObStep, inO, h4, upd_ne e]
    · by_cases e : id = nid
      · subst e
        rw [hobn]
        exact ⟨vf, ys, upd_self, hown, fun j r hj => (hreps j r hj).mono (fun b _ hw => hwr b hw) fun _ _ _ => rfl⟩
      · have hid' : id ∈ ids := hid.resolve_right e
        obtain ⟨T', cs, b, us, h3, h4, h5, h6⟩ := h2 id hid'
        rw [hobne id e, h3 S.o]
        exact ⟨b, us, (upd_ne e).trans h4, h5, h6.mono (fun b _ hw => hwr b hw) fun _ _ _ => rfl⟩
    · have key : ∀ id, id ≠ nid → (upd ρ nid (.cur vf) id).block = some b → (upd ρ nid (.cur vf) nid).block = some b → False := fun id e h3 h4 => by
        rw [upd_ne e] at h3
        rw [upd_self] at h4
        have := (h.lv id b h3).2
        have := (hfv b ⟨vf, hvf, h4⟩).1
        omega
      by_cases q1 : id = nid <;> by_cases q2 : id' = nid
      · exact q1.trans q2.symm
      · subst q1; exact (key id' q2 e' e).elim
      · subst q2; exact (key id q1 e e').elim
      · rw [upd_ne q1] at e; rw [upd_ne q2] at e'; exact h.ij id id' b e e'
    · cases e
      rw [hvf] at e'; cases e'
      simp only [Rep1]
      rw [hobn]
      exact ⟨Nat.le_refl _, fun _ => upd_self⟩
theorem res1 {W : Nat → Prop} {fv : Option Value} {o : Nat → Ob} {w' : World} {X : Nat → Prop} {nid : Nat} (hW : ∀ b, Wr X ρ b → W b) : ∀ {r : RV} {v : Value}, (∀ T q, (T, q) ∈ frOf [r] → ∀ v, fv = some v → Rep1 X ρ o w' (.row nid q.len) v) → R1 w' W fv r v → Rep1 X ρ o w' (rvA nid r) v
  | .g x, v, _, h => GRep.mono (w := w') h (fun b _ hw => hW b hw) fun _ _ _ => rfl
  | .agg cs, v, _, ⟨us, e, h⟩ => ⟨us, e, h.mono (fun b _ hw => hW b hw) fun _ _ _ => rfl⟩
  | .fr T q, v, hf, ⟨e, _⟩ => hf T q (by simp [frOf]) v e
theorem frOf_cons {r : RV} {rs : List RV} : frOf (r :: rs) = frOf [r] ++ frOf rs := by cases r <;> rfl
theorem res1l {W : Nat → Prop} {fv : Option Value} {o : Nat → Ob} {w' : World} {X : Nat → Prop} {nid : Nat} (hW : ∀ b, Wr X ρ b → W b) : ∀ {rs : List RV} {vs : List Value}, (∀ T q, (T, q) ∈ frOf rs → ∀ v, fv = some v → Rep1 X ρ o w' (.row nid q.len) v) → R1L w' W fv rs vs → Rep1L X ρ o w' (rs.map (rvA nid)) vs
  | [], [], _, _ => trivial
  | r :: rs, v :: vs, hf, h => ⟨res1 hW (fun T q hm => hf T q (by rw [frOf_cons]; exact List.mem_append_left _ hm)) h.1, res1l hW (fun T q hm => hf T q (by rw [frOf_cons]; exact List.mem_append_right _ hm)) h.2⟩
  | [], _ :: _, _, h => h.elim
  | _ :: _, [], _, h => h.elim
theorem resS {W : Nat → Prop} {fv : Option Value} {o : Nat → Ob} {w' : World} {X : Nat → Prop} {nid : Nat} (hW : ∀ b, Wr X ρ b → W b) {rs : List RV} {v : Value} (hf : ∀ T q, (T, q) ∈ frOf rs → ∀ v, fv = some v → Rep1 X ρ o w' (.row nid q.len) v) (h : ResRep w' W fv rs v) : Rep X ρ o w' (resT nid rs) v := by
  match rs with
  | [] => obtain ⟨vs, e, h1⟩ := h; exact ⟨vs, e, res1l (rs := []) hW hf h1⟩
  | [r] => exact res1 hW hf h
  | r :: r' :: l => obtain ⟨vs, e, h1⟩ := h; exact ⟨vs, e, res1l (rs := r :: r' :: l) hW hf h1⟩
/-- The slice that nobody else has. -/
theorem fr1 {W : Nat → Prop} {fv : Option Value} {w' : World} : ∀ {rs : List RV} {vs : List Value} {T : TypeId} {q : SL}, (T, q) ∈ frOf rs → R1L w' W fv rs vs → ∃ vf ys, fv = some vf ∧ w'.ownsRow 0 T q.k vf q.len ys ∧ ∀ (j : Nat) (r : List GV), q.at j = some r → GRepL w' W r ((ys.drop (j * q.k)).take q.k)
  | [], _, _, _, hm, _ => by cases hm
  | .g _ :: rs, _ :: vs, T, q, hm, h => fr1 (rs := rs) hm h.2
  | .agg _ :: rs, _ :: vs, T, q, hm, h => fr1 (rs := rs) hm h.2
  | .fr T' q' :: rs, v :: vs, T, q, hm, h => by
    rcases List.mem_cons.1 hm with e | hm
    · cases e
      obtain ⟨e, ys, h1, h2⟩ := h.1
      exact ⟨v, ys, e, h1, h2⟩
    · exact fr1 (rs := rs) hm h.2
  | _ :: _, [], _, _, _, h => h.elim
theorem frS {W : Nat → Prop} {fv : Option Value} {w' : World} {rs : List RV} {v : Value} {T : TypeId} {q : SL} (hm : (T, q) ∈ frOf rs) (h : ResRep w' W fv rs v) : ∃ vf ys, fv = some vf ∧ w'.ownsRow 0 T q.k vf q.len ys ∧ ∀ (j : Nat) (r : List GV), q.at j = some r → GRepL w' W r ((ys.drop (j * q.k)).take q.k) := by
  match rs with
  | [] => cases hm
  | [r] => exact fr1 (rs := [r]) (vs := [v]) hm ⟨h, trivial⟩
  | r :: r' :: l => obtain ⟨vs, e, h1⟩ := h; exact fr1 (rs := r :: r' :: l) hm h1
theorem callE_sound (V : Env P) (h : SR c ρ S a w) {f nid : Nat} (hn : S.ob nid = .no) {xs : List AV} {vs : List Value} (hx : Rep1L c.X ρ S.ob w xs vs) (hp : (callE V.G S.ob f nid xs).p) :
    (∃ fn, P.funcs[f]? = some fn ∧ (fn.name == "runtime.NumGoroutine") = false ∧ fn.body.isSome = true) ∧ Calls P f vs.toArray w fun e w' => ∃ v ρ', e = .returned v ∧ SR c ρ' ⟨S.t, (callE V.G S.ob f nid xs).u ++ S.o⟩ a w' ∧ Rep c.X ρ' (St.ob ⟨S.t, (callE V.G S.ob f nid xs).u ++ S.o⟩) w' (callE V.G S.ob f nid xs).x v := by
  unfold callE at hp ⊢
  split at hp
  · rename_i s args p ids hs ht
    obtain ⟨hsem, hfn⟩ := V.sound f s (find_mem hs)
    refine ⟨hfn, ?_⟩
    cases hb : nodupB ids && !memB nid ids with
    | false => rw [hb] at hp; exact hp.elim
    | true =>
      rw [hb] at hp
      simp only [hs, ht, hb, cond_true] at hp ⊢
      simp only [Bool.and_eq_true, Bool.not_eq_true'] at hb
      have hnd := nodupB_iff hb.1
      have hnid : nid ∉ ids := fun hm => by rw [memB_iff.2 hm] at hb; cases hb.2
      have go : ∀ {u : List (Nat × Ob)} (fo : Option (TypeId × SL)), refU args (s args).refs ids = some u → frOf (s args).r = fo.toList → p → (s args).p →
          Calls P f vs.toArray w fun e w' => ∃ v ρ', e = .returned v ∧ SR c ρ' ⟨S.t, addF nid fo u ++ S.o⟩ a w' ∧ Rep c.X ρ' (St.ob ⟨S.t, addF nid fo u ++ S.o⟩) w' (resT nid (s args).r) v := fun {u} fo hu hfo hp1 hp2 => by
        obtain ⟨bs, hbs, hxr⟩ := toXL_sound h (W := Wr c.X ρ) (fun _ _ h => h) ht hx hp1
        have hbn := Blks.nodup h hbs hnd
        have hin : ∀ b, b ∈ bs → Wr c.X ρ b ∧ b < w.heap.size := fun b hm => by
          obtain ⟨i, hi, e⟩ := Blks.mem hbs hm
          have e' : (ρ i).block = some b := by rw [e]; rfl
          exact ⟨.inr ⟨i, e'⟩, (h.lv i b e').2⟩
        refine (hsem args vs bs w (fun b => Wr c.X ρ b ∧ b ∉ bs) hbn (fun b hm => ⟨fun hh => hh.2 hm, (hin b hm).2⟩) (fun b hh => ?_) (hxr.mono fun b _ hh => ?_) hp2).mono ?_
        · rcases hh.1 with hx | ⟨j, hj⟩
          · exact Nat.lt_of_lt_of_le (h.xl b hx) h.fr.size
          · exact (h.lv j b hj).2
        · rcases hh with hh | hh
          · exact hh.1
          · exact (hin b hh).1
        · rintro e w' ⟨v, fv, rfl, hf, hfv, hrr, hres⟩
          obtain ⟨ρ', h1, h2, h3⟩ := call_step h hn hbs hnd hnid hu hf hfv hrr fo (fun T q e => frS (by rw [hfo, e]; simp) hres)
          refine ⟨v, ρ', rfl, h1, resS h2 (fun T q hm v' e' => ?_) hres⟩
          rw [hfo] at hm
          exact h3 T q v' (by cases fo <;> simp_all) e'
      split at hp
      · rename_i u hu
        try simp only [hu]
        split at hp
        · rename_i hfo
          try simp only [hfo]
          exact go none hu hfo hp.1 hp.2
        · rename_i T q hfo
          try simp only [hfo]
          exact go (some (T, q)) hu hfo hp.1 hp.2
        · exact hp.elim
      · exact hp.elim
  · exact hp.elim
end
end Go.Proofs.Ytkoiogfhbipmjaa

/-
  AN ABSTRACT MACHINE, 20: what a function does, of its evaluation: the law.
-/
import Derived.Test.YtkoiogfhbipmjaaAm19
namespace Go.Proofs.Ytkoiogfhbipmjaa
open Go Go.RowKit

section
variable {P : Program} {c : Cx} {ρ : Rho} {S T : St} {a : Act} {w : World}
theorem res_all (h : SR c ρ S a w) {lone : Bool} : ∀ {l : List ResultVar} {rs : List RV}, resOk P S lone l rs → (frOf rs).length ≤ 1 → ∃ vs : List Value,
    (l.mapM (resM a.tmps)).run P w = .ok vs w ∧ vs.length = rs.length ∧
    (∀ fv, (lone = true → fv = none) → (∀ b, Fresh fv b → ∃ id, (ρ id).block = some b) → (frOf rs ≠ [] → fv = frv rs vs) → R1L w (fun b => c.X b ∨ b ∈ ([] : List Nat) ∨ Fresh fv b) fv rs vs) ∧
    ∀ v, frv rs vs = some v → ∀ b, v.ownBlock = some b → ∃ id, (ρ id).block = some b
  | [], [], _, _ => ⟨[], rfl, rfl, fun _ _ _ _ => trivial, fun v hv => by cases hv⟩
  | x :: l, r :: rs, ⟨⟨hp, hr⟩, hrest⟩, hlen => by
    have hlen' : (frOf rs).length ≤ 1 := by rw [frOf_cons, List.length_append] at hlen; omega
    obtain ⟨vs, h1, h2, h3, h4⟩ := res_all h hrest hlen'
    obtain ⟨v, hv, hx⟩ := retV_sound h x hp
    refine ⟨v :: vs, ?_, by simp [h2], fun fv hl hW hfr => ⟨rv_sound h hr hx (fun T s e => ?_) hW hl, h3 fv hl hW fun hne => ?_⟩, fun u hu b hb => ?_⟩
    · simp only [List.mapM_cons, Sem.run_bind, hv, Result.andThen_ok, h1, Sem.run_pure]
    · subst e
      rw [hfr (by simp [frOf])]
      rfl
    · cases r with
      | g y => exact hfr hne
      | agg cs => exact hfr hne
      | fr T s =>
        exfalso
        simp only [frOf, List.length_cons] at hlen
        exact hne (List.eq_nil_of_length_eq_zero (by omega))
    · cases r with
      | g y => exact h4 u hu b hb
      | agg cs => exact h4 u hu b hb
      | fr T s => cases hu; exact fr_block h hr hx hb
  | [], _ :: _, h', _ => h'.elim
  | _ :: _, [], h', _ => h'.elim
theorem noRef_bs : ∀ {args : List XV} {W : Nat → Prop} {vs : List Value} {bs : List Nat}, noRef args = true → XRep w W args vs bs → bs = [] ∧ vs.length = args.length
  | [], _, [], [], _, _ => ⟨rfl, rfl⟩
  | .g _ :: l, W, v :: vs, bs, h, hx => by obtain ⟨e1, e2⟩ := noRef_bs (args := l) h hx.2; exact ⟨e1, by simp [e2]⟩
  | .agg _ :: l, W, v :: vs, bs, h, hx => by obtain ⟨e1, e2⟩ := noRef_bs (args := l) h hx.2; exact ⟨e1, by simp [e2]⟩
  | .ref _ _ :: _, _, _, _, h, _ => by cases h
  | .g _ :: _, _, [], _, _, hx => hx.elim
  | .agg _ :: _, _, [], _, _, hx => hx.elim
  | [], _, _ :: _, _, _, hx => hx.elim
  | [], _, [], _ :: _, _, hx => hx.elim
theorem ent_rep {X : Nat → Prop} {ob : Nat → Ob} : ∀ {args : List XV} {vs : List Value} {k i : Nat} {u : Value}, noRef args = true → XRep w (Wr X ρ) args vs [] → (k ≤ i → vs[i - k]? = none ∨ vs[i - k]? = some u) → Rep X ρ ob w (look (.one .any) (entT args k) i) u
  | [], _, _, _, _, _, _, _ => trivial
  | .ref _ _ :: _, _, _, _, _, h, _, _ => by cases h
  | .g x :: l, v :: vs, k, i, u, h, hx, hu => by
    simp only [entT, look]
    cases hb : Nat.beq k i with
    | true =>
      have e := Nat.eq_of_beq_eq_true hb
      subst e
      have := hu (Nat.le_refl _)
      simp at this
      subst this
      exact hx.1
    | false =>
      have hne : k ≠ i := fun e => by rw [e, Nat.beq_refl] at hb; cases hb
      refine ent_rep (args := l) h hx.2 fun hle => ?_
      have := hu (by omega)
      rwa [show i - k = (i - (k + 1)) + 1 by omega, List.getElem?_cons_succ] at this
  | .agg cs :: l, v :: vs, k, i, u, h, hx, hu => by
    simp only [entT, look]
    cases hb : Nat.beq k i with
    | true =>
      have e := Nat.eq_of_beq_eq_true hb
      subst e
      have := hu (Nat.le_refl _)
      simp at this
      subst this
      exact hx.1
    | false =>
      have hne : k ≠ i := fun e => by rw [e, Nat.beq_refl] at hb; cases hb
      refine ent_rep (args := l) h hx.2 fun hle => ?_
      have := hu (by omega)
      rwa [show i - k = (i - (k + 1)) + 1 by omega, List.getElem?_cons_succ] at this
  | .g _ :: _, [], _, _, _, _, hx, _ => hx.elim
  | .agg _ :: _, [], _, _, _, _, hx, _ => hx.elim
theorem refNil {W : Nat → Prop} : ∀ {args : List XV}, noRef args = true → RefRep w W args [] []
  | [], _ => trivial
  | .g _ :: l, h => refNil (args := l) h
  | .agg _ :: l, h => refNil (args := l) h
  | .ref _ _ :: _, h => by cases h
theorem resRep_of {W : Nat → Prop} {fv : Option Value} {rs : List RV} {us : List Value} (hl : R1L w W fv rs us) (r2 : us.length = rs.length) : ResRep w W fv rs (if h : us.length = 1 then us[0] else .tuple us.toArray) := by
  cases rs with
  | nil =>
    cases us with
    | nil => exact ⟨[], rfl, trivial⟩
    | cons _ _ => exact hl.elim
  | cons r rs =>
    cases rs with
    | nil =>
      cases us with
      | nil => exact hl.elim
      | cons u us' =>
        cases us' with
        | nil => exact hl.1
        | cons _ _ => exact hl.2.elim
    | cons r' rs' =>
      rw [dif_neg (by simp at r2; omega)]
      exact ⟨us, rfl, hl⟩
/-- THE LAW: what a function's evaluation comes to is what it does. -/
theorem callsem_of (V : Env P) (hm : P.follows .mixedOrders = true) {f : FuncId} {fn : Func} {code : Code} {spec : Spec} (hf : P.funcs[f]? = some fn) (hb : fn.body = some code)
    (h : ∀ args, (spec args).p → ∃ L : List (Nat × LTr), noRef args = true ∧ args.length ≤ fn.ntmps ∧ (spec args).refs = [] ∧ (frOf (spec args).r).length ≤ 1 ∧
      awp V fn.ntmps L code 0 ⟨entT args 0, []⟩ fun e _ S => match e with
        | .exi _ => False
        | _ => resOk P S (frOf (spec args).r).isEmpty fn.results.toList (spec args).r) : CallSem P f spec := by
  intro args vs bs w X hbn hbs hX hx hp
  obtain ⟨L, h1, h2, h3, h4, h5⟩ := h args hp
  obtain ⟨rfl, hlen⟩ := noRef_bs h1 hx
  refine calls_of_wp hf hb ?_
  let c : Cx := ⟨X, fun _ => False, w, fn.ntmps⟩
  have hW : ∀ b, Wr X (fun _ => Lo.none) b → X b ∨ b ∈ ([] : List Nat) := fun b hb => by
    rcases hb with hb | ⟨i, hi⟩
    · exact .inl hb
    · cases hi
  have hx' := hx.mono (W' := Wr X fun _ => Lo.none) fun b _ hb => hW b hb
  have hs0 : SR c (fun _ => Lo.none) ⟨entT args 0, []⟩ { tmps := vs.toArray ++ Array.replicate (fn.ntmps - vs.toArray.size) undef, defers := [] } w := by
    refine ⟨fun i => ?_, ?_, rfl, fun id => rfl, (fun id b hb => by cases hb), (fun id id' b hb _ => by cases hb), Fr.refl _ _, (fun id b hb => by cases hb), hX⟩
    · refine ent_rep h1 hx' fun _ => ?_
      rw [Nat.sub_zero]
      cases hq : vs[i]? with
      | none => exact .inl rfl
      | some v =>
        right
        have hi : i < vs.length := (List.getElem?_eq_some_iff.1 hq).1
        rw [Array.getD_eq_getD_getElem?, Array.getElem?_append_left (by simpa using hi)]
        simp [hq]
    · show _ = fn.ntmps
      simp; omega
  refine awp_sound V hm code (c := c) hs0 (fun id _ => rfl) h5 fun e n' ρ' S' a' w' q1 q2 q3 => ?_
  have fin : resOk P S' (frOf (spec args).r).isEmpty fn.results.toList (spec args).r → a'.defers = [] ∧ ∃ v, (results fn a'.tmps).run P w' = .ok v w' ∧ ∃ u fv, Ending.returned v = .returned u ∧ Fr (· ∈ ([] : List Nat)) w w' ∧ (∀ b, Fresh fv b → w.heap.size ≤ b ∧ b < w'.heap.size) ∧ RefRep w' (fun b => X b ∨ b ∈ ([] : List Nat) ∨ Fresh fv b) args (spec args).refs [] ∧ ResRep w' (fun b => X b ∨ b ∈ ([] : List Nat) ∨ Fresh fv b) fv (spec args).r u := fun hres => by
    obtain ⟨us, r1, r2, r3, r4⟩ := res_all q1 hres h4
    have hfr : ∀ b, Fresh (frv (spec args).r us) b → ∃ id, (ρ' id).block = some b := fun b ⟨v, hv, hvb⟩ => r4 v hv b hvb
    have hl := r3 (frv (spec args).r us) (fun he => frv_none (List.isEmpty_iff.1 he)) hfr fun _ => rfl
    have hrun : (results fn a'.tmps).run P w' = .ok (if h : us.length = 1 then us[0] else .tuple us.toArray) w' := by
      show Sem.run P (do let vs ← fn.results.mapM (resM a'.tmps); pure (if h : vs.size = 1 then vs[0] else .tuple vs)) w' = _
      rw [Array.mapM_eq_mapM_toList]
      simp only [Sem.run_bind, map_eq_pure_bind, bind_assoc]
      rw [r1]
      simp
    refine ⟨q1.df, _, hrun, _, frv (spec args).r us, rfl, ⟨q1.fr.os, q1.fr.tape, q1.fr.output, q1.fr.size, fun k hk _ => q1.fr.block k hk id⟩, fun b hb => ?_, ?_, ?_⟩
    · obtain ⟨id, hid⟩ := hfr b hb
      have := q1.lv id b hid
      exact ⟨this.1.resolve_right (fun hh : False => hh), this.2⟩
    · rw [h3]; exact refNil h1
    · exact resRep_of hl r2
  cases e with
  | nor => exact fin q3
  | ret => exact fin q3
  | exi id => exact q3.elim
end
end Go.Proofs.Ytkoiogfhbipmjaa

/-
  AN ABSTRACT MACHINE, 17: code, loops, and what a function does.
-/
import Derived.Test.YtkoiogfhbipmjaaAm16
namespace Go.Proofs.Ytkoiogfhbipmjaa
open Go Go.RowKit

/-- How code ends. -/
inductive Ex where
  | nor
  | exi (id : Nat)
  | ret
/-- What holds whenever a loop begins a round: of a hidden variable i, the state st i. -/
structure LoopI where
  ι : Type
  ok : ι → Prop
  st : ι → St
  μ : ι → Nat
  nx : Nat
/-- In T each object is S's own, by another name (m: T's name, S's name), and each temporary is S's. -/
def renA (m : List (Nat × Nat)) : AV → AV
  | .ptr id off => .ptr ((find m id).getD 0) off
  | .row id n => .row ((find m id).getD 0) n
  | .rp id n j d => .rp ((find m id).getD 0) n j d
  | x => x
def renOk (m : List (Nat × Nat)) (x : AV) : Bool := x.ids.all fun id => (find m id).isSome
def renT (m : List (Nat × Nat)) : TV → TV
  | .one x => .one (renA m x)
  | .tup xs => .tup (xs.map (renA m))
def renTOk (m : List (Nat × Nat)) : TV → Bool
  | .one x => renOk m x
  | .tup xs => xs.all (renOk m)
def leT (m : List (Nat × Nat)) (S : St) : List (Nat × TV) → Prop
  | [] => True
  | (t, x) :: l => (renTOk m x = true ∧ S.tmp t = renT m x) ∧ leT m S l
def leO (S T : St) : List (Nat × Nat) → Prop
  | [] => True
  | (i, j) :: m => T.ob i = S.ob j ∧ leO S T m
def noDup (l : List Nat) : Bool := nodupB l
/-- What is known of S is known of T. -/
def Le (m : List (Nat × Nat)) (nx : Nat) (S T : St) : Prop :=
  (nodupB (m.map (·.1)) && nodupB (m.map (·.2)) && (T.o.map (·.1)).all (fun i => (find m i).isSome) && (m.map (·.1)).all (fun i => Nat.blt i nx)) = true ∧ leT m S T.t ∧ leO S T m
section
variable {P : Program} {c : Cx} {ρ : Rho} {S T : St} {a : Act} {w : World} {Q : Exit → Act → World → Prop}
theorem look_none {α : Type} {d : α} {id : Nat} {l : List (Nat × α)} (h : id ∉ l.map (·.1)) : look d l id = d := by
  have := look_miss (d := d) (o := []) h
  simpa [look] using this
theorem leO_at {m : List (Nat × Nat)} (h : leO S T m) {i j : Nat} (hf : find m i = some j) : T.ob i = S.ob j := by
  induction m with
  | nil => cases hf
  | cons p m ih =>
    obtain ⟨i', j'⟩ := p
    unfold find at hf
    cases hb : Nat.beq i' i with
    | true =>
      rw [hb] at hf
      cases hf
      rw [← Nat.eq_of_beq_eq_true hb]
      exact h.1
    | false => rw [hb] at hf; exact ih h.2 hf
theorem leT_at {m : List (Nat × Nat)} {l : List (Nat × TV)} (h : leT m S l) (i : Nat) : look (.one .any) l i = .one .any ∨ (renTOk m (look (.one .any) l i) = true ∧ S.tmp i = renT m (look (.one .any) l i)) := by
  induction l with
  | nil => exact .inl rfl
  | cons p l ih =>
    obtain ⟨t, x⟩ := p
    simp only [look]
    cases hb : Nat.beq t i with
    | true =>
      simp only [cond_true]
      rw [← Nat.eq_of_beq_eq_true hb]
      exact .inr h.1
    | false => exact ih h.2
theorem find_inj {m : List (Nat × Nat)} (h : nodupB (m.map (·.2)) = true) {i i' j : Nat} (h1 : find m i = some j) (h2 : find m i' = some j) : i = i' := by
  induction m with
  | nil => cases h1
  | cons p m ih =>
    obtain ⟨i0, j0⟩ := p
    have hn := nodupB_iff h
    rw [List.map_cons, List.nodup_cons] at hn
    have hm : nodupB (m.map (·.2)) = true := by
      simp only [List.map_cons, nodupB, Bool.and_eq_true] at h; exact h.2
    have hin : ∀ {i : Nat}, find m i = some j0 → False := fun {i} hf => hn.1 (List.mem_map.2 ⟨(i, j0), find_mem hf, rfl⟩)
    unfold find at h1 h2
    cases hb1 : Nat.beq i0 i <;> cases hb2 : Nat.beq i0 i' <;> rw [hb1] at h1 <;> rw [hb2] at h2
    · exact ih hm h1 h2
    · cases h2; exact (hin h1).elim
    · cases h1; exact (hin h2).elim
    · rw [← Nat.eq_of_beq_eq_true hb1, ← Nat.eq_of_beq_eq_true hb2]
theorem SR.le (h : SR c ρ S a w) {m : List (Nat × Nat)} {nx : Nat} (hle : Le m nx S T) : ∃ ρ', SR c ρ' T a w := by
  obtain ⟨hb, ht, ho⟩ := hle
  simp only [Bool.and_eq_true] at hb
  obtain ⟨⟨⟨b1, b2⟩, b3⟩, b4⟩ := hb
  let ρ' : Rho := fun id => match find m id with
    | some j => ρ j
    | none => .none
  have hρ : ∀ {i j : Nat}, find m i = some j → ρ' i = ρ j := fun {i j} hf => by show (match find m i with | some j => ρ j | none => .none) = _; rw [hf]
  have hρn : ∀ {i : Nat}, find m i = none → ρ' i = .none := fun {i} hf => by show (match find m i with | some j => ρ j | none => .none) = _; rw [hf]
  have hblk : ∀ i b, (ρ' i).block = some b → ∃ j, find m i = some j ∧ (ρ j).block = some b := fun i b hb => by
    cases hf : find m i with
    | none => rw [hρn hf] at hb; cases hb
    | some j => rw [hρ hf] at hb; exact ⟨j, rfl, hb⟩
  have hW : ∀ b, Wr c.X ρ' b → Wr c.X ρ b := fun b hw => by
    rcases hw with hx | ⟨i, hi⟩
    · exact .inl hx
    · obtain ⟨j, -, hj⟩ := hblk i b hi; exact .inr ⟨j, hj⟩
  have mg : ∀ {g : GV} {v : Value}, GRep w (Wr c.X ρ) g v → GRep w (Wr c.X ρ') g v := fun hg => hg.mono (fun b _ hw => hW b hw) fun _ _ _ => rfl
  have ml : ∀ {g : List GV} {v : List Value}, GRepL w (Wr c.X ρ) g v → GRepL w (Wr c.X ρ') g v := fun hg => hg.mono (fun b _ hw => hW b hw) fun _ _ _ => rfl
  have hnoT : ∀ id, find m id = none → T.ob id = .no := fun id hf => by
    refine look_none fun hm => ?_
    have := List.all_eq_true.1 b3 id hm
    rw [hf] at this
    cases this
  have r1 : ∀ {x : AV} {v : Value}, renOk m x = true → Rep1 c.X ρ S.ob w (renA m x) v → Rep1 c.X ρ' T.ob w x v := fun {x v} hok hx => by
    cases x with
    | any => trivial
    | g x => exact mg hx
    | agg cs => obtain ⟨vs, e, h1⟩ := hx; exact ⟨vs, e, ml h1⟩
    | el cs =>
      obtain ⟨b, off, vs, e, h1, h2⟩ := hx
      exact ⟨b, off, vs, e, ml h1, fun i u hu => ⟨fun hw => (h2 i u hu).1 (hW b hw), (h2 i u hu).2⟩⟩
    | ptr id off =>
      have hs : (find m id).isSome = true := List.all_eq_true.1 hok id (List.mem_singleton.2 rfl)
      obtain ⟨j, hj⟩ := Option.isSome_iff_exists.1 hs
      simp only [renA, hj, Option.getD_some, Rep1] at hx ⊢
      rw [leO_at ho hj, hρ hj]
      exact hx
    | row id n =>
      have hs : (find m id).isSome = true := List.all_eq_true.1 hok id (List.mem_singleton.2 rfl)
      obtain ⟨j, hj⟩ := Option.isSome_iff_exists.1 hs
      simp only [renA, hj, Option.getD_some, Rep1] at hx ⊢
      rw [leO_at ho hj, hρ hj]
      revert hx
      cases S.ob j <;> intro hx <;> first | exact hx | exact fun hn => mg (hx hn)
    | rp id n k d =>
      have hs : (find m id).isSome = true := List.all_eq_true.1 hok id (List.mem_singleton.2 rfl)
      obtain ⟨j, hj⟩ := Option.isSome_iff_exists.1 hs
      simp only [renA, hj, Option.getD_some, Rep1] at hx ⊢
      rw [leO_at ho hj, hρ hj]
      exact hx
  have rl : ∀ {xs : List AV} {vs : List Value}, xs.all (renOk m) = true → Rep1L c.X ρ S.ob w (xs.map (renA m)) vs → Rep1L c.X ρ' T.ob w xs vs := fun {xs} => by
    induction xs with
    | nil => intro vs _ hx; cases vs <;> exact hx
    | cons x xs ih =>
      intro vs hok hx
      rw [List.all_cons, Bool.and_eq_true] at hok
      cases vs with
      | nil => exact hx.elim
      | cons v vs => exact ⟨r1 hok.1 hx.1, ih hok.2 hx.2⟩
  refine ⟨ρ', fun i => ?_, h.sz, h.df, fun id => ?_, fun id b hb => ?_, fun id id' b hb hb' => ?_, h.fr, fun id b hb => ?_, h.xl⟩
  · rcases leT_at ht i with e | ⟨e1, e2⟩
    · rw [show T.tmp i = .one .any from e]; trivial
    · have h1 := h.tm i
      rw [e2] at h1
      show Rep c.X ρ' T.ob w (look (.one .any) T.t i) _
      revert e1 h1
      cases look (TV.one .any) T.t i with
      | one x => exact fun e1 h1 => r1 e1 h1
      | tup xs => exact fun e1 ⟨vs, e, h1⟩ => ⟨vs, e, rl e1 h1⟩
  · cases hf : find m id with
    | none => rw [hnoT id hf]; exact hρn hf
    | some j =>
      rw [leO_at ho hf]
      have h1 := h.ob j
      revert h1
      cases S.ob j <;> simp only [inO, hρ hf] <;> intro h1
      · exact h1
      · exact h1
      · obtain ⟨b, vs, e, h2, h3⟩ := h1; exact ⟨b, vs, e, h2, ml h3⟩
      · obtain ⟨v, xs, e, h2, h3⟩ := h1; exact ⟨v, xs, e, h2, fun j r hj => ml (h3 j r hj)⟩
      · exact h1
  · obtain ⟨j, -, hj⟩ := hblk id b hb; exact h.lv j b hj
  · obtain ⟨j, hj1, hj⟩ := hblk id b hb
    obtain ⟨j', hj1', hj'⟩ := hblk id' b hb'
    have := h.ij j j' b hj hj'
    subst this
    exact find_inj b2 hj1 hj1'
  · obtain ⟨j, -, hj⟩ := hblk id b hb; exact h.xo j b hj
end
end Go.Proofs.Ytkoiogfhbipmjaa

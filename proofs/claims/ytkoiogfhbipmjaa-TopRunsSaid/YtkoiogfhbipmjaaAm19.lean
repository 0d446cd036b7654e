/-
  AN ABSTRACT MACHINE, 19: what a function does, of its evaluation.
-/
import Derived.Test.YtkoiogfhbipmjaaAm18
namespace Go.Proofs.Ytkoiogfhbipmjaa
open Go Go.RowKit

def entT : List XV → Nat → List (Nat × TV)
  | [], _ => []
  | .g x :: l, i => (i, .one (.g x)) :: entT l (i + 1)
  | .agg cs :: l, i => (i, .one (.agg cs)) :: entT l (i + 1)
  | .ref _ _ :: l, i => entT l (i + 1)
def noRef : List XV → Bool
  | [] => true
  | .ref _ _ :: _ => false
  | _ :: l => noRef l
/-- One value for another: nil for a slice that has nothing. -/
def gOk : GV → GV → Prop
  | .v (.slice none 0 0), .sl s => s.len = 0
  | .v x, .v y => x = y
  | .sl s, .sl t => s = t
  | _, _ => False
def glOk : List GV → List GV → Prop
  | [], [] => True
  | x :: l, y :: m => gOk x y ∧ glOk l m
  | _, _ => False
/-- This is what was to be answered. -/
def rvOk (ob : Nat → Ob) (lone : Bool) : AV → RV → Prop
  | .g x, .g y => gOk x y
  | .agg cs, .agg ds => glOk cs ds
  | .row id n, .fr T s => match ob id with
    | .row T' s' => T = T' ∧ s = s' ∧ n = s.len
    | _ => False
  | .row id n, .g (.sl s) => match ob id with
    | .row _ s' => lone = true ∧ s = s' ∧ n = s.len
    | .fz s' => s = s' ∧ n = s.len
    | _ => False
  | .g (.v (.slice none 0 0)), .fr _ s => s.len = 0
  | _, _ => False
def retV (P : Program) (S : St) : ResultVar → Out
  | .tmp t => ⟨S.tmp t, [], True⟩
  | .cell t ty => loadE P S.ob ty (one (S.tmp t))
def resOk (P : Program) (S : St) (lone : Bool) : List ResultVar → List RV → Prop
  | [], [] => True
  | x :: l, r :: rs => ((retV P S x).p ∧ rvOk S.ob lone (one (retV P S x).x) r) ∧ resOk P S lone l rs
  | _, _ => False
section
variable {P : Program} {c : Cx} {ρ : Rho} {S T : St} {a : Act} {w : World}
theorem gOk_sound {W : Nat → Prop} {x y : GV} {v : Value} (h : gOk x y) (hx : GRep w W x v) : GRep w W y v := by
  unfold gOk at h
  split at h
  · rename_i s
    cases hx
    have e : Value.slice none 0 0 = .slice none s.len 0 := by rw [h]
    rw [e]
    exact .sl s none 0 (fun _ _ => undef) (by omega) (fun _ => rfl) (fun j r d g hr _ => by have := (SL.at_lt hr).1; omega) fun j r d g hr _ => by have := (SL.at_lt hr).1; omega
  · cases h; exact hx
  · cases h; exact hx
  · exact h.elim
theorem glOk_sound {W : Nat → Prop} : ∀ {xs ys : List GV} {vs : List Value}, glOk xs ys → GRepL w W xs vs → GRepL w W ys vs
  | [], [], _, _, h => h
  | x :: xs, y :: ys, v :: vs, h, hx => ⟨gOk_sound h.1 hx.1, glOk_sound h.2 hx.2⟩
  | x :: xs, y :: ys, [], _, hx => hx.elim
  | [], _ :: _, _, h, _ => h.elim
  | _ :: _, [], _, h, _ => h.elim
def frv : List RV → List Value → Option Value
  | .fr _ _ :: _, v :: _ => some v
  | _ :: l, _ :: vs => frv l vs
  | _, _ => none
theorem frv_none : ∀ {rs : List RV} {vs : List Value}, frOf rs = [] → frv rs vs = none
  | [], _, _ => by cases ‹List Value› <;> rfl
  | .g _ :: rs, [], _ => rfl
  | .agg _ :: rs, [], _ => rfl
  | .g _ :: rs, v :: vs, h => frv_none (rs := rs) h
  | .agg _ :: rs, v :: vs, h => frv_none (rs := rs) h
  | .fr _ _ :: _, _, h => by cases h
def resM (tmps : Array Value) : ResultVar → Sem Value
  | .tmp t => pure (tmps.getD t undef)
  | .cell t ty => do loadVar ty (← asAddr (tmps.getD t undef))
/-- What the results are. -/
theorem retV_sound (h : SR c ρ S a w) (x : ResultVar) (hp : (retV P S x).p) : ∃ v, (resM a.tmps x).run P w = .ok v w ∧ Rep1 c.X ρ S.ob w (one (retV P S x).x) v := by
  cases x with
  | tmp t => exact ⟨_, rfl, one_sound (h.tm t)⟩
  | cell t ty =>
    obtain ⟨-, v, hr, hv⟩ := loadE_sound (P := P) (t := ty) h (one_sound (h.tm t)) hp
    refine ⟨v, ?_, one_sound hv⟩
    unfold Instr.loadAt at hr
    show Sem.run P (do loadVar ty (← asAddr (a.tmps.getD t undef))) w = _
    rw [Sem.run_bind] at hr ⊢
    cases hq : a.tmps.getD t undef <;> rw [hq] at hr <;> simp [Instr.sureAddr] at hr
    rename_i ad
    cases ad with
    | none => simp [Instr.sureAddr, stuck] at hr
    | some ad => simpa [asAddr, Instr.sureAddr] using hr
theorem rv_sound (h : SR c ρ S a w) {lone : Bool} {fv : Option Value} {x : AV} {r : RV} {v : Value} (hr : rvOk S.ob lone x r) (hx : Rep1 c.X ρ S.ob w x v) (hfv : ∀ T s, r = .fr T s → fv = some v) (hW : ∀ b, Fresh fv b → ∃ id, (ρ id).block = some b) (hl : lone = true → fv = none) : R1 w (fun b => c.X b ∨ b ∈ ([] : List Nat) ∨ Fresh fv b) fv r v := by
  have hsub : ∀ b, (c.X b ∨ b ∈ ([] : List Nat) ∨ Fresh fv b) → Wr c.X ρ b := fun b hb => by
    rcases hb with hb | hb | hb
    · exact .inl hb
    · cases hb
    · exact .inr (hW b hb)
  unfold rvOk at hr
  split at hr
  · exact gOk_sound hr (GRep.mono (w := w) hx (fun b _ hb => hsub b hb) fun _ _ _ => rfl)
  · obtain ⟨us, e, hu⟩ := hx
    exact ⟨us, e, glOk_sound hr (hu.mono (fun b _ hb => hsub b hb) fun _ _ _ => rfl)⟩
  · rename_i id n T s
    split at hr
    · rename_i T' s' ho
      obtain ⟨rfl, rfl, hn⟩ := hr
      simp only [Rep1, ho] at hx
      have hv := hx.2 hn
      obtain ⟨v', xs, e, h1, h2⟩ := row_at h ho
      rw [hv] at e; cases e
      exact ⟨hfv _ _ rfl, xs, h1, fun j r hj => (h2 j r hj).mono (fun b _ hb => hsub b hb) fun _ _ _ => rfl⟩
    · exact hr.elim
  · rename_i id n s
    split at hr
    · rename_i T' s' ho
      obtain ⟨hlone, rfl, hn⟩ := hr
      simp only [Rep1, ho] at hx
      have hv := hx.2 hn
      have hfn := hl hlone
      refine row_g (X := c.X) (by have := h.ob id; rw [ho] at this; exact this) hv (fun b _ hb => hsub b hb) fun b hb => ?_
      rintro (hxb | hxb | ⟨u, hu, -⟩)
      · exact h.xo id b (by rw [hv]; exact hb) hxb
      · cases hxb
      · rw [hfn] at hu; cases hu
    · rename_i s' ho
      obtain ⟨rfl, hn⟩ := hr
      simp only [Rep1, ho] at hx
      exact GRep.mono (w := w) (hx hn) (fun b _ hb => hsub b hb) fun _ _ _ => rfl
    · exact hr.elim
  · rename_i T s
    cases (show GRep w _ _ _ from hx)
    exact ⟨hfv _ _ rfl, [], ⟨by simp [hr], .inl ⟨rfl, hr⟩⟩, fun j r hj => by have := (SL.at_lt hj).1; omega⟩
  · exact hr.elim
theorem fr_block (h : SR c ρ S a w) {lone : Bool} {x : AV} {T : TypeId} {s : SL} {v : Value} (hr : rvOk S.ob lone x (.fr T s)) (hx : Rep1 c.X ρ S.ob w x v) {b : Nat} (hb : v.ownBlock = some b) : ∃ id, (ρ id).block = some b := by
  unfold rvOk at hr
  split at hr <;> try (first | cases ‹_› | exact hr.elim)
  all_goals try contradiction
  · rename_i id n T' s' heq
    cases heq
    split at hr
    · rename_i T2 s2 ho
      obtain ⟨rfl, rfl, hn⟩ := hr
      simp only [Rep1, ho] at hx
      exact ⟨id, by rw [hx.2 hn]; exact hb⟩
    · exact hr.elim
  · cases (show GRep w _ _ _ from hx)
    cases hb
end
end Go.Proofs.Ytkoiogfhbipmjaa

/-
  AN ABSTRACT MACHINE, 14: a region whose order is drawn: reckoned in one order; any two operations that touch the same thing, one of them writing, are bound to that order.
-/
import Derived.Test.YtkoiogfhbipmjaaAm13
import Derived.Orders
namespace Go.Proofs.Ytkoiogfhbipmjaa
open Go Go.RowKit

structure Tr where
  o : Oper
  v : TV
  u : List (Nat × Ob)
  rd : List Nat
  ids : List Nat
def Tr.app (x : Tr) (S : St) : St := ⟨match x.o.dst with
  | some d => (d, x.v) :: S.t
  | none => S.t, x.u ++ S.o⟩
def Eqv (S S' : St) : Prop := (∀ i, S.tmp i = S'.tmp i) ∧ ∀ id, S.ob id = S'.ob id
theorem Eqv.refl (S : St) : Eqv S S := ⟨fun _ => rfl, fun _ => rfl⟩
theorem Eqv.trans {A B C : St} (h : Eqv A B) (k : Eqv B C) : Eqv A C := ⟨fun i => (h.1 i).trans (k.1 i), fun i => (h.2 i).trans (k.2 i)⟩
theorem Eqv.symm {A B : St} (h : Eqv A B) : Eqv B A := ⟨fun i => (h.1 i).symm, fun i => (h.2 i).symm⟩
def wrs (u : List (Nat × Ob)) : List Nat := u.map (·.1)
theorem look_hit {α : Type} {d : α} {id : Nat} : ∀ {u o o' : List (Nat × α)}, id ∈ u.map (·.1) → look d (u ++ o) id = look d (u ++ o') id
  | (i, x) :: u, o, o', h => by
    show look d ((i, x) :: (u ++ o)) id = look d ((i, x) :: (u ++ o')) id
    simp only [look]
    cases hq : Nat.beq i id with
    | true => rfl
    | false =>
      simp only [cond_false]
      refine look_hit ?_
      rcases List.mem_cons.1 h with e | h
      · exfalso
        have e' : id = i := e
        subst e'
        rw [Nat.beq_refl] at hq
        cases hq
      · exact h
theorem look_miss {α : Type} {d : α} {id : Nat} : ∀ {u o : List (Nat × α)}, id ∉ u.map (·.1) → look d (u ++ o) id = look d o id
  | [], _, _ => rfl
  | (i, x) :: u, o, h => by
    show look d ((i, x) :: (u ++ o)) id = _
    have h1 : ¬ id = i := fun e => h (by rw [e]; exact List.mem_cons_self)
    have : Nat.beq i id = false := by
      cases hq : Nat.beq i id with
      | false => rfl
      | true => exact absurd (Nat.eq_of_beq_eq_true hq).symm h1
    simp only [look, this, cond_false]
    exact look_miss fun hm => h (List.mem_cons_of_mem _ hm)
theorem app_tmp_hit {x : Tr} {S S' : St} {t : Nat} (h : x.o.dst = some t) : (x.app S).tmp t = (x.app S').tmp t := by
  unfold Tr.app St.tmp
  rw [h]
  simp [look]
theorem app_tmp_miss {x : Tr} {S : St} {t : Nat} (h : x.o.dst ≠ some t) : (x.app S).tmp t = S.tmp t := by
  unfold Tr.app St.tmp
  cases hd : x.o.dst with
  | none => rfl
  | some d =>
    have : Nat.beq d t = false := by
      cases hq : Nat.beq d t with
      | false => rfl
      | true => exact absurd (by rw [hd, Nat.eq_of_beq_eq_true hq]) h
    simp [look, this]
theorem app_tmp {x : Tr} {S S' : St} {t : Nat} (h : S.tmp t = S'.tmp t) : (x.app S).tmp t = (x.app S').tmp t := by
  by_cases hd : x.o.dst = some t
  · exact app_tmp_hit hd
  · rw [app_tmp_miss hd, app_tmp_miss hd, h]
theorem app_ob {x : Tr} {S S' : St} {id : Nat} (h : S.ob id = S'.ob id) : (x.app S).ob id = (x.app S').ob id := look_app h
theorem app_ob_hit {x : Tr} {S S' : St} {id : Nat} (h : id ∈ wrs x.u) : (x.app S).ob id = (x.app S').ob id := look_hit h
theorem app_ob_miss {x : Tr} {S : St} {id : Nat} (h : id ∉ wrs x.u) : (x.app S).ob id = S.ob id := look_miss h
theorem app_eqv {x : Tr} {S S' : St} (h : Eqv S S') : Eqv (x.app S) (x.app S') := ⟨fun i => app_tmp (h.1 i), fun i => app_ob (h.2 i)⟩
/-- What those of D made. -/
def made (D : Nat → Bool) : List Tr → Nat → St → St
  | [], _, S => S
  | x :: l, i, S => made D l (i + 1) (bif D i then x.app S else S)
theorem made_eqv {D : Nat → Bool} : ∀ {l : List Tr} {i : Nat} {S S' : St}, Eqv S S' → Eqv (made D l i S) (made D l i S')
  | [], _, _, _, h => h
  | x :: l, i, S, S', h => by
    refine made_eqv (l := l) ?_
    cases D i
    · exact h
    · exact app_eqv h
theorem made_tmp {D F : Nat → Bool} {t : Nat} : ∀ {l : List Tr} {i : Nat} {S S' : St}, S.tmp t = S'.tmp t → (∀ j x, l[j]? = some x → D (i + j) ≠ F (i + j) → x.o.dst ≠ some t) → (made D l i S).tmp t = (made F l i S').tmp t
  | [], _, _, _, h, _ => h
  | x :: l, i, S, S', h, hd => by
    refine made_tmp (l := l) ?_ fun j y hj hne => hd (j + 1) y (by simpa using hj) (by rwa [show i + (j + 1) = i + 1 + j by omega])
    have h0 := hd 0 x rfl
    rw [Nat.add_zero] at h0
    cases hD : D i <;> cases hF : F i <;> simp only [cond_true, cond_false]
    · exact h
    · rw [app_tmp_miss (h0 (by rw [hD, hF]; simp))]; exact h
    · rw [app_tmp_miss (h0 (by rw [hD, hF]; simp))]; exact h
    · exact app_tmp h
theorem made_ob {D F : Nat → Bool} {id : Nat} : ∀ {l : List Tr} {i : Nat} {S S' : St}, S.ob id = S'.ob id → (∀ j x, l[j]? = some x → D (i + j) ≠ F (i + j) → id ∉ wrs x.u) → (made D l i S).ob id = (made F l i S').ob id
  | [], _, _, _, h, _ => h
  | x :: l, i, S, S', h, hd => by
    refine made_ob (l := l) ?_ fun j y hj hne => hd (j + 1) y (by simpa using hj) (by rwa [show i + (j + 1) = i + 1 + j by omega])
    have h0 := hd 0 x rfl
    rw [Nat.add_zero] at h0
    cases hD : D i <;> cases hF : F i <;> simp only [cond_true, cond_false]
    · exact h
    · rw [app_ob_miss (h0 (by rw [hD, hF]; simp))]; exact h
    · rw [app_ob_miss (h0 (by rw [hD, hF]; simp))]; exact h
    · exact app_ob h
/-- One more of them, that none behind it has a word with. -/
theorem made_add_tmp {D : Nat → Bool} {t : Nat} {l : List Tr} {i k : Nat} {x : Tr} {S S' : St} (hx : l[k]? = some x) (hD : D (i + k) = false) (h : S.tmp t = S'.tmp t) (hc : x.o.dst = some t → ∀ j y, l[j]? = some y → k < j → D (i + j) = true → y.o.dst ≠ some t) :
    (x.app (made D l i S)).tmp t = (made (fun j => D j || Nat.beq j (i + k)) l i S').tmp t := by
  induction l generalizing i k S S' with
  | nil => simp at hx
  | cons y l ih =>
    cases k with
    | zero =>
        simp at hx; subst hx
        rw [Nat.add_zero] at hD
        unfold made
        simp only [hD, Nat.add_zero, Nat.beq_refl, Bool.or_true, cond_true, cond_false]
        have hrest : (made D l (i + 1) S).tmp t = (made (fun j => D j || Nat.beq j i) l (i + 1) S').tmp t := made_tmp h fun j z _ hne => by
          exfalso
          apply hne
          have : Nat.beq (i + 1 + j) i = false := by
            cases hq : Nat.beq (i + 1 + j) i with
            | false => rfl
            | true => have := Nat.eq_of_beq_eq_true hq; omega
          rw [this, Bool.or_false]
        by_cases hd : y.o.dst = some t
        · have h1 : (made (fun j => D j || Nat.beq j i) l (i + 1) (y.app S')).tmp t = (made (fun _ => false) l (i + 1) (y.app S')).tmp t := made_tmp rfl fun j z hz hne => by
            refine hc hd (j + 1) z (by simpa using hz) (by omega) ?_
            have : Nat.beq (i + 1 + j) i = false := by
              cases hq : Nat.beq (i + 1 + j) i with
              | false => rfl
              | true => have := Nat.eq_of_beq_eq_true hq; omega
            simp only [this, Bool.or_false] at hne
            rw [show i + (j + 1) = i + 1 + j by omega]
            cases hq : D (i + 1 + j) with
            | true => rfl
            | false => rw [hq] at hne; exact absurd rfl hne
          have h2 : ∀ (l : List Tr) (n : Nat) (A : St), made (fun _ => false) l n A = A := fun l => by
            induction l with
            | nil => intro n A; rfl
            | cons z l ih => intro n A; exact ih _ _
          rw [h1, h2]
          exact app_tmp_hit hd
        · rw [app_tmp_miss hd, hrest]
          exact made_tmp (app_tmp_miss hd).symm fun _ _ _ hne => absurd rfl hne
    | succ k =>
        have e : i + (k + 1) = i + 1 + k := by omega
        have hne : Nat.beq i (i + (k + 1)) = false := by
          cases hq : Nat.beq i (i + (k + 1)) with
          | false => rfl
          | true => have := Nat.eq_of_beq_eq_true hq; omega
        unfold made
        simp only [hne, Bool.or_false]
        rw [e]
        refine ih (by simpa using hx) (by rw [← e]; exact hD) ?_ fun hd j z hz hlt hDj => hc hd (j + 1) z (by simpa using hz) (by omega) (by rw [show i + (j + 1) = i + 1 + j by omega]; exact hDj)
        cases D i
        · exact h
        · exact app_tmp h
theorem made_add_ob {D : Nat → Bool} {t : Nat} {l : List Tr} {i k : Nat} {x : Tr} {S S' : St} (hx : l[k]? = some x) (hD : D (i + k) = false) (h : S.ob t = S'.ob t) (hc : t ∈ wrs x.u → ∀ j y, l[j]? = some y → k < j → D (i + j) = true → t ∉ wrs y.u) :
    (x.app (made D l i S)).ob t = (made (fun j => D j || Nat.beq j (i + k)) l i S').ob t := by
  induction l generalizing i k S S' with
  | nil => simp at hx
  | cons y l ih =>
    cases k with
    | zero =>
        simp at hx; subst hx
        rw [Nat.add_zero] at hD
        unfold made
        simp only [hD, Nat.add_zero, Nat.beq_refl, Bool.or_true, cond_true, cond_false]
        have hrest : (made D l (i + 1) S).ob t = (made (fun j => D j || Nat.beq j i) l (i + 1) S').ob t := made_ob h fun j z _ hne => by
          exfalso
          apply hne
          have : Nat.beq (i + 1 + j) i = false := by
            cases hq : Nat.beq (i + 1 + j) i with
            | false => rfl
            | true => have := Nat.eq_of_beq_eq_true hq; omega
          rw [this, Bool.or_false]
        by_cases hd : t ∈ wrs y.u
        · have h1 : (made (fun j => D j || Nat.beq j i) l (i + 1) (y.app S')).ob t = (made (fun _ => false) l (i + 1) (y.app S')).ob t := made_ob rfl fun j z hz hne => by
            refine hc hd (j + 1) z (by simpa using hz) (by omega) ?_
            have : Nat.beq (i + 1 + j) i = false := by
              cases hq : Nat.beq (i + 1 + j) i with
              | false => rfl
              | true => have := Nat.eq_of_beq_eq_true hq; omega
            simp only [this, Bool.or_false] at hne
            rw [show i + (j + 1) = i + 1 + j by omega]
            cases hq : D (i + 1 + j) with
            | true => rfl
            | false => rw [hq] at hne; exact absurd rfl hne
          have h2 : ∀ (l : List Tr) (n : Nat) (A : St), made (fun _ => false) l n A = A := fun l => by
            induction l with
            | nil => intro n A; rfl
            | cons z l ih => intro n A; exact ih _ _
          rw [h1, h2]
          exact app_ob_hit hd
        · rw [app_ob_miss hd, hrest]
          exact made_ob (app_ob_miss hd).symm fun _ _ _ hne => absurd rfl hne
    | succ k =>
        have e : i + (k + 1) = i + 1 + k := by omega
        have hne : Nat.beq i (i + (k + 1)) = false := by
          cases hq : Nat.beq i (i + (k + 1)) with
          | false => rfl
          | true => have := Nat.eq_of_beq_eq_true hq; omega
        unfold made
        simp only [hne, Bool.or_false]
        rw [e]
        refine ih (by simpa using hx) (by rw [← e]; exact hD) ?_ fun hd j z hz hlt hDj => hc hd (j + 1) z (by simpa using hz) (by omega) (by rw [show i + (j + 1) = i + 1 + j by omega]; exact hDj)
        cases D i
        · exact h
        · exact app_ob h
end Go.Proofs.Ytkoiogfhbipmjaa

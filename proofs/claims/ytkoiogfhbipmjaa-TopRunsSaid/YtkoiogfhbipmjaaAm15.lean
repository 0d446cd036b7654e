/-
  AN ABSTRACT MACHINE, 15: a region whose order is drawn: the law.
-/
import Derived.Test.YtkoiogfhbipmjaaAm14
import Derived.Test.YtkoiogfhbipmjaaRin
namespace Go.Proofs.Ytkoiogfhbipmjaa
open Go Go.RowKit

def reach (ops : Array Oper) : Nat → Nat → Nat → Bool
  | 0, _, _ => false
  | f + 1, i, j => match ops[j]? with
    | some o => o.after.toList.any (fun e => Region.binds .any e && Nat.beq e.on i) || o.after.toList.any fun e => Region.binds .any e && reach ops f i e.on
    | none => false
def meets (l m : List Nat) : Bool := l.any fun i => memB i m
def dstIn (d : Option Tmp) (l : List Nat) : Bool :=
  match d with
  | some t => memB t l
  | none => false
def dstEq (d d' : Option Tmp) : Bool :=
  match d, d' with
  | some t, some t' => Nat.beq t t'
  | _, _ => false
/-- They have a word with one another. -/
def conf (x y : Tr) : Bool := dstIn x.o.dst y.rd || dstIn y.o.dst x.rd || dstEq x.o.dst y.o.dst || meets (wrs x.u) y.ids || meets (wrs y.u) x.ids
def pairOk (ops : Array Oper) (i : Nat) (x : Tr) : List Tr → Nat → Bool
  | [], _ => true
  | y :: l, j => (!conf x y || reach ops ops.size i j) && pairOk ops i x l (j + 1)
def allOk (ops : Array Oper) : List Tr → Nat → Bool
  | [], _ => true
  | x :: l, i => pairOk ops i x l (i + 1) && x.o.after.toList.all (fun e => !Region.binds .any e || Nat.blt e.on i) && allOk ops l (i + 1)
def runTr {P : Program} (V : Env P) (n : Nat) (S : St) (o : Oper) (g : List Nat) : Tr := ⟨o, (opE V S n o.op).x, (opE V S n o.op).u, g ++ tmpsL o.op.operands.toList, n :: (opIds S o.op.operands.toList ++ wrs (opE V S n o.op).u)⟩
def skipTr (o : Oper) (d : Nat) : Tr := ⟨o, .tup [], [], [d], []⟩
def drawE {P : Program} (V : Env P) (nt : Nat) (ops : Array Oper) : List Oper → Nat → St → List Tr → (List Tr → St → Prop) → Prop
  | [], _, S, acc, k => k acc S
  | o :: rest, n, S, acc, k =>
    bif dstOk nt o.dst then
      (match guardOf ops o with
      | none => bif idsOk (n + 1) (opE V S n o.op).u then (opE V S n o.op).p ∧ drawE V nt ops rest (n + 1) (S.post o.dst (opE V S n o.op)) (runTr V n S o [] :: acc) k else False
      | some (some d, b) => match S.tmp d with
        | .one (.g (.v (.bool t))) => cond t
          (cond b (bif idsOk (n + 1) (opE V ⟨(d, .one (.b true)) :: S.t, S.o⟩ n o.op).u then (opE V ⟨(d, .one (.b true)) :: S.t, S.o⟩ n o.op).p ∧ drawE V nt ops rest (n + 1) (St.post ⟨(d, .one (.b true)) :: S.t, S.o⟩ o.dst (opE V ⟨(d, .one (.b true)) :: S.t, S.o⟩ n o.op)) (runTr V n ⟨(d, .one (.b true)) :: S.t, S.o⟩ o [d] :: acc) k else False)
            (drawE V nt ops rest (n + 1) (skipT ⟨(d, .one (.b true)) :: S.t, S.o⟩ o.dst) (skipTr o d :: acc) k))
          (cond b (drawE V nt ops rest (n + 1) (skipT ⟨(d, .one (.b false)) :: S.t, S.o⟩ o.dst) (skipTr o d :: acc) k)
            (bif idsOk (n + 1) (opE V ⟨(d, .one (.b false)) :: S.t, S.o⟩ n o.op).u then (opE V ⟨(d, .one (.b false)) :: S.t, S.o⟩ n o.op).p ∧ drawE V nt ops rest (n + 1) (St.post ⟨(d, .one (.b false)) :: S.t, S.o⟩ o.dst (opE V ⟨(d, .one (.b false)) :: S.t, S.o⟩ n o.op)) (runTr V n ⟨(d, .one (.b false)) :: S.t, S.o⟩ o [d] :: acc) k else False))
        | .tup _ => drawE V nt ops rest (n + 1) (skipT S o.dst) (skipTr o d :: acc) k
        | _ => False
      | some (none, _) => False)
    else False
section
variable {P : Program} {c : Cx} {ρ : Rho} {S : St} {a : Act} {w : World} {Q : Exit → Act → World → Prop} {ops : Array Oper}
/-- What one of them did, of this state. -/
def StepOk (V : Env P) (ops : Array Oper) (n : Nat) (S : St) (x : Tr) : Prop :=
  ((guardOf ops x.o = none ∨ ∃ d b, guardOf ops x.o = some (some d, b) ∧ S.tmp d = .one (.b b) ∧ d ∈ x.rd) ∧ (opE V S n x.o.op).p ∧ idsOk (n + 1) (opE V S n x.o.op).u = true ∧ x.v = (opE V S n x.o.op).x ∧ x.u = (opE V S n x.o.op).u ∧
    (∀ t, t ∈ tmpsL x.o.op.operands.toList → t ∈ x.rd) ∧ n ∈ x.ids ∧ (∀ id, id ∈ opIds S x.o.op.operands.toList → id ∈ x.ids) ∧ ∀ id, id ∈ wrs x.u → id ∈ x.ids) ∨
  ((∃ d b, guardOf ops x.o = some (some d, b) ∧ d ∈ x.rd ∧ ((∃ t, S.tmp d = .one (.b t) ∧ (t == b) = false) ∨ ∃ xs, S.tmp d = .tup xs)) ∧ x.v = .tup [] ∧ x.u = [])
def Good (V : Env P) (nt : Nat) (ops : Array Oper) : List Tr → Nat → Nat → St → Prop
  | [], _, _, _ => True
  | x :: l, i, n, S => ∃ S1, Eqv S S1 ∧ ops[i]? = some x.o ∧ dstOk nt x.o.dst = true ∧ StepOk V ops n S1 x ∧ Good V nt ops l (i + 1) (n + 1) (x.app S1)
theorem lit_eqv {d : Nat} {t : Bool} (hd : S.tmp d = .one (.b t)) : Eqv S ⟨(d, .one (.b t)) :: S.t, S.o⟩ := by
  refine ⟨fun i => ?_, fun _ => rfl⟩
  show S.tmp i = look _ ((d, .one (.b t)) :: S.t) i
  simp only [look]
  cases hq : Nat.beq d i with
  | true => rw [← Nat.eq_of_beq_eq_true hq, hd]; rfl
  | false => rfl
theorem drawE_good (V : Env P) {nt : Nat} : ∀ {l : List Oper} {i n : Nat} {S : St} {acc : List Tr} {k : List Tr → St → Prop}, (∀ m, l[m]? = ops[i + m]?) → drawE V nt ops l n S acc k →
    ∃ L Sf, L.length = l.length ∧ Good V nt ops L i n S ∧ Eqv Sf (made (fun _ => true) L i S) ∧ k (L.reverse ++ acc) Sf
  | [], i, n, S, acc, k, _, h => ⟨[], S, rfl, trivial, Eqv.refl S, h⟩
  | o :: rest, i, n, S, acc, k, hl, h => by
    have ho : ops[i]? = some o := by have := hl 0; simpa using this.symm
    have hl' : ∀ m, rest[m]? = ops[i + 1 + m]? := fun m => by
      have := hl (m + 1)
      rw [show i + (m + 1) = i + 1 + m by omega] at this
      simpa using this
    unfold drawE at h
    cases hd : dstOk nt o.dst with
    | false => rw [hd] at h; exact h.elim
    | true =>
      rw [hd] at h
      simp only [cond_true] at h
      have run : ∀ {S1 : St} {g : List Nat}, Eqv S S1 → (guardOf ops o = none ∨ ∃ d b, guardOf ops o = some (some d, b) ∧ S1.tmp d = .one (.b b) ∧ d ∈ g) →
          (bif idsOk (n + 1) (opE V S1 n o.op).u then (opE V S1 n o.op).p ∧ drawE V nt ops rest (n + 1) (S1.post o.dst (opE V S1 n o.op)) (runTr V n S1 o g :: acc) k else False) →
          ∃ L Sf, L.length = (o :: rest).length ∧ Good V nt ops L i n S ∧ Eqv Sf (made (fun _ => true) L i S) ∧ k (L.reverse ++ acc) Sf := fun {S1 g} he hg hk => by
        cases hi : idsOk (n + 1) (opE V S1 n o.op).u with
        | false => rw [hi] at hk; exact hk.elim
        | true =>
          rw [hi] at hk
          obtain ⟨L, Sf, q1, q2, q3, q4⟩ := drawE_good V hl' hk.2
          refine ⟨runTr V n S1 o g :: L, Sf, by simp [q1], ⟨S1, he, ho, hd, .inl ⟨?_, hk.1, hi, rfl, rfl, fun t ht => List.mem_append_right _ ht, List.mem_cons_self, fun id hid => List.mem_cons_of_mem _ (List.mem_append_left _ hid), fun id hid => List.mem_cons_of_mem _ (List.mem_append_right _ hid)⟩, q2⟩, q3.trans (made_eqv (app_eqv (x := runTr V n S1 o g) he.symm)), by simpa using q4⟩
          rcases hg with hg | ⟨d, b, h1, h2, h3⟩
          · exact .inl hg
          · exact .inr ⟨d, b, h1, h2, List.mem_append_left _ h3⟩
      have skip : ∀ {S1 : St} {d : Nat} {b : Bool}, Eqv S S1 → guardOf ops o = some (some d, b) → ((∃ t, S1.tmp d = .one (.b t) ∧ (t == b) = false) ∨ ∃ xs, S1.tmp d = .tup xs) →
          drawE V nt ops rest (n + 1) (skipT S1 o.dst) (skipTr o d :: acc) k →
          ∃ L Sf, L.length = (o :: rest).length ∧ Good V nt ops L i n S ∧ Eqv Sf (made (fun _ => true) L i S) ∧ k (L.reverse ++ acc) Sf := fun {S1 d b} he hg ht hk => by
        obtain ⟨L, Sf, q1, q2, q3, q4⟩ := drawE_good V hl' hk
        exact ⟨skipTr o d :: L, Sf, by simp [q1], ⟨S1, he, ho, hd, .inr ⟨⟨d, b, hg, List.mem_cons_self, ht⟩, rfl, rfl⟩, q2⟩, q3.trans (made_eqv (app_eqv (x := skipTr o d) he.symm)), by simpa using q4⟩
      cases hg : guardOf ops o with
      | none => rw [hg] at h; exact run (g := []) (Eqv.refl S) (.inl hg) h
      | some gb =>
        obtain ⟨g, b⟩ := gb
        rw [hg] at h
        cases g with
        | none => exact h.elim
        | some d =>
          dsimp only at h
          split at h
          · rename_i t ht
            have he := lit_eqv ht
            have hl1 : St.tmp ⟨(d, .one (.b t)) :: S.t, S.o⟩ d = .one (.b t) := (he.1 d).symm.trans ht
            cases t <;> cases b <;> simp only [cond_true, cond_false] at h
            · exact run (g := [d]) he (.inr ⟨d, false, hg, hl1, List.mem_cons_self⟩) h
            · exact skip he hg (.inl ⟨false, hl1, rfl⟩) h
            · exact skip he hg (.inl ⟨true, hl1, rfl⟩) h
            · exact run (g := [d]) he (.inr ⟨d, true, hg, hl1, List.mem_cons_self⟩) h
          · rename_i xs ht
            exact skip (Eqv.refl S) hg (.inr ⟨xs, ht⟩) h
          · exact h.elim
theorem FreshFrom.eqv {S S' : St} {n : Nat} (h : FreshFrom S n) (he : Eqv S S') : FreshFrom S' n := fun id hid => by rw [← he.2 id]; exact h id hid
theorem good_at (V : Env P) {nt : Nat} (L : List Tr) : ∀ (i n k : Nat) (S : St) (x : Tr), Good V nt ops L i n S → FreshFrom S n → L[k]? = some x →
    ∃ S1, Eqv (made (fun j => Nat.blt j (i + k)) L i S) S1 ∧ StepOk V ops (n + k) S1 x ∧ ops[i + k]? = some x.o ∧ dstOk nt x.o.dst = true ∧ FreshFrom S1 (n + k) := by
  induction L with
  | nil => intro i n k S x _ _ hx; simp at hx
  | cons y L ih =>
    intro i n k S x hgood hf hx
    obtain ⟨S1, h1, h2, h3, h4, h5⟩ := hgood
    cases k with
    | zero =>
      have e : y = x := by simpa using hx
      subst e
      refine ⟨S1, ?_, h4, h2, h3, hf.eqv h1⟩
      have h5 : ∀ (l : List Tr) (m : Nat) (A : St), i ≤ m → made (fun j => Nat.blt j (i + 0)) l m A = A := fun l => by
        induction l with
        | nil => intro m A _; rfl
        | cons z l ih =>
          intro m A hm
          have hb : Nat.blt m (i + 0) = false := by
            cases hq : Nat.blt m (i + 0) with
            | false => rfl
            | true => have : m < i + 0 := Nat.le_of_ble_eq_true hq; omega
          show made _ l (m + 1) (bif Nat.blt m (i + 0) then z.app A else A) = A
          rw [hb]
          exact ih _ _ (by omega)
      rw [h5 _ _ _ (Nat.le_refl _)]
      exact h1
    | succ k =>
      have hfr : FreshFrom (y.app S1) (n + 1) := by
        have hf1 := hf.eqv h1
        intro id hid
        show look .no (y.u ++ S1.o) id = _
        rcases h4 with h4 | h4
        · rw [h4.2.2.2.2.1, look_no (idsOk_mem h4.2.2.1) id hid]
          exact hf1 id (by omega)
        · rw [h4.2.2]
          exact hf1 id (by omega)
      obtain ⟨S2, q1, q2, q3, q4, q5⟩ := ih (i + 1) (n + 1) k (y.app S1) x h5 hfr (by simpa using hx)
      rw [show i + 1 + k = i + (k + 1) by omega] at q1 q3
      rw [show n + 1 + k = n + (k + 1) by omega] at q2 q5
      refine ⟨S2, Eqv.trans ?_ q1, q2, q3, q4, q5⟩
      have hb : Nat.blt i (i + (k + 1)) = true := Nat.ble_eq_true_of_le (by omega)
      show Eqv (made _ L (i + 1) (bif Nat.blt i (i + (k + 1)) then y.app S else S)) _
      rw [hb]
      exact made_eqv (app_eqv h1)
def Closed (ops : Array Oper) (D : Nat → Bool) : Prop := ∀ j o e, D j = true → ops[j]? = some o → e ∈ o.after.toList → Region.binds .any e = true → D e.on = true
theorem reach_closed {D : Nat → Bool} (h : Closed ops D) : ∀ {f i j : Nat}, reach ops f i j = true → D j = true → D i = true
  | f + 1, i, j, hr, hD => by
    unfold reach at hr
    split at hr
    · rename_i o ho
      rw [Bool.or_eq_true] at hr
      rcases hr with hr | hr
      · obtain ⟨e, he, hb⟩ := List.any_eq_true.1 hr
        rw [Bool.and_eq_true] at hb
        have := h j o e hD ho he hb.1
        rwa [Nat.eq_of_beq_eq_true hb.2] at this
      · obtain ⟨e, he, hb⟩ := List.any_eq_true.1 hr
        rw [Bool.and_eq_true] at hb
        exact reach_closed h hb.2 (h j o e hD ho he hb.1)
    · cases hr
theorem pairOk_at {i : Nat} {x : Tr} (l : List Tr) : ∀ (j m : Nat) (y : Tr), pairOk ops i x l j = true → l[m]? = some y → conf x y = true → reach ops ops.size i (j + m) = true := by
  induction l with
  | nil => intro j m y _ hy; simp at hy
  | cons z l ih =>
    intro j m y h hy hc
    unfold pairOk at h
    rw [Bool.and_eq_true, Bool.or_eq_true] at h
    cases m with
    | zero =>
      have e : z = y := by simpa using hy
      subst e
      rcases h.1 with h | h
      · rw [hc] at h; cases h
      · exact h
    | succ m =>
      rw [show j + (m + 1) = j + 1 + m by omega]
      exact ih (j + 1) m y h.2 (by simpa using hy) hc
theorem allOk_at (l : List Tr) : ∀ (i k m : Nat) (x y : Tr), allOk ops l i = true → l[k]? = some x → l[m]? = some y → k < m → conf x y = true → reach ops ops.size (i + k) (i + m) = true := by
  induction l with
  | nil => intro i k m x y _ hx; simp at hx
  | cons z l ih =>
    intro i k m x y h hx hy hlt hc
    unfold allOk at h
    rw [Bool.and_eq_true, Bool.and_eq_true] at h
    obtain ⟨m', rfl⟩ : ∃ m', m = m' + 1 := ⟨m - 1, by omega⟩
    cases k with
    | zero =>
      have e : z = x := by simpa using hx
      subst e
      rw [show i + (m' + 1) = i + 1 + m' by omega]
      exact pairOk_at l (i + 1) m' y h.1.1 (by simpa using hy) hc
    | succ k =>
      rw [show i + (k + 1) = i + 1 + k by omega, show i + (m' + 1) = i + 1 + m' by omega]
      exact ih (i + 1) k m' x y h.2 (by simpa using hx) (by simpa using hy) (by omega) hc
theorem allOk_edge (l : List Tr) : ∀ (i k : Nat) (x : Tr) (e : Edge), allOk ops l i = true → l[k]? = some x → e ∈ x.o.after.toList → Region.binds .any e = true → e.on < i + k := by
  induction l with
  | nil => intro i k x e _ hx; simp at hx
  | cons z l ih =>
    intro i k x e h hx he hb
    unfold allOk at h
    rw [Bool.and_eq_true, Bool.and_eq_true] at h
    cases k with
    | zero =>
      have e' : z = x := by simpa using hx
      subst e'
      have := List.all_eq_true.1 h.1.2 e he
      rw [hb] at this
      have h2 : e.on < i := Nat.le_of_ble_eq_true (by simpa [Nat.blt] using this)
      omega
    | succ k =>
      have := ih (i + 1) k x e h.2 (by simpa using hx) he hb
      omega
theorem SR.congr {S' : St} (h : SR c ρ S a w) (he : Eqv S S') : SR c ρ S' a w where
  tm := fun i => by
    have h1 := h.tm i
    rw [he.1 i] at h1
    rwa [show S.ob = S'.ob from funext he.2] at h1
  sz := h.sz
  df := h.df
  ob := fun id => by rw [← he.2 id]; exact h.ob id
  lv := h.lv
  ij := h.ij
  fr := h.fr
  xo := h.xo
  xl := h.xl
end
end Go.Proofs.Ytkoiogfhbipmjaa
